/-
  l03Less, l03With, l03HasInt of the model.
-/
import Derived.Test.YtkjnbjohicgooaaGreatFlat
namespace Go.Proofs.YtkjnbjohicgooaaGreat
open Go.RowKit
set_option linter.unusedVariables false

theorem lessL_take (d : List LinkD) (s : ByteArray) (k : Nat) (hk : k < d.length) (x : LinkD) (hx : d[k] = x) :
    lessL (d.take (k + 1)) s = if x.1 = s then lessL (d.take k) s else lessL (d.take k) s ++ [x] := by
  unfold lessL
  rw [List.take_succ_eq_append_getElem hk, hx, List.filter_append]
  by_cases h : x.1 = s <;> simp [h]

theorem lessL_small {l : List LinkD} (h : SmallS l) (s : ByteArray) : SmallS (lessL l s) := fun x hx => h x (List.mem_filter.1 hx).1
theorem lessL_len (l : List LinkD) (s : ByteArray) : (lessL l s).length ≤ l.length := List.length_filter_le _ _

set_option maxRecDepth 100000 in
set_option maxHeartbeats 1000000 in
theorem specLess_ok (a : Option Addr) (n cap : Nat) (d : List LinkD) (s : ByteArray) (w : World) (hr : Reads (.sl shLink) w [.slice a n cap] d) (hn : n ≤ 2000000) :
    Calls Tryz.prog 119 #[.slice a n cap, .string s] w fun e w' => ∃ g c, e = .returned (.slice (some ⟨g, 0, none⟩) (lessL d s).length c) ∧
      Own (.sl shLink) w' w.heap.size [.slice (some ⟨g, 0, none⟩) (lessL d s).length c] (lessL d s) [g] ∧ Below w.heap.size w w' := by
  obtain ⟨hl0, hc1, hc2⟩ := reads_len hr
  have hl : List.length (α := LinkD) d = n := hl0
  have hsm := reads_small hr
  obtain ⟨i0, hi, hz0, hz1, hz2⟩ := info_parts infoLink
  unfold maxLen at hc2
  have HR : Hid (Reads (.sl shLink) w [.slice a n cap] d) := hr
  have HL : Hid (List.length (α := LinkD) d = n ∧ SmallS d) := ⟨hl, hsm⟩
  have hown0 := World.ownsRow_lit (base := w.heap.size) (e := 81) (size := 2) w #[] 0 (Nat.le_refl _) (Nat.zero_le _) rfl
  clear hr hl hl0 hsm
  go_enter Tryz.func119, Tryz.ntmps119
  go_wp2
  go_loopw [5, 11] (fun v i wr => ∃ (k g c m : Nat) (xs : List LinkD), k ≤ n ∧ v = .slice (some ⟨g, 0, none⟩) m c ∧ i = .int .i64 k ∧ wr.ownsRow w.heap.size 81 2 (.slice (some ⟨g, 0, none⟩) m c) m (cellsL xs) ∧ Below w.heap.size w wr ∧
      Hid (xs = lessL (List.take (α := LinkD) k d) s ∧ xs.length = m) ∧ m ≤ k) (fun _ i _ => n - (intOf i).toNat)
  case atStart => exact ⟨0, _, 0, 0, [], Nat.zero_le _, rfl, rfl, hown0, (Below.refl _ _).alloc (Nat.le_refl _) _, ⟨by simp [lessL], rfl⟩, Nat.le_refl _⟩
  case round =>
    obtain ⟨k, g, c, m, xs, hk, rfl, rfl, hown, hbel, hx0, hxl⟩ := hrel
    have hbs := hbel.size
    have hg := hown.lt g rfl
    by_cases hlt : k < n
    · obtain ⟨b, off, cc, x, rfl, hb, hx, hrx, hcell⟩ := reads_elem HR.out k hlt
      obtain ⟨rfl, _⟩ := open_Link hrx
      obtain ⟨hkd, hxe⟩ := at_some' hx
      have hst := lessL_take d s k hkd x hxe
      obtain ⟨y0, ey0⟩ : ∃ y : ByteArray, y = x.1 := ⟨_, rfl⟩
      obtain ⟨y1, ey1⟩ : ∃ y : Int, y = x.2.1 := ⟨_, rfl⟩
      have g0 : wr.cell? ⟨b, off + k * 2, none⟩ = some (.string y0) := by rw [ey0]; exact (hbel.cell (p := ⟨b, off + (k * 2 + 0), none⟩) hb).trans (hcell 0 (by decide))
      have g1 : wr.cell? ⟨b, off + k * 2 + 1, none⟩ = some (.int .i64 y1) := by rw [ey1]; exact (hbel.cell (p := ⟨b, off + (k * 2 + 1), none⟩) hb).trans (hcell 1 (by decide))
      have bA : Below w.heap.size w (wr.alloc (.cells #[.string y0, .int .i64 y1] 81)) := hbel.alloc hbs _
      have oA : (wr.alloc (.cells #[.string y0, .int .i64 y1] 81)).ownsRow w.heap.size 81 2 (.slice (some ⟨g, 0, none⟩) m c) m (cellsL xs) := hown.alloc _
      rw [← ey0] at hst
      by_cases hs : y0 = s
      · rw [if_pos hs] at hst
        have HX : Hid (xs = lessL (List.take (α := LinkD) (k + 1) d) s ∧ xs.length = m) := ⟨by rw [hst]; exact hx0.out.1, hx0.out.2⟩
        subst hs
        have hq : (y0.toList != y0.toList) = false := by simp
        clear hcell hrx hx hxe ey0 ey1 hst hx0 hown
        go_wp2
        go_roundw
        case rel => exact ⟨k + 1, g, c, m, xs, by omega, rfl, by go_num, oA, bA, HX, by omega⟩
        case measure => simp [intOf]; omega
      · rw [if_neg hs] at hst
        have HX : Hid (xs ++ [(y0, y1, ())] = lessL (List.take (α := LinkD) (k + 1) d) s ∧ (xs ++ [((y0, y1, ()) : LinkD)]).length = m + 1) :=
          ⟨by rw [hst, hx0.out.1, ey0, ey1]; rfl, by rw [List.length_append, hx0.out.2]; rfl⟩
        have hq := str_neq hs
        clear hcell hrx hx hxe ey0 ey1 hst hx0 hown hs
        go_wp2_with (at_builtin; refine wpList_append_lies _ rfl _ _ 28 rfl w.heap.size 81 i0 (.agg #[.string ByteArray.empty, .int .i64 0]) 2 24 Tryz.underlying28 hi hz0 hz1 hz2 rfl (by decide) _ m _ rfl (oA.alloc _) ⟨_, 0, none⟩ 1 _ [.string y0, .int .i64 y1] rfl rfl ?c1 ?c2 (by omega) ?c3 ?c4 ?c5 _ rfl ?_)
        case c1 => exact cells_new' _ _ _ _ (by simp)
        case c2 => intro u hu; simp at hu; rcases hu with rfl | rfl <;> rfl
        case c3 => unfold maxLen; omega
        case c4 => omega
        case c5 => simp; omega
        intro gg cap1 w3 hown3 hgrow3 _ _
        have bB := bA.alloc (o := .cells #[.string y0, .int .i64 y1] 81) bA.size
        have hbel3 : Below w.heap.size w w3 := bB.grown hgrow3 bB.size (fun y h => by cases h; exact hg.1)
        rw [← cellsL_snoc xs (y0, y1, ())] at hown3
        clear hgrow3 oA bA bB g0 g1
        go_wp2
        go_roundw
        case rel => exact ⟨k + 1, gg, cap1, m + 1, xs ++ [(y0, y1, ())], by omega, rfl, by go_num, hown3, hbel3, HX, by omega⟩
        case measure => simp [intOf]; omega
    · have e : k = n := by omega
      have HE : Hid (xs = lessL d s ∧ xs.length = m) := by
        have h1 := hx0.out.1
        have h2 : List.take (α := LinkD) k d = d := List.take_of_length_le (by have := HL.out.1; omega)
        rw [h2] at h1
        exact ⟨h1, hx0.out.2⟩
      clear hx0
      go_wp2
      go_ret
      refine ⟨g, c, ?_, ?_, hbel⟩
      · rw [← HE.out.1, HE.out.2]; rfl
      · rw [← HE.out.1, HE.out.2]
        exact own_links HE.out.2 (by rw [HE.out.1]; exact lessL_small HL.out.2 s) hown

theorem ltS_gt {x s : ByteArray} (h : ltS s x = true) : Go.Op.bytesLess x.toList s.toList = false ∧ (x.toList == s.toList) = false := by
  refine ⟨?_, ?_⟩
  · cases e : Go.Op.bytesLess x.toList s.toList
    · rfl
    · have := bytesLess_trans h e; rw [bytesLess_irrefl] at this; cases this
  · exact str_neq fun e => ltS_ne h e.symm

theorem ltS_not {x s : ByteArray} (h : ltS s x = false) : Go.Op.bytesLess x.toList s.toList = true ∨ x = s := by
  cases e : Go.Op.bytesLess x.toList s.toList
  · exact .inr (ltS_total e h)
  · exact .inl rfl

/-- What the loop of l03With still owes. -/
def owes (b : Bool) (l : List LinkD) (s : ByteArray) (id : Int) : List LinkD := if b then l else withL l s id

theorem drop_at {d : List LinkD} {k : Nat} (hk : k < d.length) {x : LinkD} (hx : d[k] = x) : d.drop k = x :: d.drop (k + 1) := by
  rw [List.drop_eq_getElem_cons hk, hx]

theorem withL_len (l : List LinkD) (s : ByteArray) (id : Int) : (withL l s id).length = l.length + 1 := by
  induction l with
  | nil => rfl
  | cons x l ih => unfold withL; split <;> simp [ih]
theorem withL_small {l : List LinkD} (h : SmallS l) {s : ByteArray} (hs : s.size ≤ maxLen) (id : Int) : SmallS (withL l s id) := fun x hx => by
  rcases mem_with hx with rfl | h'
  · exact hs
  · exact h x h'

set_option maxRecDepth 100000 in
set_option maxHeartbeats 2000000 in
theorem specWith_ok (a : Option Addr) (n cap : Nat) (d : List LinkD) (s : ByteArray) (id : Int) (w : World) (hr : Reads (.sl shLink) w [.slice a n cap] d) (hs : s.size ≤ maxLen) (hn : n ≤ 2000000) :
    Calls Tryz.prog 118 #[.slice a n cap, .string s, .int .i64 id] w fun e w' => ∃ g c, e = .returned (.slice (some ⟨g, 0, none⟩) (withL d s id).length c) ∧
      Own (.sl shLink) w' w.heap.size [.slice (some ⟨g, 0, none⟩) (withL d s id).length c] (withL d s id) [g] ∧ Below w.heap.size w w' := by
  obtain ⟨hl0, hc1, hc2⟩ := reads_len hr
  have hl : List.length (α := LinkD) d = n := hl0
  have hsm := reads_small hr
  obtain ⟨i0, hi, hz0, hz1, hz2⟩ := info_parts infoLink
  unfold maxLen at hc2
  have HR : Hid (Reads (.sl shLink) w [.slice a n cap] d) := hr
  have HL : Hid (List.length (α := LinkD) d = n ∧ SmallS d ∧ s.size ≤ maxLen) := ⟨hl, hsm, hs⟩
  have hown0 := World.ownsRow_lit (base := w.heap.size) (e := 81) (size := 2) w #[] 0 (Nat.le_refl _) (Nat.zero_le _) rfl
  clear hr hl hl0 hsm hs
  go_enter Tryz.func118, Tryz.ntmps118
  go_wp2
  go_loopw [7, 8, 14] (fun v dn i wr => ∃ (k g c m : Nat) (b : Bool) (xs : List LinkD), k ≤ n ∧ v = .slice (some ⟨g, 0, none⟩) m c ∧ dn = .bool b ∧ i = .int .i64 k ∧ wr.ownsRow w.heap.size 81 2 (.slice (some ⟨g, 0, none⟩) m c) m (cellsL xs) ∧ Below w.heap.size w wr ∧
      Hid (xs ++ owes b (List.drop (α := LinkD) k d) s id = withL d s id ∧ xs.length = m) ∧ m ≤ k + 1 ∧ Hid (b = false → m ≤ k)) (fun _ _ i _ => n - (intOf i).toNat)
  case atStart => exact ⟨0, _, 0, 0, false, [], Nat.zero_le _, rfl, rfl, rfl, hown0, (Below.refl _ _).alloc (Nat.le_refl _) _, ⟨by simp [owes], rfl⟩, by omega, fun _ => Nat.le_refl _⟩
  case round =>
    obtain ⟨k, g, c, m, bb, xs, hk, rfl, rfl, rfl, hown, hbel, hx0, hxl, hxm⟩ := hrel
    have hbs := hbel.size
    have hg := hown.lt g rfl
    by_cases hlt : k < n
    · obtain ⟨b, off, cc, x, rfl, hb, hx, hrx, hcell⟩ := reads_elem HR.out k hlt
      obtain ⟨rfl, _⟩ := open_Link hrx
      obtain ⟨hkd, hxe⟩ := at_some' hx
      have hst := drop_at (d := d) hkd hxe
      obtain ⟨y0, ey0⟩ : ∃ y : ByteArray, y = x.1 := ⟨_, rfl⟩
      obtain ⟨y1, ey1⟩ : ∃ y : Int, y = x.2.1 := ⟨_, rfl⟩
      have g0 : wr.cell? ⟨b, off + k * 2, none⟩ = some (.string y0) := by rw [ey0]; exact (hbel.cell (p := ⟨b, off + (k * 2 + 0), none⟩) hb).trans (hcell 0 (by decide))
      have g1 : wr.cell? ⟨b, off + k * 2 + 1, none⟩ = some (.int .i64 y1) := by rw [ey1]; exact (hbel.cell (p := ⟨b, off + (k * 2 + 1), none⟩) hb).trans (hcell 1 (by decide))
      have bA : Below w.heap.size w (wr.alloc (.cells #[.string y0, .int .i64 y1] 81)) := hbel.alloc hbs _
      have oA : (wr.alloc (.cells #[.string y0, .int .i64 y1] 81)).ownsRow w.heap.size 81 2 (.slice (some ⟨g, 0, none⟩) m c) m (cellsL xs) := hown.alloc _
      have hxv : x = (y0, y1, ()) := by rw [ey0, ey1]; rfl
      rw [hxv] at hst
      clear hxv
      have H0 : Hid (List.drop (α := LinkD) k d = (y0, y1, ()) :: List.drop (α := LinkD) (k + 1) d) := hst
      clear hcell hrx hx hxe ey0 ey1 hst hown
      -- the plain step: x is appended
      have plain : Hid (owes bb (List.drop (α := LinkD) k d) s id = (y0, y1, ()) :: owes bb (List.drop (α := LinkD) (k + 1) d) s id → xs ++ [(y0, y1, ())] ++ owes bb (List.drop (α := LinkD) (k + 1) d) s id = withL d s id ∧ (xs ++ [((y0, y1, ()) : LinkD)]).length = m + 1) := fun h => by
        refine ⟨?_, by rw [List.length_append, hx0.out.2]; rfl⟩
        rw [← hx0.out.1, h]; simp
      cases bb with
      | true =>
        have HX := plain.out (by rw [H0.out]; rfl)
        have HX' : Hid (xs ++ [(y0, y1, ())] ++ owes true (List.drop (α := LinkD) (k + 1) d) s id = withL d s id ∧ (xs ++ [((y0, y1, ()) : LinkD)]).length = m + 1) := HX
        clear HX plain hx0 hxm
        go_wp2_with (at_builtin; refine wpList_append_lies _ rfl _ _ 28 rfl w.heap.size 81 i0 (.agg #[.string ByteArray.empty, .int .i64 0]) 2 24 Tryz.underlying28 hi hz0 hz1 hz2 rfl (by decide) _ m _ rfl (oA.alloc _) ⟨_, 0, none⟩ 1 _ [.string y0, .int .i64 y1] rfl rfl ?c1 ?c2 (by omega) ?c3 ?c4 ?c5 _ rfl ?_)
        case c1 => exact cells_new' _ _ _ _ (by simp)
        case c2 => intro u hu; simp at hu; rcases hu with rfl | rfl <;> rfl
        case c3 => unfold maxLen; omega
        case c4 => omega
        case c5 => simp; omega
        intro gg cap1 w3 hown3 hgrow3 _ _
        have bB := bA.alloc (o := .cells #[.string y0, .int .i64 y1] 81) bA.size
        have hbel3 : Below w.heap.size w w3 := bB.grown hgrow3 bB.size (fun y h => by cases h; exact hg.1)
        rw [← cellsL_snoc xs (y0, y1, ())] at hown3
        clear hgrow3 oA bA bB g0 g1
        go_wp2
        go_roundw
        case rel => exact ⟨k + 1, gg, cap1, m + 1, true, xs ++ [(y0, y1, ())], by omega, rfl, rfl, by go_num, hown3, hbel3, HX', by omega, fun h => by cases h⟩
        case measure => simp [intOf]; omega
      | false =>
        have hmk := hxm.out rfl
        cases hq : ltS s y0 with
        | true =>
          obtain ⟨q1, q2⟩ := ltS_gt hq
          have HX : Hid (xs ++ [(s, id, ())] ++ [(y0, y1, ())] ++ owes true (List.drop (α := LinkD) (k + 1) d) s id = withL d s id ∧ (xs ++ [(s, id, ())] ++ [((y0, y1, ()) : LinkD)]).length = m + 1 + 1) := by
            refine ⟨?_, by rw [List.length_append, List.length_append, hx0.out.2]; rfl⟩
            rw [← hx0.out.1, H0.out]
            have e : owes false ((y0, y1, ()) :: List.drop (α := LinkD) (k + 1) d) s id = (s, id, ()) :: (y0, y1, ()) :: List.drop (α := LinkD) (k + 1) d := by
              show withL _ s id = _
              unfold withL
              rw [if_pos hq]
            rw [e]
            simp [owes]
          clear plain hx0 hxm hq
          go_wp2_with (at_builtin; refine wpList_append_lies _ rfl _ _ 28 rfl w.heap.size 81 i0 (.agg #[.string ByteArray.empty, .int .i64 0]) 2 24 Tryz.underlying28 hi hz0 hz1 hz2 rfl (by decide) _ m _ rfl (oA.alloc _) ⟨_, 0, none⟩ 1 _ [.string s, .int .i64 id] rfl rfl ?c1 ?c2 (by omega) ?c3 ?c4 ?c5 _ rfl ?_)
          case c1 => exact cells_new' _ _ _ _ (by simp)
          case c2 => intro u hu; simp at hu; rcases hu with rfl | rfl <;> rfl
          case c3 => unfold maxLen; omega
          case c4 => omega
          case c5 => simp; omega
          intro gg cap1 w3 hown3 hgrow3 hloc3 hlt3
          have bB := bA.alloc (o := .cells #[.string s, .int .i64 id] 81) bA.size
          have hbel3 : Below w.heap.size w w3 := bB.grown hgrow3 bB.size (fun y h => by cases h; exact hg.1)
          rw [← cellsL_snoc xs (s, id, ())] at hown3
          have hs3 := hgrow3.size
          simp at hs3
          have hbx := heap_alloc_new wr (.cells #[.string y0, .int .i64 y1] 81)
          have hbx2 : ((wr.alloc (.cells #[.string y0, .int .i64 y1] 81)).alloc (.cells #[.string s, .int .i64 id] 81)).heap[wr.heap.size]? = some (.cells #[.string y0, .int .i64 y1] 81 (0, 0)) := by rw [heap_alloc_old _ _ (by simp)]; exact hbx
          have k0 : w3.cell? ⟨wr.heap.size, 0, none⟩ = some (.string y0) := hgrow3.cell (box_cell hbx2 rfl) (by simp [Value.ownBlock]; omega)
          have k1 : w3.cell? ⟨wr.heap.size, 1, none⟩ = some (.int .i64 y1) := hgrow3.cell (box_cell hbx2 rfl) (by simp [Value.ownBlock]; omega)
          have hg3 := hown3.lt gg rfl
          have hbs3 := hbel3.size
          clear hgrow3 oA bA bB g0 g1 hbx hbx2 hloc3
          go_wp2_with (at_builtin; refine wpList_append_lies _ rfl _ _ 28 rfl w.heap.size 81 i0 (.agg #[.string ByteArray.empty, .int .i64 0]) 2 24 Tryz.underlying28 hi hz0 hz1 hz2 rfl (by decide) _ (m + 1) _ rfl (hown3.alloc _) ⟨_, 0, none⟩ 1 _ [.string y0, .int .i64 y1] rfl rfl ?c1 ?c2 (by omega) ?c3 ?c4 ?c5 _ rfl ?_)
          case c1 => exact cells_new' _ _ _ _ (by simp)
          case c2 => intro u hu; simp at hu; rcases hu with rfl | rfl <;> rfl
          case c3 => unfold maxLen; omega
          case c4 => omega
          case c5 => simp; omega
          intro gg5 cap5 w5 hown5 hgrow5 _ _
          have bC := hbel3.alloc (o := .cells #[.string y0, .int .i64 y1] 81) hbel3.size
          have hbel5 : Below w.heap.size w w5 := bC.grown hgrow5 bC.size (fun y h => by cases h; exact hg3.1)
          rw [← cellsL_snoc (xs ++ [(s, id, ())]) (y0, y1, ())] at hown5
          clear hgrow5 bC hown3 k0 k1
          go_wp2
          go_roundw
          case rel => exact ⟨k + 1, gg5, cap5, m + 1 + 1, true, xs ++ [(s, id, ())] ++ [(y0, y1, ())], by omega, rfl, rfl, by go_num, hown5, hbel5, HX, by omega, fun h => by cases h⟩
          case measure => simp [intOf]; omega
        | false =>
          have HX := plain.out (by
            rw [H0.out]
            show withL _ s id = _
            conv => lhs; unfold withL
            rw [if_neg (by rw [hq]; simp)]
            rfl)
          have HX' : Hid (xs ++ [(y0, y1, ())] ++ owes false (List.drop (α := LinkD) (k + 1) d) s id = withL d s id ∧ (xs ++ [((y0, y1, ()) : LinkD)]).length = m + 1) := HX
          clear HX plain hx0 hxm
          rcases ltS_not hq with q | rfl
          · clear hq
            go_wp2_with (at_builtin; refine wpList_append_lies _ rfl _ _ 28 rfl w.heap.size 81 i0 (.agg #[.string ByteArray.empty, .int .i64 0]) 2 24 Tryz.underlying28 hi hz0 hz1 hz2 rfl (by decide) _ m _ rfl (oA.alloc _) ⟨_, 0, none⟩ 1 _ [.string y0, .int .i64 y1] rfl rfl ?c1 ?c2 (by omega) ?c3 ?c4 ?c5 _ rfl ?_)
            case c1 => exact cells_new' _ _ _ _ (by simp)
            case c2 => intro u hu; simp at hu; rcases hu with rfl | rfl <;> rfl
            case c3 => unfold maxLen; omega
            case c4 => omega
            case c5 => simp; omega
            intro gg cap1 w3 hown3 hgrow3 _ _
            have bB := bA.alloc (o := .cells #[.string y0, .int .i64 y1] 81) bA.size
            have hbel3 : Below w.heap.size w w3 := bB.grown hgrow3 bB.size (fun y h => by cases h; exact hg.1)
            rw [← cellsL_snoc xs (y0, y1, ())] at hown3
            clear hgrow3 oA bA bB g0 g1
            go_wp2
            go_roundw
            case rel => exact ⟨k + 1, gg, cap1, m + 1, false, xs ++ [(y0, y1, ())], by omega, rfl, rfl, by go_num, hown3, hbel3, HX', by omega, fun _ => by show m + 1 ≤ k + 1; omega⟩
            case measure => simp [intOf]; omega
          · have q1 := bytesLess_irrefl y0.toList
            have q2 : (y0.toList == y0.toList) = true := by simp
            clear hq
            go_wp2_with (at_builtin; refine wpList_append_lies _ rfl _ _ 28 rfl w.heap.size 81 i0 (.agg #[.string ByteArray.empty, .int .i64 0]) 2 24 Tryz.underlying28 hi hz0 hz1 hz2 rfl (by decide) _ m _ rfl (oA.alloc _) ⟨_, 0, none⟩ 1 _ [.string y0, .int .i64 y1] rfl rfl ?c1 ?c2 (by omega) ?c3 ?c4 ?c5 _ rfl ?_)
            case c1 => exact cells_new' _ _ _ _ (by simp)
            case c2 => intro u hu; simp at hu; rcases hu with rfl | rfl <;> rfl
            case c3 => unfold maxLen; omega
            case c4 => omega
            case c5 => simp; omega
            intro gg cap1 w3 hown3 hgrow3 _ _
            have bB := bA.alloc (o := .cells #[.string y0, .int .i64 y1] 81) bA.size
            have hbel3 : Below w.heap.size w w3 := bB.grown hgrow3 bB.size (fun y h => by cases h; exact hg.1)
            rw [← cellsL_snoc xs (y0, y1, ())] at hown3
            clear hgrow3 oA bA bB g0 g1
            go_wp2
            go_roundw
            case rel => exact ⟨k + 1, gg, cap1, m + 1, false, xs ++ [(y0, y1, ())], by omega, rfl, rfl, by go_num, hown3, hbel3, HX', by omega, fun _ => by show m + 1 ≤ k + 1; omega⟩
            case measure => simp [intOf]; omega
    · have e : k = n := by omega
      have hd : List.drop (α := LinkD) k d = [] := List.drop_eq_nil_of_le (by have := HL.out.1; omega)
      cases bb with
      | true =>
        have HE : Hid (xs = withL d s id ∧ xs.length = m) := by
          have h1 := hx0.out.1
          rw [hd] at h1
          have h2 : xs = withL d s id := by simpa [owes] using h1
          exact ⟨h2, hx0.out.2⟩
        clear hx0 hd hxm
        go_wp2
        go_ret
        refine ⟨g, c, ?_, ?_, hbel⟩
        · rw [← HE.out.1, HE.out.2]; rfl
        · rw [← HE.out.1, HE.out.2]
          exact own_links HE.out.2 (by rw [HE.out.1]; exact withL_small HL.out.2.1 HL.out.2.2 id) hown
      | false =>
        have hmk := hxm.out rfl
        have HE : Hid (xs ++ [(s, id, ())] = withL d s id ∧ (xs ++ [((s, id, ()) : LinkD)]).length = m + 1) := by
          have h1 := hx0.out.1
          rw [hd] at h1
          exact ⟨h1, by rw [List.length_append, hx0.out.2]; rfl⟩
        clear hx0 hd hxm
        go_wp2_with (at_builtin; refine wpList_append_lies _ rfl _ _ 28 rfl w.heap.size 81 i0 (.agg #[.string ByteArray.empty, .int .i64 0]) 2 24 Tryz.underlying28 hi hz0 hz1 hz2 rfl (by decide) _ m _ rfl (hown.alloc _) ⟨_, 0, none⟩ 1 _ [.string s, .int .i64 id] rfl rfl ?c1 ?c2 (by omega) ?c3 ?c4 ?c5 _ rfl ?_)
        case c1 => exact cells_new' _ _ _ _ (by simp)
        case c2 => intro u hu; simp at hu; rcases hu with rfl | rfl <;> rfl
        case c3 => unfold maxLen; omega
        case c4 => omega
        case c5 => simp; omega
        intro gg cap1 w3 hown3 hgrow3 _ _
        have bB := hbel.alloc (o := .cells #[.string s, .int .i64 id] 81) hbel.size
        have hbel3 : Below w.heap.size w w3 := bB.grown hgrow3 bB.size (fun y h => by cases h; exact hg.1)
        rw [← cellsL_snoc xs (s, id, ())] at hown3
        clear hgrow3 bB
        go_wp2
        go_ret
        refine ⟨gg, cap1, ?_, ?_, hbel3⟩
        · rw [← HE.out.1, HE.out.2]; rfl
        · rw [← HE.out.1, HE.out.2]
          exact own_links HE.out.2 (by rw [HE.out.1]; exact withL_small HL.out.2.1 HL.out.2.2 id) hown3

/-- A number is on a list. -/
def hasN (l : List Int) (x : Int) : Bool := l.contains x

theorem hasInt_drop (l : List Int) (x : Int) (k : Nat) (h : ∀ i (hi : i < l.length), i < k → l[i] ≠ x) : hasN l x = hasN (l.drop k) x := by
  induction k generalizing l with
  | zero => simp
  | succ k ih =>
    cases l with
    | nil => simp
    | cons y l =>
      have h0 := h 0 (by simp) (by omega)
      simp at h0
      rw [List.drop_succ_cons, ← ih l (fun i hi hk => by have := h (i + 1) (by simp; omega) (by omega); simpa using this)]
      simp [hasN, Ne.symm h0]

set_option maxHeartbeats 1000000 in
theorem specHasInt_ok (a : Option Addr) (n cap : Nat) (d : List Int) (x : Int) (w : World) (hr : Reads (.sl .int) w [.slice a n cap] d) :
    Calls Tryz.prog 62 #[.slice a n cap, .int .i64 x] w fun e w' => e = .returned (.bool (hasN d x)) ∧ w' = w := by
  obtain ⟨hl0, hc1, hc2⟩ := reads_len hr
  have hl : List.length (α := Int) d = n := hl0
  unfold maxLen at hc2
  have HR : Hid (Reads (.sl .int) w [.slice a n cap] d) := hr
  have HL : Hid (List.length (α := Int) d = n) := hl
  clear hr hl hl0
  go_enter Tryz.func62, Tryz.ntmps62
  go_wp2
  go_loop [9] (fun i => ∃ k : Nat, k ≤ n ∧ i = .int .i64 k ∧ Hid (∀ i (hi : i < List.length (α := Int) d), i < k → (d[i] : Int) ≠ x)) (fun i => n - (intOf i).toNat)
  case atStart => exact ⟨0, Nat.zero_le _, rfl, fun i _ hi => by omega⟩
  case round =>
    obtain ⟨k, hk, rfl, hno⟩ := hrel
    have hfd := hasInt_drop d x k hno.out
    by_cases hlt : k < n
    · obtain ⟨b, off, c, y, rfl, hb, hy, hry, hcell⟩ := reads_elem HR.out k hlt
      obtain ⟨hkd, hye⟩ := at_some' hy
      obtain ⟨z, hz⟩ : ∃ z : Int, z = y := ⟨_, rfl⟩
      have hyc : c = [.int .i64 z] := by rw [hz]; exact hry
      subst hyc
      have g0 : w.cell? ⟨b, off + k, none⟩ = some (.int .i64 z) := by have := hcell 0 (by decide); simpa [Sh.size_int] using this
      have hd : List.drop (α := Int) k d = z :: List.drop (α := Int) (k + 1) d := by
        have h1 := List.drop_eq_getElem_cons (l := (show List Int from d)) (i := k) hkd
        have h2 : (show List Int from d)[k] = z := hye.trans hz.symm
        rw [h2] at h1; exact h1
      rw [hd] at hfd
      by_cases hs : z = x
      · have E : Hid (hasN d x = true) := by show _ = _; rw [hfd]; simp [hasN, hs]
        have hq : (z == x) = true := by simp [hs]
        clear hcell hry hy hye hz hd hfd hno hs
        go_wp2
        go_ret
        exact ⟨by rw [E.out]; rfl, rfl⟩
      · have hq : (z == x) = false := by simp [hs]
        have HN : Hid (∀ i (hi : i < List.length (α := Int) d), i < k + 1 → (d[i] : Int) ≠ x) := by
          intro i hi hik
          by_cases e : i = k
          · subst e
            have h2 : (show List Int from d)[i] = z := hye.trans hz.symm
            exact fun e2 => hs (h2.symm.trans e2)
          · exact hno.out i hi (by omega)
        clear hcell hry hy hye hz hd hfd hno hs
        go_wp2
        go_round
        case rel => exact ⟨k + 1, by omega, by go_num, HN⟩
        case measure => simp [intOf]; omega
    · have E : Hid (hasN d x = false) := by
        show _ = _
        rw [hfd, List.drop_eq_nil_of_le (by have := HL.out; omega)]
        rfl
      clear hfd hno
      go_wp2
      go_ret
      exact ⟨by rw [E.out]; rfl, rfl⟩

end Go.Proofs.YtkjnbjohicgooaaGreat
