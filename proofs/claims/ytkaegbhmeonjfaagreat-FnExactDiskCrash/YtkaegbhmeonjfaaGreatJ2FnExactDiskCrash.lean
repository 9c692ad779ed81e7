/-
  Joined: DirS, TyNode, TyDisk, AppS.
-/
import Derived.Test.YtkaegbhmeonjfaaGreatJ1FnExactDiskCrash
import Derived.Test.YtkaegbhmeonjfaaGreatJ0FnExactDiskCrash
import Derived.Handy
import Derived.Deep.RegionHeld3
import Derived.Laws.AppendOwnNone
import Derived.Deep.AppendLies
import Derived.Lib.AppendStr
/- DirS: l03Less, l03With, l03HasInt of the model. -/
namespace Go.Proofs.YtkaegbhmeonjfaaGreat
open Go.RowKit
set_option linter.unusedVariables false
set_option maxRecDepth 100000

theorem lessL_take (d : List LinkD) (s : ByteArray) (k : Nat) (hk : k < d.length) (x : LinkD) (hx : d[k] = x) :
    lessL (d.take (k + 1)) s = if x.1 = s then lessL (d.take k) s else lessL (d.take k) s ++ [x] := by
  unfold lessL
  rw [List.take_succ_eq_append_getElem hk, hx, List.filter_append]
  by_cases h : x.1 = s <;> simp [h]

theorem lessL_small {l : List LinkD} (h : SmallS l) (s : ByteArray) : SmallS (lessL l s) := fun x hx => h x (List.mem_filter.1 hx).1
theorem lessL_len (l : List LinkD) (s : ByteArray) : (lessL l s).length ≤ l.length := List.length_filter_le _ _

set_option maxRecDepth 100000 in
set_option maxHeartbeats 1000000 in
theorem specLess_ok (a : Option Addr) (n cap : Nat) (d : List LinkD) (s : ByteArray) (w : World) (hr : Reads (.sl shLink) w [.slice a n cap] d) (hn : n ≤ 2000000) :
    Calls Tryz.prog 114 #[.slice a n cap, .string s] w fun e w' => ∃ g c, e = .returned (.slice (some ⟨g, 0, none⟩) (lessL d s).length c) ∧
      Own (.sl shLink) w' w.heap.size [.slice (some ⟨g, 0, none⟩) (lessL d s).length c] (lessL d s) [g] ∧ Below w.heap.size w w' := by
  obtain ⟨hl0, hc1, hc2⟩ := reads_len hr
  have hl : List.length (α := LinkD) d = n := hl0
  have hsm := reads_small hr
  obtain ⟨i0, hi, hz0, hz1, hz2⟩ := info_parts infoLink
  unfold maxLen at hc2
  have HR : Hid (Reads (.sl shLink) w [.slice a n cap] d) := hr
  have HL : Hid (List.length (α := LinkD) d = n ∧ SmallS d) := ⟨hl, hsm⟩
  have hown0 := World.ownsRow_lit (base := w.heap.size) (e := 111) (size := 2) w #[] 0 (Nat.le_refl _) (Nat.zero_le _) rfl
  clear hr hl hl0 hsm
  go_enter Tryz.func114, Tryz.ntmps114
  go_wp2
  go_loopw [5, 11] (fun v i wr => ∃ (k g c m : Nat) (xs : List LinkD), k ≤ n ∧ v = .slice (some ⟨g, 0, none⟩) m c ∧ i = .int .i64 k ∧ wr.ownsRow w.heap.size 111 2 (.slice (some ⟨g, 0, none⟩) m c) m (cellsL xs) ∧ Below w.heap.size w wr ∧
      Hid (xs = lessL (List.take (α := LinkD) k d) s ∧ xs.length = m) ∧ m ≤ k) (fun _ i _ => n - (intOf i).toNat)
  case atStart => exact ⟨0, _, 0, 0, [], Nat.zero_le _, rfl, rfl, hown0, (Below.refl _ _).alloc (Nat.le_refl _) _, ⟨by simp [lessL], rfl⟩, Nat.le_refl _⟩
  case round =>
    obtain ⟨k, g, c, m, xs, hk, rfl, rfl, hown, hbel, hx0, hxl⟩ := hrel
    have hbs := hbel.size
    have hg := hown.lt g rfl
    by_cases hlt : k < n
    · obtain ⟨b, off, cc, x, rfl, hb, hx, hrx, hcell⟩ := reads_elem HR.out k hlt
      obtain ⟨rfl, _⟩ := open_Link hrx
      obtain ⟨hkd, hxe⟩ := at_some' hx
      have hst := lessL_take d s k hkd x hxe
      obtain ⟨y0, ey0⟩ : ∃ y : ByteArray, y = x.1 := ⟨_, rfl⟩
      obtain ⟨y1, ey1⟩ : ∃ y : Int, y = x.2.1 := ⟨_, rfl⟩
      have g0 : wr.cell? ⟨b, off + k * 2, none⟩ = some (.string y0) := by rw [ey0]; exact (hbel.cell (p := ⟨b, off + (k * 2 + 0), none⟩) hb).trans (hcell 0 (by decide))
      have g1 : wr.cell? ⟨b, off + k * 2 + 1, none⟩ = some (.int .i64 y1) := by rw [ey1]; exact (hbel.cell (p := ⟨b, off + (k * 2 + 1), none⟩) hb).trans (hcell 1 (by decide))
      have bA : Below w.heap.size w (wr.alloc (.cells #[.string y0, .int .i64 y1] 111)) := hbel.alloc hbs _
      have oA : (wr.alloc (.cells #[.string y0, .int .i64 y1] 111)).ownsRow w.heap.size 111 2 (.slice (some ⟨g, 0, none⟩) m c) m (cellsL xs) := hown.alloc _
      rw [← ey0] at hst
      by_cases hs : y0 = s
      · rw [if_pos hs] at hst
        have HX : Hid (xs = lessL (List.take (α := LinkD) (k + 1) d) s ∧ xs.length = m) := ⟨by rw [hst]; exact hx0.out.1, hx0.out.2⟩
        subst hs
        have hq : (y0.toList != y0.toList) = false := by simp
        clear hcell hrx hx hxe ey0 ey1 hst hx0 hown
        go_wp2
        go_roundw
        case rel => exact ⟨k + 1, g, c, m, xs, by omega, rfl, by go_num, oA, bA, HX, by omega⟩
        case measure => simp [intOf]; omega
      · rw [if_neg hs] at hst
        have HX : Hid (xs ++ [(y0, y1, ())] = lessL (List.take (α := LinkD) (k + 1) d) s ∧ (xs ++ [((y0, y1, ()) : LinkD)]).length = m + 1) :=
          ⟨by rw [hst, hx0.out.1, ey0, ey1]; rfl, by rw [List.length_append, hx0.out.2]; rfl⟩
        have hq := str_neq hs
        clear hcell hrx hx hxe ey0 ey1 hst hx0 hown hs
        go_wp2_with (at_builtin; refine wpList_append_lies _ rfl _ _ 30 rfl w.heap.size 111 i0 (.agg #[.string ByteArray.empty, .int .i64 0]) 2 24 Tryz.underlying30 hi hz0 hz1 hz2 rfl (by decide) _ m _ rfl (oA.alloc _) ⟨_, 0, none⟩ 1 _ [.string y0, .int .i64 y1] rfl rfl ?c1 ?c2 (by omega) ?c3 ?c4 ?c5 _ rfl ?_)
        case c1 => exact cells_new' _ _ _ _ (by simp)
        case c2 => intro u hu; simp at hu; rcases hu with rfl | rfl <;> rfl
        case c3 => unfold maxLen; omega
        case c4 => omega
        case c5 => simp; omega
        intro gg cap1 w3 hown3 hgrow3 _ _
        have bB := bA.alloc (o := .cells #[.string y0, .int .i64 y1] 111) bA.size
        have hbel3 : Below w.heap.size w w3 := bB.grown hgrow3 bB.size (fun y h => by cases h; exact hg.1)
        rw [← cellsL_snoc xs (y0, y1, ())] at hown3
        clear hgrow3 oA bA bB g0 g1
        go_wp2
        go_roundw
        case rel => exact ⟨k + 1, gg, cap1, m + 1, xs ++ [(y0, y1, ())], by omega, rfl, by go_num, hown3, hbel3, HX, by omega⟩
        case measure => simp [intOf]; omega
    · have e : k = n := by omega
      have HE : Hid (xs = lessL d s ∧ xs.length = m) := by
        have h1 := hx0.out.1
        have h2 : List.take (α := LinkD) k d = d := List.take_of_length_le (by have := HL.out.1; omega)
        rw [h2] at h1
        exact ⟨h1, hx0.out.2⟩
      clear hx0
      go_wp2
      go_ret
      refine ⟨g, c, ?_, ?_, hbel⟩
      · rw [← HE.out.1, HE.out.2]; rfl
      · rw [← HE.out.1, HE.out.2]
        exact own_links HE.out.2 (by rw [HE.out.1]; exact lessL_small HL.out.2 s) hown

theorem ltS_gt {x s : ByteArray} (h : ltS s x = true) : Go.Op.bytesLess x.toList s.toList = false ∧ (x.toList == s.toList) = false := by
  refine ⟨?_, ?_⟩
  · cases e : Go.Op.bytesLess x.toList s.toList
    · rfl
    · have := bytesLess_trans h e; rw [bytesLess_irrefl] at this; cases this
  · exact str_neq fun e => ltS_ne h e.symm

theorem ltS_not {x s : ByteArray} (h : ltS s x = false) : Go.Op.bytesLess x.toList s.toList = true ∨ x = s := by
  cases e : Go.Op.bytesLess x.toList s.toList
  · exact .inr (ltS_total e h)
  · exact .inl rfl

/-- What the loop of l03With still owes. -/
def owes (b : Bool) (l : List LinkD) (s : ByteArray) (id : Int) : List LinkD := if b then l else withL l s id

theorem drop_at {d : List LinkD} {k : Nat} (hk : k < d.length) {x : LinkD} (hx : d[k] = x) : d.drop k = x :: d.drop (k + 1) := by
  rw [List.drop_eq_getElem_cons hk, hx]

theorem withL_len (l : List LinkD) (s : ByteArray) (id : Int) : (withL l s id).length = l.length + 1 := by
  induction l with
  | nil => rfl
  | cons x l ih => unfold withL; split <;> simp [ih]
theorem withL_small {l : List LinkD} (h : SmallS l) {s : ByteArray} (hs : s.size ≤ maxLen) (id : Int) : SmallS (withL l s id) := fun x hx => by
  rcases mem_with hx with rfl | h'
  · exact hs
  · exact h x h'

set_option maxRecDepth 100000 in
set_option maxHeartbeats 2000000 in
theorem specWith_ok (a : Option Addr) (n cap : Nat) (d : List LinkD) (s : ByteArray) (id : Int) (w : World) (hr : Reads (.sl shLink) w [.slice a n cap] d) (hs : s.size ≤ maxLen) (hn : n ≤ 2000000) :
    Calls Tryz.prog 113 #[.slice a n cap, .string s, .int .i64 id] w fun e w' => ∃ g c, e = .returned (.slice (some ⟨g, 0, none⟩) (withL d s id).length c) ∧
      Own (.sl shLink) w' w.heap.size [.slice (some ⟨g, 0, none⟩) (withL d s id).length c] (withL d s id) [g] ∧ Below w.heap.size w w' := by
  obtain ⟨hl0, hc1, hc2⟩ := reads_len hr
  have hl : List.length (α := LinkD) d = n := hl0
  have hsm := reads_small hr
  obtain ⟨i0, hi, hz0, hz1, hz2⟩ := info_parts infoLink
  unfold maxLen at hc2
  have HR : Hid (Reads (.sl shLink) w [.slice a n cap] d) := hr
  have HL : Hid (List.length (α := LinkD) d = n ∧ SmallS d ∧ s.size ≤ maxLen) := ⟨hl, hsm, hs⟩
  have hown0 := World.ownsRow_lit (base := w.heap.size) (e := 111) (size := 2) w #[] 0 (Nat.le_refl _) (Nat.zero_le _) rfl
  clear hr hl hl0 hsm hs
  go_enter Tryz.func113, Tryz.ntmps113
  go_wp2
  go_loopw [7, 8, 14] (fun v dn i wr => ∃ (k g c m : Nat) (b : Bool) (xs : List LinkD), k ≤ n ∧ v = .slice (some ⟨g, 0, none⟩) m c ∧ dn = .bool b ∧ i = .int .i64 k ∧ wr.ownsRow w.heap.size 111 2 (.slice (some ⟨g, 0, none⟩) m c) m (cellsL xs) ∧ Below w.heap.size w wr ∧
      Hid (xs ++ owes b (List.drop (α := LinkD) k d) s id = withL d s id ∧ xs.length = m) ∧ m ≤ k + 1 ∧ Hid (b = false → m ≤ k)) (fun _ _ i _ => n - (intOf i).toNat)
  case atStart => exact ⟨0, _, 0, 0, false, [], Nat.zero_le _, rfl, rfl, rfl, hown0, (Below.refl _ _).alloc (Nat.le_refl _) _, ⟨by simp [owes], rfl⟩, by omega, fun _ => Nat.le_refl _⟩
  case round =>
    obtain ⟨k, g, c, m, bb, xs, hk, rfl, rfl, rfl, hown, hbel, hx0, hxl, hxm⟩ := hrel
    have hbs := hbel.size
    have hg := hown.lt g rfl
    by_cases hlt : k < n
    · obtain ⟨b, off, cc, x, rfl, hb, hx, hrx, hcell⟩ := reads_elem HR.out k hlt
      obtain ⟨rfl, _⟩ := open_Link hrx
      obtain ⟨hkd, hxe⟩ := at_some' hx
      have hst := drop_at (d := d) hkd hxe
      obtain ⟨y0, ey0⟩ : ∃ y : ByteArray, y = x.1 := ⟨_, rfl⟩
      obtain ⟨y1, ey1⟩ : ∃ y : Int, y = x.2.1 := ⟨_, rfl⟩
      have g0 : wr.cell? ⟨b, off + k * 2, none⟩ = some (.string y0) := by rw [ey0]; exact (hbel.cell (p := ⟨b, off + (k * 2 + 0), none⟩) hb).trans (hcell 0 (by decide))
      have g1 : wr.cell? ⟨b, off + k * 2 + 1, none⟩ = some (.int .i64 y1) := by rw [ey1]; exact (hbel.cell (p := ⟨b, off + (k * 2 + 1), none⟩) hb).trans (hcell 1 (by decide))
      have bA : Below w.heap.size w (wr.alloc (.cells #[.string y0, .int .i64 y1] 111)) := hbel.alloc hbs _
      have oA : (wr.alloc (.cells #[.string y0, .int .i64 y1] 111)).ownsRow w.heap.size 111 2 (.slice (some ⟨g, 0, none⟩) m c) m (cellsL xs) := hown.alloc _
      have hxv : x = (y0, y1, ()) := by rw [ey0, ey1]; rfl
      rw [hxv] at hst
      clear hxv
      have H0 : Hid (List.drop (α := LinkD) k d = (y0, y1, ()) :: List.drop (α := LinkD) (k + 1) d) := hst
      clear hcell hrx hx hxe ey0 ey1 hst hown
      -- the plain step: x is appended
      have plain : Hid (owes bb (List.drop (α := LinkD) k d) s id = (y0, y1, ()) :: owes bb (List.drop (α := LinkD) (k + 1) d) s id → xs ++ [(y0, y1, ())] ++ owes bb (List.drop (α := LinkD) (k + 1) d) s id = withL d s id ∧ (xs ++ [((y0, y1, ()) : LinkD)]).length = m + 1) := fun h => by
        refine ⟨?_, by rw [List.length_append, hx0.out.2]; rfl⟩
        rw [← hx0.out.1, h]; simp
      cases bb with
      | true =>
        have HX := plain.out (by rw [H0.out]; rfl)
        have HX' : Hid (xs ++ [(y0, y1, ())] ++ owes true (List.drop (α := LinkD) (k + 1) d) s id = withL d s id ∧ (xs ++ [((y0, y1, ()) : LinkD)]).length = m + 1) := HX
        clear HX plain hx0 hxm
        go_wp2_with (at_builtin; refine wpList_append_lies _ rfl _ _ 30 rfl w.heap.size 111 i0 (.agg #[.string ByteArray.empty, .int .i64 0]) 2 24 Tryz.underlying30 hi hz0 hz1 hz2 rfl (by decide) _ m _ rfl (oA.alloc _) ⟨_, 0, none⟩ 1 _ [.string y0, .int .i64 y1] rfl rfl ?c1 ?c2 (by omega) ?c3 ?c4 ?c5 _ rfl ?_)
        case c1 => exact cells_new' _ _ _ _ (by simp)
        case c2 => intro u hu; simp at hu; rcases hu with rfl | rfl <;> rfl
        case c3 => unfold maxLen; omega
        case c4 => omega
        case c5 => simp; omega
        intro gg cap1 w3 hown3 hgrow3 _ _
        have bB := bA.alloc (o := .cells #[.string y0, .int .i64 y1] 111) bA.size
        have hbel3 : Below w.heap.size w w3 := bB.grown hgrow3 bB.size (fun y h => by cases h; exact hg.1)
        rw [← cellsL_snoc xs (y0, y1, ())] at hown3
        clear hgrow3 oA bA bB g0 g1
        go_wp2
        go_roundw
        case rel => exact ⟨k + 1, gg, cap1, m + 1, true, xs ++ [(y0, y1, ())], by omega, rfl, rfl, by go_num, hown3, hbel3, HX', by omega, fun h => by cases h⟩
        case measure => simp [intOf]; omega
      | false =>
        have hmk := hxm.out rfl
        cases hq : ltS s y0 with
        | true =>
          obtain ⟨q1, q2⟩ := ltS_gt hq
          have HX : Hid (xs ++ [(s, id, ())] ++ [(y0, y1, ())] ++ owes true (List.drop (α := LinkD) (k + 1) d) s id = withL d s id ∧ (xs ++ [(s, id, ())] ++ [((y0, y1, ()) : LinkD)]).length = m + 1 + 1) := by
            refine ⟨?_, by rw [List.length_append, List.length_append, hx0.out.2]; rfl⟩
            rw [← hx0.out.1, H0.out]
            have e : owes false ((y0, y1, ()) :: List.drop (α := LinkD) (k + 1) d) s id = (s, id, ()) :: (y0, y1, ()) :: List.drop (α := LinkD) (k + 1) d := by
              show withL _ s id = _
              unfold withL
              rw [if_pos hq]
            rw [e]
            simp [owes]
          clear plain hx0 hxm hq
          go_wp2_with (at_builtin; refine wpList_append_lies _ rfl _ _ 30 rfl w.heap.size 111 i0 (.agg #[.string ByteArray.empty, .int .i64 0]) 2 24 Tryz.underlying30 hi hz0 hz1 hz2 rfl (by decide) _ m _ rfl (oA.alloc _) ⟨_, 0, none⟩ 1 _ [.string s, .int .i64 id] rfl rfl ?c1 ?c2 (by omega) ?c3 ?c4 ?c5 _ rfl ?_)
          case c1 => exact cells_new' _ _ _ _ (by simp)
          case c2 => intro u hu; simp at hu; rcases hu with rfl | rfl <;> rfl
          case c3 => unfold maxLen; omega
          case c4 => omega
          case c5 => simp; omega
          intro gg cap1 w3 hown3 hgrow3 hloc3 hlt3
          have bB := bA.alloc (o := .cells #[.string s, .int .i64 id] 111) bA.size
          have hbel3 : Below w.heap.size w w3 := bB.grown hgrow3 bB.size (fun y h => by cases h; exact hg.1)
          rw [← cellsL_snoc xs (s, id, ())] at hown3
          have hs3 := hgrow3.size
          simp at hs3
          have hbx := heap_alloc_new wr (.cells #[.string y0, .int .i64 y1] 111)
          have hbx2 : ((wr.alloc (.cells #[.string y0, .int .i64 y1] 111)).alloc (.cells #[.string s, .int .i64 id] 111)).heap[wr.heap.size]? = some (.cells #[.string y0, .int .i64 y1] 111 (0, 0)) := by rw [heap_alloc_old _ _ (by simp)]; exact hbx
          have k0 : w3.cell? ⟨wr.heap.size, 0, none⟩ = some (.string y0) := hgrow3.cell (box_cell hbx2 rfl) (by simp [Value.ownBlock]; omega)
          have k1 : w3.cell? ⟨wr.heap.size, 1, none⟩ = some (.int .i64 y1) := hgrow3.cell (box_cell hbx2 rfl) (by simp [Value.ownBlock]; omega)
          have hg3 := hown3.lt gg rfl
          have hbs3 := hbel3.size
          clear hgrow3 oA bA bB g0 g1 hbx hbx2 hloc3
          go_wp2_with (at_builtin; refine wpList_append_lies _ rfl _ _ 30 rfl w.heap.size 111 i0 (.agg #[.string ByteArray.empty, .int .i64 0]) 2 24 Tryz.underlying30 hi hz0 hz1 hz2 rfl (by decide) _ (m + 1) _ rfl (hown3.alloc _) ⟨_, 0, none⟩ 1 _ [.string y0, .int .i64 y1] rfl rfl ?c1 ?c2 (by omega) ?c3 ?c4 ?c5 _ rfl ?_)
          case c1 => exact cells_new' _ _ _ _ (by simp)
          case c2 => intro u hu; simp at hu; rcases hu with rfl | rfl <;> rfl
          case c3 => unfold maxLen; omega
          case c4 => omega
          case c5 => simp; omega
          intro gg5 cap5 w5 hown5 hgrow5 _ _
          have bC := hbel3.alloc (o := .cells #[.string y0, .int .i64 y1] 111) hbel3.size
          have hbel5 : Below w.heap.size w w5 := bC.grown hgrow5 bC.size (fun y h => by cases h; exact hg3.1)
          rw [← cellsL_snoc (xs ++ [(s, id, ())]) (y0, y1, ())] at hown5
          clear hgrow5 bC hown3 k0 k1
          go_wp2
          go_roundw
          case rel => exact ⟨k + 1, gg5, cap5, m + 1 + 1, true, xs ++ [(s, id, ())] ++ [(y0, y1, ())], by omega, rfl, rfl, by go_num, hown5, hbel5, HX, by omega, fun h => by cases h⟩
          case measure => simp [intOf]; omega
        | false =>
          have HX := plain.out (by
            rw [H0.out]
            show withL _ s id = _
            conv => lhs; unfold withL
            rw [if_neg (by rw [hq]; simp)]
            rfl)
          have HX' : Hid (xs ++ [(y0, y1, ())] ++ owes false (List.drop (α := LinkD) (k + 1) d) s id = withL d s id ∧ (xs ++ [((y0, y1, ()) : LinkD)]).length = m + 1) := HX
          clear HX plain hx0 hxm
          rcases ltS_not hq with q | rfl
          · clear hq
            go_wp2_with (at_builtin; refine wpList_append_lies _ rfl _ _ 30 rfl w.heap.size 111 i0 (.agg #[.string ByteArray.empty, .int .i64 0]) 2 24 Tryz.underlying30 hi hz0 hz1 hz2 rfl (by decide) _ m _ rfl (oA.alloc _) ⟨_, 0, none⟩ 1 _ [.string y0, .int .i64 y1] rfl rfl ?c1 ?c2 (by omega) ?c3 ?c4 ?c5 _ rfl ?_)
            case c1 => exact cells_new' _ _ _ _ (by simp)
            case c2 => intro u hu; simp at hu; rcases hu with rfl | rfl <;> rfl
            case c3 => unfold maxLen; omega
            case c4 => omega
            case c5 => simp; omega
            intro gg cap1 w3 hown3 hgrow3 _ _
            have bB := bA.alloc (o := .cells #[.string y0, .int .i64 y1] 111) bA.size
            have hbel3 : Below w.heap.size w w3 := bB.grown hgrow3 bB.size (fun y h => by cases h; exact hg.1)
            rw [← cellsL_snoc xs (y0, y1, ())] at hown3
            clear hgrow3 oA bA bB g0 g1
            go_wp2
            go_roundw
            case rel => exact ⟨k + 1, gg, cap1, m + 1, false, xs ++ [(y0, y1, ())], by omega, rfl, rfl, by go_num, hown3, hbel3, HX', by omega, fun _ => by show m + 1 ≤ k + 1; omega⟩
            case measure => simp [intOf]; omega
          · have q1 := bytesLess_irrefl y0.toList
            have q2 : (y0.toList == y0.toList) = true := by simp
            clear hq
            go_wp2_with (at_builtin; refine wpList_append_lies _ rfl _ _ 30 rfl w.heap.size 111 i0 (.agg #[.string ByteArray.empty, .int .i64 0]) 2 24 Tryz.underlying30 hi hz0 hz1 hz2 rfl (by decide) _ m _ rfl (oA.alloc _) ⟨_, 0, none⟩ 1 _ [.string y0, .int .i64 y1] rfl rfl ?c1 ?c2 (by omega) ?c3 ?c4 ?c5 _ rfl ?_)
            case c1 => exact cells_new' _ _ _ _ (by simp)
            case c2 => intro u hu; simp at hu; rcases hu with rfl | rfl <;> rfl
            case c3 => unfold maxLen; omega
            case c4 => omega
            case c5 => simp; omega
            intro gg cap1 w3 hown3 hgrow3 _ _
            have bB := bA.alloc (o := .cells #[.string y0, .int .i64 y1] 111) bA.size
            have hbel3 : Below w.heap.size w w3 := bB.grown hgrow3 bB.size (fun y h => by cases h; exact hg.1)
            rw [← cellsL_snoc xs (y0, y1, ())] at hown3
            clear hgrow3 oA bA bB g0 g1
            go_wp2
            go_roundw
            case rel => exact ⟨k + 1, gg, cap1, m + 1, false, xs ++ [(y0, y1, ())], by omega, rfl, rfl, by go_num, hown3, hbel3, HX', by omega, fun _ => by show m + 1 ≤ k + 1; omega⟩
            case measure => simp [intOf]; omega
    · have e : k = n := by omega
      have hd : List.drop (α := LinkD) k d = [] := List.drop_eq_nil_of_le (by have := HL.out.1; omega)
      cases bb with
      | true =>
        have HE : Hid (xs = withL d s id ∧ xs.length = m) := by
          have h1 := hx0.out.1
          rw [hd] at h1
          have h2 : xs = withL d s id := by simpa [owes] using h1
          exact ⟨h2, hx0.out.2⟩
        clear hx0 hd hxm
        go_wp2
        go_ret
        refine ⟨g, c, ?_, ?_, hbel⟩
        · rw [← HE.out.1, HE.out.2]; rfl
        · rw [← HE.out.1, HE.out.2]
          exact own_links HE.out.2 (by rw [HE.out.1]; exact withL_small HL.out.2.1 HL.out.2.2 id) hown
      | false =>
        have hmk := hxm.out rfl
        have HE : Hid (xs ++ [(s, id, ())] = withL d s id ∧ (xs ++ [((s, id, ()) : LinkD)]).length = m + 1) := by
          have h1 := hx0.out.1
          rw [hd] at h1
          exact ⟨h1, by rw [List.length_append, hx0.out.2]; rfl⟩
        clear hx0 hd hxm
        go_wp2_with (at_builtin; refine wpList_append_lies _ rfl _ _ 30 rfl w.heap.size 111 i0 (.agg #[.string ByteArray.empty, .int .i64 0]) 2 24 Tryz.underlying30 hi hz0 hz1 hz2 rfl (by decide) _ m _ rfl (hown.alloc _) ⟨_, 0, none⟩ 1 _ [.string s, .int .i64 id] rfl rfl ?c1 ?c2 (by omega) ?c3 ?c4 ?c5 _ rfl ?_)
        case c1 => exact cells_new' _ _ _ _ (by simp)
        case c2 => intro u hu; simp at hu; rcases hu with rfl | rfl <;> rfl
        case c3 => unfold maxLen; omega
        case c4 => omega
        case c5 => simp; omega
        intro gg cap1 w3 hown3 hgrow3 _ _
        have bB := hbel.alloc (o := .cells #[.string s, .int .i64 id] 111) hbel.size
        have hbel3 : Below w.heap.size w w3 := bB.grown hgrow3 bB.size (fun y h => by cases h; exact hg.1)
        rw [← cellsL_snoc xs (s, id, ())] at hown3
        clear hgrow3 bB
        go_wp2
        go_ret
        refine ⟨gg, cap1, ?_, ?_, hbel3⟩
        · rw [← HE.out.1, HE.out.2]; rfl
        · rw [← HE.out.1, HE.out.2]
          exact own_links HE.out.2 (by rw [HE.out.1]; exact withL_small HL.out.2.1 HL.out.2.2 id) hown3

/-- A number is on a list. -/
def hasN (l : List Int) (x : Int) : Bool := l.contains x

theorem hasInt_drop (l : List Int) (x : Int) (k : Nat) (h : ∀ i (hi : i < l.length), i < k → l[i] ≠ x) : hasN l x = hasN (l.drop k) x := by
  induction k generalizing l with
  | zero => simp
  | succ k ih =>
    cases l with
    | nil => simp
    | cons y l =>
      have h0 := h 0 (by simp) (by omega)
      simp at h0
      rw [List.drop_succ_cons, ← ih l (fun i hi hk => by have := h (i + 1) (by simp; omega) (by omega); simpa using this)]
      simp [hasN, Ne.symm h0]

set_option maxHeartbeats 1000000 in
theorem specHasInt_ok (a : Option Addr) (n cap : Nat) (d : List Int) (x : Int) (w : World) (hr : Reads (.sl .int) w [.slice a n cap] d) :
    Calls Tryz.prog 62 #[.slice a n cap, .int .i64 x] w fun e w' => e = .returned (.bool (hasN d x)) ∧ w' = w := by
  obtain ⟨hl0, hc1, hc2⟩ := reads_len hr
  have hl : List.length (α := Int) d = n := hl0
  unfold maxLen at hc2
  have HR : Hid (Reads (.sl .int) w [.slice a n cap] d) := hr
  have HL : Hid (List.length (α := Int) d = n) := hl
  clear hr hl hl0
  go_enter Tryz.func62, Tryz.ntmps62
  go_wp2
  go_loop [9] (fun i => ∃ k : Nat, k ≤ n ∧ i = .int .i64 k ∧ Hid (∀ i (hi : i < List.length (α := Int) d), i < k → (d[i] : Int) ≠ x)) (fun i => n - (intOf i).toNat)
  case atStart => exact ⟨0, Nat.zero_le _, rfl, fun i _ hi => by omega⟩
  case round =>
    obtain ⟨k, hk, rfl, hno⟩ := hrel
    have hfd := hasInt_drop d x k hno.out
    by_cases hlt : k < n
    · obtain ⟨b, off, c, y, rfl, hb, hy, hry, hcell⟩ := reads_elem HR.out k hlt
      obtain ⟨hkd, hye⟩ := at_some' hy
      obtain ⟨z, hz⟩ : ∃ z : Int, z = y := ⟨_, rfl⟩
      have hyc : c = [.int .i64 z] := by rw [hz]; exact hry
      subst hyc
      have g0 : w.cell? ⟨b, off + k, none⟩ = some (.int .i64 z) := by have := hcell 0 (by decide); simpa [Sh.size_int] using this
      have hd : List.drop (α := Int) k d = z :: List.drop (α := Int) (k + 1) d := by
        have h1 := List.drop_eq_getElem_cons (l := (show List Int from d)) (i := k) hkd
        have h2 : (show List Int from d)[k] = z := hye.trans hz.symm
        rw [h2] at h1; exact h1
      rw [hd] at hfd
      by_cases hs : z = x
      · have E : Hid (hasN d x = true) := by show _ = _; rw [hfd]; simp [hasN, hs]
        have hq : (z == x) = true := by simp [hs]
        clear hcell hry hy hye hz hd hfd hno hs
        go_wp2
        go_ret
        exact ⟨by rw [E.out]; rfl, rfl⟩
      · have hq : (z == x) = false := by simp [hs]
        have HN : Hid (∀ i (hi : i < List.length (α := Int) d), i < k + 1 → (d[i] : Int) ≠ x) := by
          intro i hi hik
          by_cases e : i = k
          · subst e
            have h2 : (show List Int from d)[i] = z := hye.trans hz.symm
            exact fun e2 => hs (h2.symm.trans e2)
          · exact hno.out i hi (by omega)
        clear hcell hry hy hye hz hd hfd hno hs
        go_wp2
        go_round
        case rel => exact ⟨k + 1, by omega, by go_num, HN⟩
        case measure => simp [intOf]; omega
    · have E : Hid (hasN d x = false) := by
        show _ = _
        rw [hfd, List.drop_eq_nil_of_le (by have := HL.out; omega)]
        rfl
      clear hfd hno
      go_wp2
      go_ret
      exact ⟨by rw [E.out]; rfl, rfl⟩

end Go.Proofs.YtkaegbhmeonjfaaGreat

/- TyNode: The type Node of the laws: its shape, and what szNode, toNode, eqNode and those of its slices do. By program (tygen.py). -/
namespace Go.Proofs.YtkaegbhmeonjfaaGreat
open Go.RowKit
set_option linter.unusedVariables false
set_option maxRecDepth 100000

def shNode : Sh := Sh.ofL [.int, (.sl .u8), (.sl .u8)]

theorem open_Node {w : World} {cs : List Value} {d : shNode.D} (h : Reads shNode w cs d) :
    ∃ a1 n1 c1 a2 n2 c2, cs = [.int .i64 (d.1), .slice a1 n1 c1, .slice a2 n2 c2] ∧ Reads (.sl .u8) w [.slice a1 n1 c1] d.2.1 ∧ Reads (.sl .u8) w [.slice a2 n2 c2] d.2.2.1 := by
  obtain ⟨_, _, rfl, h0, _, _, rfl, h1, _, _, rfl, h2, hE⟩ := h
  have e0 : _ = _ := h0
  have g1 := h1
  obtain ⟨a1, c1, e1, _⟩ := g1
  have g2 := h2
  obtain ⟨a2, c2, e2, _⟩ := g2
  have eE : _ = _ := hE
  subst e0 e1 e2 eE
  exact ⟨a1, _, c1, a2, _, c2, rfl, h1, h2⟩

theorem own_Node {w : World} {B : Nat} {d : shNode.D} {v1 : Value} {F1 : List Nat} {v2 : Value} {F2 : List Nat} (o1 : Own (.sl .u8) w B [v1] d.2.1 F1) (o2 : Own (.sl .u8) w B [v2] d.2.2.1 F2) :
    Own shNode w B [.int .i64 (d.1), v1, v2] d (F1 ++ (F2 ++ ([]))) := by
  exact ⟨[_], _, [], F1 ++ (F2 ++ ([])), rfl, rfl, ⟨rfl, rfl⟩, ⟨[_], _, F1, F2 ++ ([]), rfl, rfl, o1, ⟨[_], _, F2, [], rfl, rfl, o2, ⟨rfl, rfl⟩⟩⟩⟩

theorem size_Node : shNode.size = 3 := rfl

theorem sz_Node (d : shNode.D) : shNode.sz d = Sh.sz (.sl .u8) d.2.1 + Sh.sz (.sl .u8) d.2.2.1 := by
  show 0 + (Sh.sz (.sl .u8) d.2.1 + (Sh.sz (.sl .u8) d.2.2.1 + (0))) = _
  omega

set_option maxHeartbeats 1000000 in
theorem szNode_any (cs : List Value) (d : shNode.D) (left : Int) (w : World) (hr : Reads shNode w cs d) (h0 : 0 ≤ left) (h1 : left ≤ 1048576) :
    Calls Tryz.prog 73 #[.agg cs.toArray, .int .i64 left] w fun e w' => e = .returned (.int .i64 (szAns (shNode.sz d) left)) ∧ Below w.heap.size w w' := by
  obtain ⟨a1, n1, c1, a2, n2, c2, rfl, r1, r2⟩ := open_Node hr
  obtain ⟨x0, e0⟩ : ∃ x : Int, x = d.1 := ⟨_, rfl⟩

  rw [sz_Node]
  obtain ⟨k1, hk1⟩ : ∃ k, k = Sh.sz (.sl .u8) d.2.1 := ⟨_, rfl⟩
  have q1 : Hid (∀ w', Below w.heap.size w w' → ∀ l : Int, 0 ≤ l → l ≤ 1048576 → Calls Tryz.prog 54 #[.slice a1 n1 c1, .int .i64 l] w' fun e w'' => e = .returned (.int .i64 (szAns k1 l)) ∧ Below w'.heap.size w' w'') := fun w' hb l l0 l1 => by rw [hk1]; exact szByteS_any a1 n1 c1 _ l w' (r1.later hb) l0 l1
  obtain ⟨k2, hk2⟩ : ∃ k, k = Sh.sz (.sl .u8) d.2.2.1 := ⟨_, rfl⟩
  have q2 : Hid (∀ w', Below w.heap.size w w' → ∀ l : Int, 0 ≤ l → l ≤ 1048576 → Calls Tryz.prog 54 #[.slice a2 n2 c2, .int .i64 l] w' fun e w'' => e = .returned (.int .i64 (szAns k2 l)) ∧ Below w'.heap.size w' w'') := fun w' hb l l0 l1 => by rw [hk2]; exact szByteS_any a2 n2 c2 _ l w' (r2.later hb) l0 l1
  rw [← hk1, ← hk2]
  rw [← e0]
  clear hr r1 r2 hk1 hk2 e0
  obtain ⟨W0, hW0⟩ : ∃ W0, W0 = w.alloc (.cells #[.int .i64 x0, .slice a1 n1 c1, .slice a2 n2 c2] 105) := ⟨_, rfl⟩
  have bW0 : Below w.heap.size w W0 := by rw [hW0]; exact (Below.refl _ _).alloc (Nat.le_refl _) _
  have hbox : W0.heap[w.heap.size]? = some (.cells #[.int .i64 x0, .slice a1 n1 c1, .slice a2 n2 c2] 105 (0, 0)) := by rw [hW0]; exact heap_alloc_new w _
  have zW0 : W0.heap.size = w.heap.size + 1 := by rw [hW0]; simp
  have HW0 : Hid (W0 = _) := hW0
  have HBX : Hid _ := hbox
  clear hW0 hbox
  go_enter Tryz.func73, Tryz.ntmps73
  go_wp2_with fail
  rw [← HW0.out]
  refine (q1.out _ bW0 (left) (by omega) (by omega)).mono ?_
  rintro e w1 ⟨rfl, hb1⟩
  have b1 := bW0.trans (hb1.mono bW0.size)
  have i1 : w1.heap[w.heap.size]? = _ := (hb1.block _ (by rw [zW0]; omega)).trans HBX.out
  have z1 := hb1.size
  rw [zW0] at z1
  have y1_2 : w1.cell? ⟨w.heap.size, 2, none⟩ = some (.slice a2 n2 c2) := box_cell i1 rfl
  have I1 : Hid _ := i1
  clear i1 hb1
  by_cases t1 : (k1 : Int) ≤ left
  rotate_left
  · rw [szAns_no t1]
    have E : Hid (szAns (k1 + k2) left = -1) := szAns_no (by omega)
    go_wp2
    go_ret
    exact ⟨by rw [E.out]; rfl, b1⟩
  rw [szAns_yes t1]
  have u1 : ¬ (left - (k1 : Int) < 0) := by omega
  go_wp2_with fail
  refine (q2.out _ b1 (left - (k1 : Int)) (by omega) (by omega)).mono ?_
  rintro e w2 ⟨rfl, hb2⟩
  have b2 := b1.trans (hb2.mono b1.size)
  have i2 : w2.heap[w.heap.size]? = _ := (hb2.block _ (by omega)).trans I1.out
  have z2 := hb2.size
  have I2 : Hid _ := i2
  clear i2 hb2
  by_cases t2 : (k2 : Int) ≤ left - (k1 : Int)
  rotate_left
  · rw [szAns_no t2]
    have E : Hid (szAns (k1 + k2) left = -1) := szAns_no (by omega)
    go_wp2
    go_ret
    exact ⟨by rw [E.out]; rfl, b2⟩
  rw [szAns_yes t2]
  have u2 : ¬ (left - (k1 : Int) - (k2 : Int) < 0) := by omega
  have E : Hid (szAns (k1 + k2) left = left - (k1 : Int) - (k2 : Int)) := by show _ = _; rw [szAns_yes (by omega)]; omega
  go_wp2
  go_ret
  exact ⟨by rw [E.out]; rfl, b2⟩

theorem opens_Node {H : Type} {enc : TypeId × Value → H} {w : World} {spare : Nat → Bool} {held : Bool} : Opens enc Tryz.prog w spare held 105 shNode := by
  refine opens_struct [.int, (.sl .u8), (.sl .u8)] Tryz.underlying105 (by kernel_rfl) (fun i s hi => ?_)
  match i, hi with
  | 0, hi => obtain rfl := Option.some.inj hi; exact ⟨_, rfl, opens_int Tryz.underlying3 (by kernel_rfl), rfl⟩
  | 1, hi => obtain rfl := Option.some.inj hi; exact ⟨_, rfl, opens_sl Tryz.underlying43 (by kernel_rfl) (by decide) (opens_u8 Tryz.underlying5 (by kernel_rfl)), rfl⟩
  | 2, hi => obtain rfl := Option.some.inj hi; exact ⟨_, rfl, opens_sl Tryz.underlying43 (by kernel_rfl) (by decide) (opens_u8 Tryz.underlying5 (by kernel_rfl)), rfl⟩
  | n + 3, hi => simp at hi

set_option maxRecDepth 100000 in
set_option maxHeartbeats 1000000 in
theorem toNode_any (cs : List Value) (d : shNode.D) (w : World) (hr : Reads shNode w cs d) (hs : shNode.sz d ≤ 1048576) :
    Calls Tryz.prog 81 #[.agg cs.toArray] w fun e w' => ∃ cs' F, e = .returned (.agg cs'.toArray) ∧ Own shNode w' w.heap.size cs' d F ∧ F.Nodup ∧ Below w.heap.size w w' := by
  obtain ⟨a1, n1, c1, a2, n2, c2, rfl, r1, r2⟩ := open_Node hr
  obtain ⟨x0, e0⟩ : ∃ x : Int, x = d.1 := ⟨_, rfl⟩

  rw [sz_Node] at hs
  have q1 : Hid (∀ w', Below w.heap.size w w' → Calls Tryz.prog 64 #[.slice a1 n1 c1] w' fun e w'' => ∃ (g : Nat) (F : List Nat), e = .returned (.slice (some ⟨g, 0, none⟩) n1 n1) ∧ Own (.sl .u8) w'' w'.heap.size [.slice (some ⟨g, 0, none⟩) n1 n1] d.2.1 F ∧ F.Nodup ∧ Below w'.heap.size w' w'') := fun w' h' => toByteS_own a1 n1 c1 _ w' (r1.later h') (by omega)
  have q2 : Hid (∀ w', Below w.heap.size w w' → Calls Tryz.prog 64 #[.slice a2 n2 c2] w' fun e w'' => ∃ (g : Nat) (F : List Nat), e = .returned (.slice (some ⟨g, 0, none⟩) n2 n2) ∧ Own (.sl .u8) w'' w'.heap.size [.slice (some ⟨g, 0, none⟩) n2 n2] d.2.2.1 F ∧ F.Nodup ∧ Below w'.heap.size w' w'') := fun w' h' => toByteS_own a2 n2 c2 _ w' (r2.later h') (by omega)
  rw [← e0]
  have HE : Hid (x0 = d.1 ∧ True) := ⟨e0, trivial⟩
  obtain ⟨i0, i1, i2, isz⟩ := alloc3_heap w (.cells #[.int .i64 x0, .slice a1 n1 c1, .slice a2 n2 c2] 105) (.cells #[.int .i64 0, .slice none 0 0, .slice none 0 0] 70) (.cells #[.int .i64 x0, .slice none 0 0, .slice none 0 0] 70)
  obtain ⟨W0, hW0⟩ : ∃ W0, W0 = ((w.alloc (.cells #[.int .i64 x0, .slice a1 n1 c1, .slice a2 n2 c2] 105)).alloc (.cells #[.int .i64 0, .slice none 0 0, .slice none 0 0] 70)).alloc (.cells #[.int .i64 x0, .slice none 0 0, .slice none 0 0] 70) := ⟨_, rfl⟩
  rw [← hW0] at i0 i1 i2 isz
  have bW0 : Below w.heap.size w W0 := by rw [hW0]; exact (((Below.refl _ _).alloc (Nat.le_refl _) _).alloc (by simp) _).alloc (by simp; omega) _
  have HW0 : Hid (W0 = _) := hW0
  have HI : Hid (_ ∧ _ ∧ _) := ⟨i0, i1, i2⟩
  clear hr hs hW0 i0 i1 i2 r1 r2 e0
  go_enter Tryz.func81, Tryz.ntmps81
  go_wp2_with fail
  rw [← HW0.out]
  refine (q1.out _ bW0).mono ?_
  rintro e w1 ⟨g1, F1, rfl, o1, nd1, hb1⟩
  have b1 := bW0.trans (hb1.mono bW0.size)
  have z1 := hb1.size
  have iA : w1.heap[w.heap.size]? = some (.cells #[.int .i64 x0, .slice a1 n1 c1, .slice a2 n2 c2] 105 (0, 0)) := (hb1.block _ (by omega)).trans HI.out.1
  have iB : w1.heap[w.heap.size + 1]? = some (.cells #[.int .i64 0, .slice none 0 0, .slice none 0 0] 70 (0, 0)) := (hb1.block _ (by omega)).trans HI.out.2.1
  have iC : w1.heap[w.heap.size + 1 + 1]? = some (.cells #[.int .i64 x0, .slice none 0 0, .slice none 0 0] 70 (0, 0)) := (hb1.block _ (by omega)).trans HI.out.2.2
  have ya1_2 : w1.cell? ⟨w.heap.size, 2, none⟩ = some (.slice a2 n2 c2) := box_cell iA rfl
  have yb1_1 : w1.cell? ⟨w.heap.size + 1 + 1, 1, none⟩ = some (.slice none 0 0) := box_cell iC rfl
  have yf1_1 : w1.frozen? ⟨w.heap.size + 1 + 1, 1, none⟩ = false := box_frozen iC
  obtain ⟨W1, hW1⟩ : ∃ W, W = (w1).setCell ⟨w.heap.size + 1 + 1, 1, none⟩ (.slice (some ⟨g1, 0, none⟩) n1 n1) := ⟨_, rfl⟩
  have bW1 : Below w.heap.size w W1 := by rw [hW1]; exact (b1.setCell (by simp <;> omega) _)
  have zW1 : w1.heap.size = W1.heap.size := by rw [hW1]; simp
  have jA : W1.heap[w.heap.size]? = some (.cells #[.int .i64 x0, .slice a1 n1 c1, .slice a2 n2 c2] 105 (0, 0)) := by rw [hW1]; exact ((box_other _ (by omega))).trans iA
  have jB : W1.heap[w.heap.size + 1]? = some (.cells #[.int .i64 0, .slice none 0 0, .slice none 0 0] 70 (0, 0)) := by rw [hW1]; exact ((box_other _ (by omega))).trans iB
  have jC : W1.heap[w.heap.size + 1 + 1]? = some (.cells #[.int .i64 x0, .slice (some ⟨g1, 0, none⟩) n1 n1, .slice none 0 0] 70 (0, 0)) := by rw [hW1]; exact box_set _ iC
  rw [isz] at o1
  have oW1_1 : Own (.sl .u8) W1 (w.heap.size + 1 + 1 + 1) [.slice (some ⟨g1, 0, none⟩) n1 n1] d.2.1 F1 := by rw [hW1]; exact o1.keep fun g hg => ((box_other _ (by have := (o1.lt g hg).1; omega)))
  have OW1_1 : Hid (Own (.sl .u8) W1 (w.heap.size + 1 + 1 + 1) [.slice (some ⟨g1, 0, none⟩) n1 n1] d.2.1 F1) := oW1_1
  have TOP1 : ∀ x ∈ F1, x < W1.heap.size := fun x hx => (oW1_1.lt x hx).2
  have HJ1 : Hid (_ ∧ _ ∧ _) := ⟨jA, jB, jC⟩
  go_wp2_with fail
  rw [← hW1]
  clear hW1 iA iB iC jA jB jC b1 hb1 o1 oW1_1 ya1_2 yb1_1 yf1_1
  refine (q2.out _ bW1).mono ?_
  rintro e w2 ⟨g2, F2, rfl, o2, nd2, hb2⟩
  have b2 := bW1.trans (hb2.mono bW1.size)
  have z2 := hb2.size
  have iA : w2.heap[w.heap.size]? = some (.cells #[.int .i64 x0, .slice a1 n1 c1, .slice a2 n2 c2] 105 (0, 0)) := (hb2.block _ (by omega)).trans HJ1.out.1
  have iB : w2.heap[w.heap.size + 1]? = some (.cells #[.int .i64 0, .slice none 0 0, .slice none 0 0] 70 (0, 0)) := (hb2.block _ (by omega)).trans HJ1.out.2.1
  have iC : w2.heap[w.heap.size + 1 + 1]? = some (.cells #[.int .i64 x0, .slice (some ⟨g1, 0, none⟩) n1 n1, .slice none 0 0] 70 (0, 0)) := (hb2.block _ (by omega)).trans HJ1.out.2.2
  have p1_2 := OW1_1.out.later hb2
  have yb2_2 : w2.cell? ⟨w.heap.size + 1 + 1, 2, none⟩ = some (.slice none 0 0) := box_cell iC rfl
  have yf2_2 : w2.frozen? ⟨w.heap.size + 1 + 1, 2, none⟩ = false := box_frozen iC
  have yb2_0 : w2.cell? ⟨w.heap.size + 1 + 1, 0, none⟩ = some (.int .i64 x0) := box_cell iC rfl
  have yr2_0 : w2.cell? ⟨w.heap.size + 1, 0, none⟩ = some (.int .i64 0) := box_cell iB rfl
  have yg2_0 : w2.frozen? ⟨w.heap.size + 1, 0, none⟩ = false := box_frozen iB
  have yb2_1 : w2.cell? ⟨w.heap.size + 1 + 1, 1, none⟩ = some (.slice (some ⟨g1, 0, none⟩) n1 n1) := box_cell iC rfl
  have yr2_1 : w2.cell? ⟨w.heap.size + 1, 1, none⟩ = some (.slice none 0 0) := box_cell iB rfl
  have yg2_1 : w2.frozen? ⟨w.heap.size + 1, 1, none⟩ = false := box_frozen iB
  have yr2_2 : w2.cell? ⟨w.heap.size + 1, 2, none⟩ = some (.slice none 0 0) := box_cell iB rfl
  have yg2_2 : w2.frozen? ⟨w.heap.size + 1, 2, none⟩ = false := box_frozen iB
  have L1 := p1_2.lt
  have L2 := o2.lt
  have ND : (F1 ++ (F2 ++ ([]))).Nodup := by
    simp only [List.append_nil, List.nodup_append]
    refine ⟨nd1, nd2, fun x hx y hy e => ?n1⟩
    case n1 =>
      subst e
      have h1 := TOP1 x hx; have h2 := L2 x hy; omega
  have HO : Hid ((∀ w', (∀ g, w.heap.size + 1 + 1 < g → w'.heap[g]? = w2.heap[g]?) → Own shNode w' w.heap.size [.int .i64 x0, .slice (some ⟨g1, 0, none⟩) n1 n1, .slice (some ⟨g2, 0, none⟩) n2 n2] d (F1 ++ (F2 ++ ([])))) ∧ True) := ⟨fun w' hw' => by
    have := own_Node (w := w') (B := w.heap.size) (d := d) ((p1_2.keep fun g hg => hw' g (by have := (L1 g hg).1; omega)).base (by omega)) ((o2.keep fun g hg => hw' g (by have := (L2 g hg).1; omega)).base (by omega))
    simpa only [← HE.out.1] using this, trivial⟩
  have HB : Hid (Below w.heap.size w w2) := b2
  have HN : Hid ((F1 ++ (F2 ++ ([]))).Nodup) := ND
  clear iA iB iC ND b2 L1 L2 p1_2 o2
  have yz0 : (((w2).setCell ⟨w.heap.size + 1 + 1, 2, none⟩ (.slice (some ⟨g2, 0, none⟩) n2 n2)).setCell ⟨w.heap.size + 1, 0, none⟩ (.int .i64 x0)).cell? ⟨w.heap.size + 1, 0, none⟩ = some (.int .i64 x0) := World.cell?_setCell_same _ _ _ (by rw [World.cell?_setCell_other _ _ _ _ (by simp)]; exact yr2_0)
  have yz1 : ((((w2).setCell ⟨w.heap.size + 1 + 1, 2, none⟩ (.slice (some ⟨g2, 0, none⟩) n2 n2)).setCell ⟨w.heap.size + 1, 0, none⟩ (.int .i64 x0)).setCell ⟨w.heap.size + 1, 1, none⟩ (.slice (some ⟨g1, 0, none⟩) n1 n1)).cell? ⟨w.heap.size + 1, 1, none⟩ = some (.slice (some ⟨g1, 0, none⟩) n1 n1) := World.cell?_setCell_same _ _ _ (by rw [World.cell?_setCell_other _ _ _ _ (by simp), World.cell?_setCell_other _ _ _ _ (by simp)]; exact yr2_1)
  have yz2 : (((((w2).setCell ⟨w.heap.size + 1 + 1, 2, none⟩ (.slice (some ⟨g2, 0, none⟩) n2 n2)).setCell ⟨w.heap.size + 1, 0, none⟩ (.int .i64 x0)).setCell ⟨w.heap.size + 1, 1, none⟩ (.slice (some ⟨g1, 0, none⟩) n1 n1)).setCell ⟨w.heap.size + 1, 2, none⟩ (.slice (some ⟨g2, 0, none⟩) n2 n2)).cell? ⟨w.heap.size + 1, 2, none⟩ = some (.slice (some ⟨g2, 0, none⟩) n2 n2) := World.cell?_setCell_same _ _ _ (by rw [World.cell?_setCell_other _ _ _ _ (by simp), World.cell?_setCell_other _ _ _ _ (by simp), World.cell?_setCell_other _ _ _ _ (by simp)]; exact yr2_2)
  go_wp2
  (try simp only [Exit.inBlock, Exit.then])
  refine bodyPost_ret (by simp [results, Tryz.results81, go_sem, yz0, yz1, yz2]; try rfl) rfl ?_
  refine ⟨_, _, rfl, HO.out.1 _ (fun g hg => ((box_other _ (by omega)).trans ((box_other _ (by omega)).trans ((box_other _ (by omega)).trans (box_other _ (by omega)))))), HN.out, ?_⟩
  exact ((((HB.out.setCell (by simp <;> omega) _).setCell (by simp <;> omega) _).setCell (by simp <;> omega) _).setCell (by simp <;> omega) _)

set_option maxRecDepth 100000 in
set_option maxHeartbeats 1000000 in
theorem szNodeS_any (a : Option Addr) (n cap : Nat) (d : List shNode.D) (left : Int) (w : World) (hr : Reads (.sl shNode) w [.slice a n cap] d) (h0 : 0 ≤ left) (h1 : left ≤ 1048576) :
    Calls Tryz.prog 28 #[.slice a n cap, .int .i64 left] w fun e w' => e = .returned (.int .i64 (szAns (Sh.sz (.sl shNode) d) left)) ∧ Below w.heap.size w w' := by
  obtain ⟨hl, hc1, hc2⟩ := reads_len hr
  unfold maxLen at hc2
  obtain ⟨K, hK⟩ : ∃ K, K = (List.map shNode.sz d).sum := ⟨_, rfl⟩
  have hs : Sh.sz (.sl shNode) d = n + K := by rw [hK, ← hl]; rfl
  rw [hs]
  have HR : Hid (Reads (.sl shNode) w [.slice a n cap] d) := hr
  have HK : Hid (K = (List.map shNode.sz d).sum) := hK
  have HL : Hid (d.length = n) := hl
  clear hr hK hs hl
  by_cases h : (n : Int) ≤ left
  · have h2 : ¬ (left - (n : Int) < 0) := by omega
    go_enter Tryz.func28, Tryz.ntmps28
    go_wp2
    go_loopw [1, 5] (fun l i wr => ∃ k S : Nat, k ≤ n ∧ i = .int .i64 k ∧ l = .int .i64 (left - n - S) ∧ Hid (S = szTo shNode d k) ∧ (n : Int) + S ≤ left ∧ Below w.heap.size w wr) (fun _ i _ => n - (intOf i).toNat)
    case atStart => exact ⟨0, 0, by omega, rfl, by simp, (szTo_zero _ _).symm, by omega, Below.refl _ _⟩
    case round =>
      obtain ⟨k, S, hk, rfl, rfl, hS, hle, hbel⟩ := hrel
      by_cases hlt : k < n
      · obtain ⟨b, off, c, x, rfl, hb, hx, hrx, hcell⟩ := reads_elem HR.out k hlt
        have Sx := szTo_succ shNode d k x hx
        have Sle := szTo_le shNode d (k + 1)
        obtain ⟨X, hX⟩ : ∃ X, X = shNode.sz x := ⟨_, rfl⟩
        have q : Hid (∀ l : Int, 0 ≤ l → l ≤ 1048576 → Calls Tryz.prog 73 #[.agg c.toArray, .int .i64 l] wr fun e w'' => e = .returned (.int .i64 (szAns X l)) ∧ Below wr.heap.size wr w'') := fun l l0 l1 => by rw [hX]; exact szNode_any c x l wr (hrx.later hbel) l0 l1
        have HX : Hid (szTo shNode d (k + 1) = S + X ∧ S + X ≤ K) := ⟨by rw [Sx, hS.out, hX], by rw [HK.out, hS.out, hX, ← Sx]; exact Sle⟩
        have hXK := HX.out.2
        obtain ⟨a1, n1, c1, a2, n2, c2, rfl, _, _⟩ := open_Node hrx
        obtain ⟨y0, ey0⟩ : ∃ y : Int, y = x.1 := ⟨_, rfl⟩
        have g0 : wr.cell? ⟨b, off + k * 3, none⟩ = some (.int .i64 y0) := by rw [ey0]; exact (hbel.cell (p := ⟨b, off + (k * 3 + 0), none⟩) hb).trans (hcell 0 (by decide))
        have g1 : wr.cell? ⟨b, off + k * 3 + 1, none⟩ = some (.slice a1 n1 c1) := by exact (hbel.cell (p := ⟨b, off + (k * 3 + 1), none⟩) hb).trans (hcell 1 (by decide))
        have g2 : wr.cell? ⟨b, off + k * 3 + 2, none⟩ = some (.slice a2 n2 c2) := by exact (hbel.cell (p := ⟨b, off + (k * 3 + 2), none⟩) hb).trans (hcell 2 (by decide))
        rw [← ey0] at q
        clear hcell hrx Sx Sle hX hx ey0
        go_wp2_with fail
        refine (q.out (left - n - S) (by omega) (by omega)).mono ?_
        rintro e w1 ⟨rfl, hb1⟩
        have hbel1 := hbel.trans (hb1.mono hbel.size)
        clear g0 g1 g2
        by_cases t : (X : Int) ≤ left - n - S
        · rw [szAns_yes t]
          have u : ¬ (left - (n : Int) - (S : Int) - (X : Int) < 0) := by omega
          go_wp2
          go_roundw
          case rel => exact ⟨k + 1, S + X, by omega, by go_num, by congr 1; omega, HX.out.1.symm, by omega, hbel1⟩
          case measure => simp [intOf]; omega
        · rw [szAns_no t]
          have E : Hid (szAns (n + K) left = -1) := szAns_no (by omega)
          go_wp2
          go_ret
          exact ⟨by rw [E.out]; rfl, hbel1⟩
      · have e : k = n := by omega
        subst e
        have E : Hid (szAns (k + K) left = left - k - S) := by
          show _ = _
          have h3 : S = K := by rw [hS.out, HK.out]; exact szTo_all _ _ _ (by rw [HL.out]; exact Nat.le_refl _)
          rw [szAns_yes (by omega)]; omega
        go_wp2
        go_ret
        exact ⟨by rw [E.out]; rfl, hbel⟩
  · have h2 : (left - (n : Int) < 0) := by omega
    have E : Hid (szAns (n + K) left = -1) := szAns_no (by omega)
    go_enter Tryz.func28, Tryz.ntmps28
    go_wp2
    go_ret
    exact ⟨by rw [E.out]; rfl, Below.refl _ _⟩

theorem infoNode : (Tryz.prog.info? 70).map (fun i => (i.zero, i.size, i.bytes)) = some (some (.agg #[.int .i64 0, .slice none 0 0, .slice none 0 0]), 3, 56) := by kernel_rfl

set_option maxRecDepth 100000 in
set_option maxHeartbeats 1000000 in
theorem toNodeS_own (a : Option Addr) (n cap : Nat) (d : List shNode.D) (w : World) (hr : Reads (.sl shNode) w [.slice a n cap] d) (hs : Sh.sz (.sl shNode) d ≤ 1048576) :
    Calls Tryz.prog 36 #[.slice a n cap] w fun e w' => ∃ (g : Nat) (F : List Nat), e = .returned (.slice (some ⟨g, 0, none⟩) n n) ∧ Own (.sl shNode) w' w.heap.size [.slice (some ⟨g, 0, none⟩) n n] d F ∧ F.Nodup ∧ Below w.heap.size w w' := by
  obtain ⟨i0, hi, hz0, hz1, hz2⟩ := info_parts infoNode
  obtain ⟨hl, hc1, hc2⟩ := reads_len hr
  have hs' : n + (List.map shNode.sz d).sum ≤ 1048576 := by rw [← hl]; exact hs
  have HS : Hid (n + (List.map shNode.sz d).sum ≤ 1048576) := hs'
  have hn : n ≤ 1048576 := by omega
  have HR : Hid (Reads (.sl shNode) w [.slice a n cap] d) := hr
  have HL : Hid (d.length = n) := hl
  clear hr hs hs' hl
  unfold maxLen at hc2
  go_enter Tryz.func36, Tryz.ntmps36
  go_wp2_with (at_make; refine wpList_make_full _ rfl _ _ 29 rfl w.heap.size 70 i0 (.agg #[.int .i64 0, .slice none 0 0, .slice none 0 0]) 3 Tryz.underlying29 hi hz0 hz1 _ _ _ _ n rfl rfl rfl rfl ?b2 ?b3 (Nat.le_refl _) ?_)
  case b2 => rw [hz2]; omega
  case b3 => unfold maxLen; omega
  intro w0 hown0 hgrow0
  have hb0 : Below w.heap.size w w0 := (Below.refl _ _).grown hgrow0 (Nat.le_refl _) (fun k h => by cases h)
  have hf0 : Fill shNode 70 w0 w.heap.size w.heap.size n 0 d := by
    rcases hown0.2 with ⟨h1, _⟩ | ⟨g', cap', cur, hv, hg, hh, h1, h2, h3, h4⟩
    · simp at h1
    · simp only [Value.slice.injEq, Option.some.injEq, Addr.mk.injEq, and_true, true_and] at hv
      obtain ⟨rfl, rfl⟩ := hv
      exact Fill.zero HL.out (by unfold maxLen; omega) (Nat.le_refl _) hh h3
  clear hown0 hgrow0
  have H0 : Hid (Fill shNode 70 w0 w.heap.size w.heap.size n 0 d ∧ Below w.heap.size w w0) := ⟨hf0, hb0⟩
  clear hf0 hb0
  go_wp2
  go_loopw [4] (fun i wr => ∃ k : Nat, k ≤ n ∧ i = .int .i64 k ∧ Hid (Fill shNode 70 wr w.heap.size w.heap.size n k d) ∧ Below w.heap.size w wr) (fun i _ => n - (intOf i).toNat)
  case atStart => exact ⟨0, by omega, rfl, H0.out.1, H0.out.2⟩
  case round =>
    obtain ⟨k, hk, rfl, hfill, hbel⟩ := hrel
    by_cases hlt : k < n
    · obtain ⟨b, off, c, x, rfl, hb, hx, hrx, hcell⟩ := reads_elem HR.out k hlt
      have hxs := sz_elem shNode d k x hx
      have q : Hid (Calls Tryz.prog 81 #[.agg c.toArray] wr fun e w' => ∃ cs' F, e = .returned (.agg cs'.toArray) ∧ Own shNode w' wr.heap.size cs' x F ∧ F.Nodup ∧ Below wr.heap.size wr w') := toNode_any c x wr (hrx.later hbel) (by have := HS.out; omega)
      have HX : Hid (shNode.at d k = some x) := hx
      obtain ⟨a1, n1, c1, a2, n2, c2, rfl, _, _⟩ := open_Node hrx
      obtain ⟨y0, ey0⟩ : ∃ y : Int, y = x.1 := ⟨_, rfl⟩
      have g0 : wr.cell? ⟨b, off + k * 3, none⟩ = some (.int .i64 y0) := by rw [ey0]; exact (hbel.cell (p := ⟨b, off + (k * 3 + 0), none⟩) hb).trans (hcell 0 (by decide))
      have g1 : wr.cell? ⟨b, off + k * 3 + 1, none⟩ = some (.slice a1 n1 c1) := by exact (hbel.cell (p := ⟨b, off + (k * 3 + 1), none⟩) hb).trans (hcell 1 (by decide))
      have g2 : wr.cell? ⟨b, off + k * 3 + 2, none⟩ = some (.slice a2 n2 c2) := by exact (hbel.cell (p := ⟨b, off + (k * 3 + 2), none⟩) hb).trans (hcell 2 (by decide))
      rw [← ey0] at q
      have HEY : Hid (y0 = x.1 ∧ True) := ⟨ey0, trivial⟩
      clear hcell hrx hx hxs ey0
      go_wp2_with fail
      refine q.out.mono ?_
      rintro e w1 ⟨cs', F, he, ho, hnd, hb1⟩
      obtain ⟨aq1, nq1, cq1, aq2, nq2, cq2, hcs, _⟩ := open_Node ho.reads
      rw [← HEY.out.1] at hcs
      subst hcs
      subst he
      have hbel1 := hbel.trans (hb1.mono hbel.size)
      have hfill1 := hfill.out.later hb1
      have hsz1 := hbel1.size
      obtain ⟨⟨u0, fc0⟩, ff0⟩ := hfill1.cell (k * 3) (by show _ < n * 3; omega)
      obtain ⟨⟨u1, fc1⟩, ff1⟩ := hfill1.cell (k * 3 + 1) (by show _ < n * 3; omega)
      obtain ⟨⟨u2, fc2⟩, ff2⟩ := hfill1.cell (k * 3 + 2) (by show _ < n * 3; omega)
      have HF : Hid (Own shNode w1 wr.heap.size [.int .i64 y0, .slice aq1 nq1 cq1, .slice aq2 nq2 cq2] x F ∧ F.Nodup ∧ Below wr.heap.size wr w1) := ⟨ho, hnd, hb1⟩
      clear ho hnd hb1 hfill1 q g0 g1 g2
      go_wp2_with fail
      obtain ⟨W, hW⟩ : ∃ W, W = (((w1).setCell ⟨w.heap.size, k * 3, none⟩ (.int .i64 y0)).setCell ⟨w.heap.size, k * 3 + 1, none⟩ (.slice aq1 nq1 cq1)).setCell ⟨w.heap.size, k * 3 + 2, none⟩ (.slice aq2 nq2 cq2) := ⟨_, rfl⟩
      have hstep : Fill shNode 70 W w.heap.size w.heap.size n (k + 1) d := by
        refine hfill.out.step hlt HX.out HF.out.2.2 HF.out.1 HF.out.2.1 hbel.size ?_ ?_
        · intro l hh
          rw [hW]
          have := box_set (j := k * 3 + 2) (.slice aq2 nq2 cq2) (box_set (j := k * 3 + 1) (.slice aq1 nq1 cq1) (box_set (j := k * 3) (.int .i64 y0) hh))
          rw [this]
          simp [setRow, size_Node]
        · intro i hi
          rw [hW]
          exact ((box_other _ hi).trans ((box_other _ hi).trans (box_other _ hi)))
      have hbW : Below w.heap.size w W := by rw [hW]; exact (((hbel1.setCell (by simp <;> omega) _).setCell (by simp <;> omega) _).setCell (by simp <;> omega) _)
      rw [← hW]
      have HH : Hid (Fill shNode 70 W w.heap.size w.heap.size n (k + 1) d ∧ Below w.heap.size w W) := ⟨hstep, hbW⟩
      clear hW hstep hbW fc0 ff0 fc1 ff1 fc2 ff2
      go_wp2
      go_roundw
      case rel => exact ⟨k + 1, by omega, by go_num, HH.out.1, HH.out.2⟩
      case measure => simp [intOf]; omega
    · have e : k = n := by omega
      subst e
      obtain ⟨F, hF1, hF2⟩ := hfill.out.full
      have HF : Hid (Own (.sl shNode) wr w.heap.size [.slice (some ⟨w.heap.size, 0, none⟩) k k] d F ∧ F.Nodup) := ⟨hF1, hF2⟩
      clear hF1 hF2
      go_wp2
      go_ret
      exact ⟨_, F, rfl, HF.out.1, HF.out.2, hbel⟩

set_option maxRecDepth 100000 in
set_option maxHeartbeats 1000000 in
theorem eqNode_any (cs1 cs2 : List Value) (d : shNode.D) (w : World) (hr : Reads shNode w cs1 d) (hq : Reads shNode w cs2 d) (hs : shNode.sz d ≤ 1048576) :
    Calls Tryz.prog 100 #[.agg cs1.toArray, .agg cs2.toArray] w fun e w' => e = .returned (.bool true) ∧ Below w.heap.size w w' := by
  obtain ⟨a1, n1, c1, a2, n2, c2, rfl, r1, r2⟩ := open_Node hr
  obtain ⟨p1, m1, k1, p2, m2, k2, rfl, t1, t2⟩ := open_Node hq
  obtain ⟨x0, e0⟩ : ∃ x : Int, x = d.1 := ⟨_, rfl⟩

  rw [sz_Node] at hs
  obtain rfl : n1 = m1 := (reads_len r1).1.symm.trans (reads_len t1).1
  have q1 : Hid (∀ w', Below w.heap.size w w' → Calls Tryz.prog 69 #[.slice a1 n1 c1, .slice p1 n1 k1] w' fun e w'' => e = .returned (.bool true) ∧ Below w'.heap.size w' w'') := fun w' h' => eqByteS_reads a1 p1 n1 c1 k1 _ w' (r1.later h') (t1.later h') (by omega)
  obtain rfl : n2 = m2 := (reads_len r2).1.symm.trans (reads_len t2).1
  have q2 : Hid (∀ w', Below w.heap.size w w' → Calls Tryz.prog 69 #[.slice a2 n2 c2, .slice p2 n2 k2] w' fun e w'' => e = .returned (.bool true) ∧ Below w'.heap.size w' w'') := fun w' h' => eqByteS_reads a2 p2 n2 c2 k2 _ w' (r2.later h') (t2.later h') (by omega)
  rw [← e0]
  have ne0 : (x0 != x0) = false := by simp
  clear hr hq hs r1 r2 t1 t2 e0
  obtain ⟨W0, hW0⟩ : ∃ W0, W0 = (w.alloc (.cells #[.int .i64 x0, .slice a1 n1 c1, .slice a2 n2 c2] 70)).alloc (.cells #[.int .i64 x0, .slice p1 n1 k1, .slice p2 n2 k2] 70) := ⟨_, rfl⟩
  have bW0 : Below w.heap.size w W0 := by rw [hW0]; exact ((Below.refl _ _).alloc (Nat.le_refl _) _).alloc (by simp) _
  have hA : W0.heap[w.heap.size]? = some (.cells #[.int .i64 x0, .slice a1 n1 c1, .slice a2 n2 c2] 70 (0, 0)) := by rw [hW0, heap_alloc_old _ _ (by simp)]; exact heap_alloc_new w _
  have hB : W0.heap[w.heap.size + 1]? = some (.cells #[.int .i64 x0, .slice p1 n1 k1, .slice p2 n2 k2] 70 (0, 0)) := by rw [hW0]; exact (by have := heap_alloc_new (w.alloc (.cells #[.int .i64 x0, .slice a1 n1 c1, .slice a2 n2 c2] 70)) (.cells #[.int .i64 x0, .slice p1 n1 k1, .slice p2 n2 k2] 70); simpa using this)
  have zW0 : W0.heap.size = w.heap.size + 1 + 1 := by rw [hW0]; simp
  have HW0 : Hid (W0 = _) := hW0
  have HAB : Hid (W0.heap[w.heap.size]? = some (.cells #[.int .i64 x0, .slice a1 n1 c1, .slice a2 n2 c2] 70 (0, 0)) ∧ W0.heap[w.heap.size + 1]? = some (.cells #[.int .i64 x0, .slice p1 n1 k1, .slice p2 n2 k2] 70 (0, 0))) := ⟨hA, hB⟩
  clear hW0 hA hB
  go_enter Tryz.func100, Tryz.ntmps100
  go_wp2_with fail
  rw [← HW0.out]
  refine (q1.out _ bW0).mono ?_
  rintro e w1 ⟨rfl, hb1⟩
  have b1 := bW0.trans (hb1.mono bW0.size)
  have z1 := hb1.size
  have iA : w1.heap[w.heap.size]? = some (.cells #[.int .i64 x0, .slice a1 n1 c1, .slice a2 n2 c2] 70 (0, 0)) := (hb1.block _ (by omega)).trans HAB.out.1
  have iB : w1.heap[w.heap.size + 1]? = some (.cells #[.int .i64 x0, .slice p1 n1 k1, .slice p2 n2 k2] 70 (0, 0)) := (hb1.block _ (by omega)).trans HAB.out.2
  have ya1_2 : w1.cell? ⟨w.heap.size, 2, none⟩ = some (.slice a2 n2 c2) := box_cell iA rfl
  have yb1_2 : w1.cell? ⟨w.heap.size + 1, 2, none⟩ = some (.slice p2 n2 k2) := box_cell iB rfl
  have I1 : Hid (w1.heap[w.heap.size]? = some (.cells #[.int .i64 x0, .slice a1 n1 c1, .slice a2 n2 c2] 70 (0, 0)) ∧ w1.heap[w.heap.size + 1]? = some (.cells #[.int .i64 x0, .slice p1 n1 k1, .slice p2 n2 k2] 70 (0, 0))) := ⟨iA, iB⟩
  clear iA iB hb1
  go_wp2_with fail
  refine (q2.out _ b1).mono ?_
  rintro e w2 ⟨rfl, hb2⟩
  have b2 := b1.trans (hb2.mono b1.size)
  have z2 := hb2.size
  have iA : w2.heap[w.heap.size]? = some (.cells #[.int .i64 x0, .slice a1 n1 c1, .slice a2 n2 c2] 70 (0, 0)) := (hb2.block _ (by omega)).trans I1.out.1
  have iB : w2.heap[w.heap.size + 1]? = some (.cells #[.int .i64 x0, .slice p1 n1 k1, .slice p2 n2 k2] 70 (0, 0)) := (hb2.block _ (by omega)).trans I1.out.2
  have I2 : Hid (w2.heap[w.heap.size]? = some (.cells #[.int .i64 x0, .slice a1 n1 c1, .slice a2 n2 c2] 70 (0, 0)) ∧ w2.heap[w.heap.size + 1]? = some (.cells #[.int .i64 x0, .slice p1 n1 k1, .slice p2 n2 k2] 70 (0, 0))) := ⟨iA, iB⟩
  clear iA iB hb2
  go_wp2
  go_ret
  exact ⟨rfl, b2⟩

set_option maxRecDepth 100000 in
set_option maxHeartbeats 1000000 in
theorem eqNodeS_reads (a b : Option Addr) (n ca cb : Nat) (d : List shNode.D) (w : World) (hr1 : Reads (.sl shNode) w [.slice a n ca] d) (hr2 : Reads (.sl shNode) w [.slice b n cb] d) (hs : Sh.sz (.sl shNode) d ≤ 1048576) :
    Calls Tryz.prog 45 #[.slice a n ca, .slice b n cb] w fun e w' => e = .returned (.bool true) ∧ Below w.heap.size w w' := by
  obtain ⟨hl, hc1, hc2⟩ := reads_len hr1
  have hs' : n + (List.map shNode.sz d).sum ≤ 1048576 := by rw [← hl]; exact hs
  have HS : Hid (n + (List.map shNode.sz d).sum ≤ 1048576) := hs'
  have hn : n ≤ 1048576 := by omega
  have HR : Hid (Reads (.sl shNode) w [.slice a n ca] d ∧ Reads (.sl shNode) w [.slice b n cb] d) := ⟨hr1, hr2⟩
  clear hr1 hr2 hs hs' hl hc1 hc2
  have hnn : ((n : Int) != (n : Int)) = false := by simp
  go_enter Tryz.func45, Tryz.ntmps45
  go_wp2
  go_loopw [5] (fun i wr => ∃ k : Nat, k ≤ n ∧ i = .int .i64 k ∧ Below w.heap.size w wr) (fun i _ => n - (intOf i).toNat)
  case atStart => exact ⟨0, Nat.zero_le _, rfl, Below.refl _ _⟩
  case round =>
    obtain ⟨k, hk, rfl, hbel⟩ := hrel
    by_cases hlt : k < n
    · obtain ⟨b1, o1, c, x, rfl, hb1, hx, hrx, hcell⟩ := reads_elem HR.out.1 k hlt
      obtain ⟨b2, o2, c', x', rfl, hb2, hx', hrx', hcell'⟩ := reads_elem HR.out.2 k hlt
      obtain rfl : x = x' := Option.some.inj (hx.symm.trans hx')
      have hxs := sz_elem shNode d k x hx
      have q : Hid (∀ w', Below wr.heap.size wr w' → Calls Tryz.prog 100 #[.agg c.toArray, .agg c'.toArray] w' fun e w'' => e = .returned (.bool true) ∧ Below w'.heap.size w' w'') := fun w' h' => eqNode_any c c' x w' ((hrx.later hbel).later h') ((hrx'.later hbel).later h') (by have := HS.out; omega)
      obtain ⟨a1, n1, c1, a2, n2, c2, rfl, s1, s2⟩ := open_Node hrx
      obtain ⟨p1, m1, k1, p2, m2, k2, rfl, t1, t2⟩ := open_Node hrx'
      obtain rfl : n1 = m1 := (reads_len s1).1.symm.trans (reads_len t1).1
      clear s1 t1
      obtain rfl : n2 = m2 := (reads_len s2).1.symm.trans (reads_len t2).1
      clear s2 t2
      obtain ⟨y0, ey0⟩ : ∃ y : Int, y = x.1 := ⟨_, rfl⟩
      have g0 : wr.cell? ⟨b1, o1 + k * 3, none⟩ = some (.int .i64 y0) := by rw [ey0]; exact (hbel.cell (p := ⟨b1, o1 + (k * 3 + 0), none⟩) hb1).trans (hcell 0 (by decide))
      have g1 : wr.cell? ⟨b1, o1 + k * 3 + 1, none⟩ = some (.slice a1 n1 c1) := by exact (hbel.cell (p := ⟨b1, o1 + (k * 3 + 1), none⟩) hb1).trans (hcell 1 (by decide))
      have g2 : wr.cell? ⟨b1, o1 + k * 3 + 2, none⟩ = some (.slice a2 n2 c2) := by exact (hbel.cell (p := ⟨b1, o1 + (k * 3 + 2), none⟩) hb1).trans (hcell 2 (by decide))
      have f0 : wr.cell? ⟨b2, o2 + k * 3, none⟩ = some (.int .i64 y0) := by rw [ey0]; exact (hbel.cell (p := ⟨b2, o2 + (k * 3 + 0), none⟩) hb2).trans (hcell' 0 (by decide))
      have f1 : wr.cell? ⟨b2, o2 + k * 3 + 1, none⟩ = some (.slice p1 n1 k1) := by exact (hbel.cell (p := ⟨b2, o2 + (k * 3 + 1), none⟩) hb2).trans (hcell' 1 (by decide))
      have f2 : wr.cell? ⟨b2, o2 + k * 3 + 2, none⟩ = some (.slice p2 n2 k2) := by exact (hbel.cell (p := ⟨b2, o2 + (k * 3 + 2), none⟩) hb2).trans (hcell' 2 (by decide))
      rw [← ey0] at q
      have hbs := hbel.size
      have hlt' : (k : Int) < (n : Int) := by omega
      have hbb : Below wr.heap.size wr wr := Below.refl _ _
      clear hcell hrx hx hxs hcell' hrx' hx' ey0
      go_wp2_with fail
      go_region_held (fun w' => w'.cell? ⟨b1, o1 + k * 3, none⟩ = some (.int .i64 y0) ∧ w'.cell? ⟨b1, o1 + k * 3 + 1, none⟩ = some (.slice a1 n1 c1) ∧ w'.cell? ⟨b1, o1 + k * 3 + 2, none⟩ = some (.slice a2 n2 c2) ∧ w'.cell? ⟨b2, o2 + k * 3, none⟩ = some (.int .i64 y0) ∧ w'.cell? ⟨b2, o2 + k * 3 + 1, none⟩ = some (.slice p1 n1 k1) ∧ w'.cell? ⟨b2, o2 + k * 3 + 2, none⟩ = some (.slice p2 n2 k2))
        (first | go_keep | (refine ⟨(hb7.cell (p := ⟨b1, o1 + k * 3, none⟩) (by simp; omega)).trans ?_, (hb7.cell (p := ⟨b1, o1 + k * 3 + 1, none⟩) (by simp; omega)).trans ?_, (hb7.cell (p := ⟨b1, o1 + k * 3 + 2, none⟩) (by simp; omega)).trans ?_, (hb7.cell (p := ⟨b2, o2 + k * 3, none⟩) (by simp; omega)).trans ?_, (hb7.cell (p := ⟨b2, o2 + k * 3 + 1, none⟩) (by simp; omega)).trans ?_, (hb7.cell (p := ⟨b2, o2 + k * 3 + 2, none⟩) (by simp; omega)).trans ?_⟩ <;> assumption))
        ((go_at_call 100; refine (q.out _ (Below.drew hbb)).mono ?_; rintro e w7 ⟨rfl, hb7⟩))
      have hbel7 : Below w.heap.size w w7 := hbel.trans (((Below.drew hbb).trans (hb7.mono (by simp))).mono hbel.size)
      clear hb7
      go_wp2
      go_roundw
      case rel => exact ⟨k + 1, by omega, by go_num, hbel7⟩
      case measure => simp [intOf]; omega
    · go_wp2
      go_ret
      exact ⟨rfl, hbel⟩

end Go.Proofs.YtkaegbhmeonjfaaGreat

/- TyDisk: The type Disk of the laws: its shape, and what szDisk, toDisk, eqDisk and those of its slices do. By program (tygen.py). -/
namespace Go.Proofs.YtkaegbhmeonjfaaGreat
open Go.RowKit
set_option linter.unusedVariables false
set_option maxRecDepth 100000

def shDisk : Sh := Sh.ofL [.int, .int, .int, (.sl shNode), (.sl shLink), (.sl shTurn)]

theorem open_Disk {w : World} {cs : List Value} {d : shDisk.D} (h : Reads shDisk w cs d) :
    ∃ a3 n3 c3 a4 n4 c4 a5 n5 c5, cs = [.int .i64 (d.1), .int .i64 (d.2.1), .int .i64 (d.2.2.1), .slice a3 n3 c3, .slice a4 n4 c4, .slice a5 n5 c5] ∧ Reads (.sl shNode) w [.slice a3 n3 c3] d.2.2.2.1 ∧ Reads (.sl shLink) w [.slice a4 n4 c4] d.2.2.2.2.1 ∧ Reads (.sl shTurn) w [.slice a5 n5 c5] d.2.2.2.2.2.1 := by
  obtain ⟨_, _, rfl, h0, _, _, rfl, h1, _, _, rfl, h2, _, _, rfl, h3, _, _, rfl, h4, _, _, rfl, h5, hE⟩ := h
  have e0 : _ = _ := h0
  have e1 : _ = _ := h1
  have e2 : _ = _ := h2
  have g3 := h3
  obtain ⟨a3, c3, e3, _⟩ := g3
  have g4 := h4
  obtain ⟨a4, c4, e4, _⟩ := g4
  have g5 := h5
  obtain ⟨a5, c5, e5, _⟩ := g5
  have eE : _ = _ := hE
  subst e0 e1 e2 e3 e4 e5 eE
  exact ⟨a3, _, c3, a4, _, c4, a5, _, c5, rfl, h3, h4, h5⟩

theorem own_Disk {w : World} {B : Nat} {d : shDisk.D} {v3 : Value} {F3 : List Nat} {v4 : Value} {F4 : List Nat} {v5 : Value} {F5 : List Nat} (o3 : Own (.sl shNode) w B [v3] d.2.2.2.1 F3) (o4 : Own (.sl shLink) w B [v4] d.2.2.2.2.1 F4) (o5 : Own (.sl shTurn) w B [v5] d.2.2.2.2.2.1 F5) :
    Own shDisk w B [.int .i64 (d.1), .int .i64 (d.2.1), .int .i64 (d.2.2.1), v3, v4, v5] d (F3 ++ (F4 ++ (F5 ++ ([])))) := by
  exact ⟨[_], _, [], F3 ++ (F4 ++ (F5 ++ ([]))), rfl, rfl, ⟨rfl, rfl⟩, ⟨[_], _, [], F3 ++ (F4 ++ (F5 ++ ([]))), rfl, rfl, ⟨rfl, rfl⟩, ⟨[_], _, [], F3 ++ (F4 ++ (F5 ++ ([]))), rfl, rfl, ⟨rfl, rfl⟩, ⟨[_], _, F3, F4 ++ (F5 ++ ([])), rfl, rfl, o3, ⟨[_], _, F4, F5 ++ ([]), rfl, rfl, o4, ⟨[_], _, F5, [], rfl, rfl, o5, ⟨rfl, rfl⟩⟩⟩⟩⟩⟩⟩

theorem size_Disk : shDisk.size = 6 := rfl

theorem sz_Disk (d : shDisk.D) : shDisk.sz d = Sh.sz (.sl shNode) d.2.2.2.1 + Sh.sz (.sl shLink) d.2.2.2.2.1 + Sh.sz (.sl shTurn) d.2.2.2.2.2.1 := by
  show 0 + (0 + (0 + (Sh.sz (.sl shNode) d.2.2.2.1 + (Sh.sz (.sl shLink) d.2.2.2.2.1 + (Sh.sz (.sl shTurn) d.2.2.2.2.2.1 + (0)))))) = _
  omega

set_option maxHeartbeats 1000000 in
theorem szDisk_any (cs : List Value) (d : shDisk.D) (left : Int) (w : World) (hr : Reads shDisk w cs d) (h0 : 0 ≤ left) (h1 : left ≤ 1048576) :
    Calls Tryz.prog 6 #[.agg cs.toArray, .int .i64 left] w fun e w' => e = .returned (.int .i64 (szAns (shDisk.sz d) left)) ∧ Below w.heap.size w w' := by
  obtain ⟨a3, n3, c3, a4, n4, c4, a5, n5, c5, rfl, r3, r4, r5⟩ := open_Disk hr
  obtain ⟨x0, e0⟩ : ∃ x : Int, x = d.1 := ⟨_, rfl⟩
  obtain ⟨x1, e1⟩ : ∃ x : Int, x = d.2.1 := ⟨_, rfl⟩
  obtain ⟨x2, e2⟩ : ∃ x : Int, x = d.2.2.1 := ⟨_, rfl⟩

  rw [sz_Disk]
  obtain ⟨k3, hk3⟩ : ∃ k, k = Sh.sz (.sl shNode) d.2.2.2.1 := ⟨_, rfl⟩
  have q3 : Hid (∀ w', Below w.heap.size w w' → ∀ l : Int, 0 ≤ l → l ≤ 1048576 → Calls Tryz.prog 28 #[.slice a3 n3 c3, .int .i64 l] w' fun e w'' => e = .returned (.int .i64 (szAns k3 l)) ∧ Below w'.heap.size w' w'') := fun w' hb l l0 l1 => by rw [hk3]; exact szNodeS_any a3 n3 c3 _ l w' (r3.later hb) l0 l1
  obtain ⟨k4, hk4⟩ : ∃ k, k = Sh.sz (.sl shLink) d.2.2.2.2.1 := ⟨_, rfl⟩
  have q4 : Hid (∀ w', Below w.heap.size w w' → ∀ l : Int, 0 ≤ l → l ≤ 1048576 → Calls Tryz.prog 29 #[.slice a4 n4 c4, .int .i64 l] w' fun e w'' => e = .returned (.int .i64 (szAns k4 l)) ∧ Below w'.heap.size w' w'') := fun w' hb l l0 l1 => by rw [hk4]; exact szLinkS_any a4 n4 c4 _ l w' (r4.later hb) l0 l1
  obtain ⟨k5, hk5⟩ : ∃ k, k = Sh.sz (.sl shTurn) d.2.2.2.2.2.1 := ⟨_, rfl⟩
  have q5 : Hid (∀ w', Below w.heap.size w w' → ∀ l : Int, 0 ≤ l → l ≤ 1048576 → Calls Tryz.prog 30 #[.slice a5 n5 c5, .int .i64 l] w' fun e w'' => e = .returned (.int .i64 (szAns k5 l)) ∧ Below w'.heap.size w' w'') := fun w' hb l l0 l1 => by rw [hk5]; exact szTurnS_any a5 n5 c5 _ l w' (r5.later hb) l0 l1
  rw [← hk3, ← hk4, ← hk5]
  rw [← e0, ← e1, ← e2]
  clear hr r3 r4 r5 hk3 hk4 hk5 e0 e1 e2
  obtain ⟨W0, hW0⟩ : ∃ W0, W0 = w.alloc (.cells #[.int .i64 x0, .int .i64 x1, .int .i64 x2, .slice a3 n3 c3, .slice a4 n4 c4, .slice a5 n5 c5] 26) := ⟨_, rfl⟩
  have bW0 : Below w.heap.size w W0 := by rw [hW0]; exact (Below.refl _ _).alloc (Nat.le_refl _) _
  have hbox : W0.heap[w.heap.size]? = some (.cells #[.int .i64 x0, .int .i64 x1, .int .i64 x2, .slice a3 n3 c3, .slice a4 n4 c4, .slice a5 n5 c5] 26 (0, 0)) := by rw [hW0]; exact heap_alloc_new w _
  have zW0 : W0.heap.size = w.heap.size + 1 := by rw [hW0]; simp
  have HW0 : Hid (W0 = _) := hW0
  have HBX : Hid _ := hbox
  clear hW0 hbox
  go_enter Tryz.func6, Tryz.ntmps6
  go_wp2_with fail
  rw [← HW0.out]
  refine (q3.out _ bW0 (left) (by omega) (by omega)).mono ?_
  rintro e w3 ⟨rfl, hb3⟩
  have b3 := bW0.trans (hb3.mono bW0.size)
  have i3 : w3.heap[w.heap.size]? = _ := (hb3.block _ (by rw [zW0]; omega)).trans HBX.out
  have z3 := hb3.size
  rw [zW0] at z3
  have y3_4 : w3.cell? ⟨w.heap.size, 4, none⟩ = some (.slice a4 n4 c4) := box_cell i3 rfl
  have y3_5 : w3.cell? ⟨w.heap.size, 5, none⟩ = some (.slice a5 n5 c5) := box_cell i3 rfl
  have I3 : Hid _ := i3
  clear i3 hb3
  by_cases t3 : (k3 : Int) ≤ left
  rotate_left
  · rw [szAns_no t3]
    have E : Hid (szAns (k3 + k4 + k5) left = -1) := szAns_no (by omega)
    go_wp2
    go_ret
    exact ⟨by rw [E.out]; rfl, b3⟩
  rw [szAns_yes t3]
  have u3 : ¬ (left - (k3 : Int) < 0) := by omega
  go_wp2_with fail
  refine (q4.out _ b3 (left - (k3 : Int)) (by omega) (by omega)).mono ?_
  rintro e w4 ⟨rfl, hb4⟩
  have b4 := b3.trans (hb4.mono b3.size)
  have i4 : w4.heap[w.heap.size]? = _ := (hb4.block _ (by omega)).trans I3.out
  have z4 := hb4.size
  have y4_5 : w4.cell? ⟨w.heap.size, 5, none⟩ = some (.slice a5 n5 c5) := box_cell i4 rfl
  have I4 : Hid _ := i4
  clear i4 hb4
  by_cases t4 : (k4 : Int) ≤ left - (k3 : Int)
  rotate_left
  · rw [szAns_no t4]
    have E : Hid (szAns (k3 + k4 + k5) left = -1) := szAns_no (by omega)
    go_wp2
    go_ret
    exact ⟨by rw [E.out]; rfl, b4⟩
  rw [szAns_yes t4]
  have u4 : ¬ (left - (k3 : Int) - (k4 : Int) < 0) := by omega
  go_wp2_with fail
  refine (q5.out _ b4 (left - (k3 : Int) - (k4 : Int)) (by omega) (by omega)).mono ?_
  rintro e w5 ⟨rfl, hb5⟩
  have b5 := b4.trans (hb5.mono b4.size)
  have i5 : w5.heap[w.heap.size]? = _ := (hb5.block _ (by omega)).trans I4.out
  have z5 := hb5.size
  have I5 : Hid _ := i5
  clear i5 hb5
  by_cases t5 : (k5 : Int) ≤ left - (k3 : Int) - (k4 : Int)
  rotate_left
  · rw [szAns_no t5]
    have E : Hid (szAns (k3 + k4 + k5) left = -1) := szAns_no (by omega)
    go_wp2
    go_ret
    exact ⟨by rw [E.out]; rfl, b5⟩
  rw [szAns_yes t5]
  have u5 : ¬ (left - (k3 : Int) - (k4 : Int) - (k5 : Int) < 0) := by omega
  have E : Hid (szAns (k3 + k4 + k5) left = left - (k3 : Int) - (k4 : Int) - (k5 : Int)) := by show _ = _; rw [szAns_yes (by omega)]; omega
  go_wp2
  go_ret
  exact ⟨by rw [E.out]; rfl, b5⟩

theorem opens_Disk {H : Type} {enc : TypeId × Value → H} {w : World} {spare : Nat → Bool} {held : Bool} : Opens enc Tryz.prog w spare held 26 shDisk := by
  refine opens_struct [.int, .int, .int, (.sl shNode), (.sl shLink), (.sl shTurn)] Tryz.underlying26 (by kernel_rfl) (fun i s hi => ?_)
  match i, hi with
  | 0, hi => obtain rfl := Option.some.inj hi; exact ⟨_, rfl, opens_int Tryz.underlying3 (by kernel_rfl), rfl⟩
  | 1, hi => obtain rfl := Option.some.inj hi; exact ⟨_, rfl, opens_int Tryz.underlying3 (by kernel_rfl), rfl⟩
  | 2, hi => obtain rfl := Option.some.inj hi; exact ⟨_, rfl, opens_int Tryz.underlying3 (by kernel_rfl), rfl⟩
  | 3, hi => obtain rfl := Option.some.inj hi; exact ⟨_, rfl, opens_sl Tryz.underlying22 (by kernel_rfl) (by decide) opens_Node, rfl⟩
  | 4, hi => obtain rfl := Option.some.inj hi; exact ⟨_, rfl, opens_sl Tryz.underlying23 (by kernel_rfl) (by decide) opens_Link, rfl⟩
  | 5, hi => obtain rfl := Option.some.inj hi; exact ⟨_, rfl, opens_sl Tryz.underlying24 (by kernel_rfl) (by decide) opens_Turn, rfl⟩
  | n + 6, hi => simp at hi

set_option maxRecDepth 100000 in
set_option maxHeartbeats 1000000 in
theorem toDisk_any (cs : List Value) (d : shDisk.D) (w : World) (hr : Reads shDisk w cs d) (hs : shDisk.sz d ≤ 1048576) :
    Calls Tryz.prog 8 #[.agg cs.toArray] w fun e w' => ∃ cs' F, e = .returned (.agg cs'.toArray) ∧ Own shDisk w' w.heap.size cs' d F ∧ F.Nodup ∧ Below w.heap.size w w' := by
  obtain ⟨a3, n3, c3, a4, n4, c4, a5, n5, c5, rfl, r3, r4, r5⟩ := open_Disk hr
  obtain ⟨x0, e0⟩ : ∃ x : Int, x = d.1 := ⟨_, rfl⟩
  obtain ⟨x1, e1⟩ : ∃ x : Int, x = d.2.1 := ⟨_, rfl⟩
  obtain ⟨x2, e2⟩ : ∃ x : Int, x = d.2.2.1 := ⟨_, rfl⟩

  rw [sz_Disk] at hs
  have q3 : Hid (∀ w', Below w.heap.size w w' → Calls Tryz.prog 36 #[.slice a3 n3 c3] w' fun e w'' => ∃ (g : Nat) (F : List Nat), e = .returned (.slice (some ⟨g, 0, none⟩) n3 n3) ∧ Own (.sl shNode) w'' w'.heap.size [.slice (some ⟨g, 0, none⟩) n3 n3] d.2.2.2.1 F ∧ F.Nodup ∧ Below w'.heap.size w' w'') := fun w' h' => toNodeS_own a3 n3 c3 _ w' (r3.later h') (by omega)
  have q4 : Hid (∀ w', Below w.heap.size w w' → Calls Tryz.prog 37 #[.slice a4 n4 c4] w' fun e w'' => ∃ (g : Nat) (F : List Nat), e = .returned (.slice (some ⟨g, 0, none⟩) n4 n4) ∧ Own (.sl shLink) w'' w'.heap.size [.slice (some ⟨g, 0, none⟩) n4 n4] d.2.2.2.2.1 F ∧ F.Nodup ∧ Below w'.heap.size w' w'') := fun w' h' => toLinkS_own a4 n4 c4 _ w' (r4.later h') (by omega)
  have q5 : Hid (∀ w', Below w.heap.size w w' → Calls Tryz.prog 38 #[.slice a5 n5 c5] w' fun e w'' => ∃ (g : Nat) (F : List Nat), e = .returned (.slice (some ⟨g, 0, none⟩) n5 n5) ∧ Own (.sl shTurn) w'' w'.heap.size [.slice (some ⟨g, 0, none⟩) n5 n5] d.2.2.2.2.2.1 F ∧ F.Nodup ∧ Below w'.heap.size w' w'') := fun w' h' => toTurnS_own a5 n5 c5 _ w' (r5.later h') (by omega)
  rw [← e0, ← e1, ← e2]
  have HE : Hid (x0 = d.1 ∧ x1 = d.2.1 ∧ x2 = d.2.2.1 ∧ True) := ⟨e0, e1, e2, trivial⟩
  obtain ⟨i0, i1, i2, isz⟩ := alloc3_heap w (.cells #[.int .i64 x0, .int .i64 x1, .int .i64 x2, .slice a3 n3 c3, .slice a4 n4 c4, .slice a5 n5 c5] 26) (.cells #[.int .i64 0, .int .i64 0, .int .i64 0, .slice none 0 0, .slice none 0 0, .slice none 0 0] 33) (.cells #[.int .i64 x0, .int .i64 x1, .int .i64 x2, .slice none 0 0, .slice none 0 0, .slice none 0 0] 33)
  obtain ⟨W0, hW0⟩ : ∃ W0, W0 = ((w.alloc (.cells #[.int .i64 x0, .int .i64 x1, .int .i64 x2, .slice a3 n3 c3, .slice a4 n4 c4, .slice a5 n5 c5] 26)).alloc (.cells #[.int .i64 0, .int .i64 0, .int .i64 0, .slice none 0 0, .slice none 0 0, .slice none 0 0] 33)).alloc (.cells #[.int .i64 x0, .int .i64 x1, .int .i64 x2, .slice none 0 0, .slice none 0 0, .slice none 0 0] 33) := ⟨_, rfl⟩
  rw [← hW0] at i0 i1 i2 isz
  have bW0 : Below w.heap.size w W0 := by rw [hW0]; exact (((Below.refl _ _).alloc (Nat.le_refl _) _).alloc (by simp) _).alloc (by simp; omega) _
  have HW0 : Hid (W0 = _) := hW0
  have HI : Hid (_ ∧ _ ∧ _) := ⟨i0, i1, i2⟩
  clear hr hs hW0 i0 i1 i2 r3 r4 r5 e0 e1 e2
  go_enter Tryz.func8, Tryz.ntmps8
  go_wp2_with fail
  rw [← HW0.out]
  refine (q3.out _ bW0).mono ?_
  rintro e w3 ⟨g3, F3, rfl, o3, nd3, hb3⟩
  have b3 := bW0.trans (hb3.mono bW0.size)
  have z3 := hb3.size
  have iA : w3.heap[w.heap.size]? = some (.cells #[.int .i64 x0, .int .i64 x1, .int .i64 x2, .slice a3 n3 c3, .slice a4 n4 c4, .slice a5 n5 c5] 26 (0, 0)) := (hb3.block _ (by omega)).trans HI.out.1
  have iB : w3.heap[w.heap.size + 1]? = some (.cells #[.int .i64 0, .int .i64 0, .int .i64 0, .slice none 0 0, .slice none 0 0, .slice none 0 0] 33 (0, 0)) := (hb3.block _ (by omega)).trans HI.out.2.1
  have iC : w3.heap[w.heap.size + 1 + 1]? = some (.cells #[.int .i64 x0, .int .i64 x1, .int .i64 x2, .slice none 0 0, .slice none 0 0, .slice none 0 0] 33 (0, 0)) := (hb3.block _ (by omega)).trans HI.out.2.2
  have ya3_4 : w3.cell? ⟨w.heap.size, 4, none⟩ = some (.slice a4 n4 c4) := box_cell iA rfl
  have ya3_5 : w3.cell? ⟨w.heap.size, 5, none⟩ = some (.slice a5 n5 c5) := box_cell iA rfl
  have yb3_3 : w3.cell? ⟨w.heap.size + 1 + 1, 3, none⟩ = some (.slice none 0 0) := box_cell iC rfl
  have yf3_3 : w3.frozen? ⟨w.heap.size + 1 + 1, 3, none⟩ = false := box_frozen iC
  obtain ⟨W3, hW3⟩ : ∃ W, W = (w3).setCell ⟨w.heap.size + 1 + 1, 3, none⟩ (.slice (some ⟨g3, 0, none⟩) n3 n3) := ⟨_, rfl⟩
  have bW3 : Below w.heap.size w W3 := by rw [hW3]; exact (b3.setCell (by simp <;> omega) _)
  have zW3 : w3.heap.size = W3.heap.size := by rw [hW3]; simp
  have jA : W3.heap[w.heap.size]? = some (.cells #[.int .i64 x0, .int .i64 x1, .int .i64 x2, .slice a3 n3 c3, .slice a4 n4 c4, .slice a5 n5 c5] 26 (0, 0)) := by rw [hW3]; exact ((box_other _ (by omega))).trans iA
  have jB : W3.heap[w.heap.size + 1]? = some (.cells #[.int .i64 0, .int .i64 0, .int .i64 0, .slice none 0 0, .slice none 0 0, .slice none 0 0] 33 (0, 0)) := by rw [hW3]; exact ((box_other _ (by omega))).trans iB
  have jC : W3.heap[w.heap.size + 1 + 1]? = some (.cells #[.int .i64 x0, .int .i64 x1, .int .i64 x2, .slice (some ⟨g3, 0, none⟩) n3 n3, .slice none 0 0, .slice none 0 0] 33 (0, 0)) := by rw [hW3]; exact box_set _ iC
  rw [isz] at o3
  have oW3_3 : Own (.sl shNode) W3 (w.heap.size + 1 + 1 + 1) [.slice (some ⟨g3, 0, none⟩) n3 n3] d.2.2.2.1 F3 := by rw [hW3]; exact o3.keep fun g hg => ((box_other _ (by have := (o3.lt g hg).1; omega)))
  have OW3_3 : Hid (Own (.sl shNode) W3 (w.heap.size + 1 + 1 + 1) [.slice (some ⟨g3, 0, none⟩) n3 n3] d.2.2.2.1 F3) := oW3_3
  have TOP3 : ∀ x ∈ F3, x < W3.heap.size := fun x hx => (oW3_3.lt x hx).2
  have HJ3 : Hid (_ ∧ _ ∧ _) := ⟨jA, jB, jC⟩
  go_wp2_with fail
  rw [← hW3]
  clear hW3 iA iB iC jA jB jC b3 hb3 o3 oW3_3 ya3_4 ya3_5 yb3_3 yf3_3
  refine (q4.out _ bW3).mono ?_
  rintro e w4 ⟨g4, F4, rfl, o4, nd4, hb4⟩
  have b4 := bW3.trans (hb4.mono bW3.size)
  have z4 := hb4.size
  have iA : w4.heap[w.heap.size]? = some (.cells #[.int .i64 x0, .int .i64 x1, .int .i64 x2, .slice a3 n3 c3, .slice a4 n4 c4, .slice a5 n5 c5] 26 (0, 0)) := (hb4.block _ (by omega)).trans HJ3.out.1
  have iB : w4.heap[w.heap.size + 1]? = some (.cells #[.int .i64 0, .int .i64 0, .int .i64 0, .slice none 0 0, .slice none 0 0, .slice none 0 0] 33 (0, 0)) := (hb4.block _ (by omega)).trans HJ3.out.2.1
  have iC : w4.heap[w.heap.size + 1 + 1]? = some (.cells #[.int .i64 x0, .int .i64 x1, .int .i64 x2, .slice (some ⟨g3, 0, none⟩) n3 n3, .slice none 0 0, .slice none 0 0] 33 (0, 0)) := (hb4.block _ (by omega)).trans HJ3.out.2.2
  have p3_4 := OW3_3.out.later hb4
  have ya4_5 : w4.cell? ⟨w.heap.size, 5, none⟩ = some (.slice a5 n5 c5) := box_cell iA rfl
  have yb4_4 : w4.cell? ⟨w.heap.size + 1 + 1, 4, none⟩ = some (.slice none 0 0) := box_cell iC rfl
  have yf4_4 : w4.frozen? ⟨w.heap.size + 1 + 1, 4, none⟩ = false := box_frozen iC
  obtain ⟨W4, hW4⟩ : ∃ W, W = (w4).setCell ⟨w.heap.size + 1 + 1, 4, none⟩ (.slice (some ⟨g4, 0, none⟩) n4 n4) := ⟨_, rfl⟩
  have bW4 : Below w.heap.size w W4 := by rw [hW4]; exact (b4.setCell (by simp <;> omega) _)
  have zW4 : w4.heap.size = W4.heap.size := by rw [hW4]; simp
  have jA : W4.heap[w.heap.size]? = some (.cells #[.int .i64 x0, .int .i64 x1, .int .i64 x2, .slice a3 n3 c3, .slice a4 n4 c4, .slice a5 n5 c5] 26 (0, 0)) := by rw [hW4]; exact ((box_other _ (by omega))).trans iA
  have jB : W4.heap[w.heap.size + 1]? = some (.cells #[.int .i64 0, .int .i64 0, .int .i64 0, .slice none 0 0, .slice none 0 0, .slice none 0 0] 33 (0, 0)) := by rw [hW4]; exact ((box_other _ (by omega))).trans iB
  have jC : W4.heap[w.heap.size + 1 + 1]? = some (.cells #[.int .i64 x0, .int .i64 x1, .int .i64 x2, .slice (some ⟨g3, 0, none⟩) n3 n3, .slice (some ⟨g4, 0, none⟩) n4 n4, .slice none 0 0] 33 (0, 0)) := by rw [hW4]; exact box_set _ iC
  have oW3_4 : Own (.sl shNode) W4 (w.heap.size + 1 + 1 + 1) [.slice (some ⟨g3, 0, none⟩) n3 n3] d.2.2.2.1 F3 := by rw [hW4]; exact p3_4.keep fun g hg => ((box_other _ (by have := (p3_4.lt g hg).1; omega)))
  have OW3_4 : Hid (Own (.sl shNode) W4 (w.heap.size + 1 + 1 + 1) [.slice (some ⟨g3, 0, none⟩) n3 n3] d.2.2.2.1 F3) := oW3_4
  have oW4_4 : Own (.sl shLink) W4 W3.heap.size [.slice (some ⟨g4, 0, none⟩) n4 n4] d.2.2.2.2.1 F4 := by rw [hW4]; exact o4.keep fun g hg => ((box_other _ (by have := (o4.lt g hg).1; omega)))
  have OW4_4 : Hid (Own (.sl shLink) W4 W3.heap.size [.slice (some ⟨g4, 0, none⟩) n4 n4] d.2.2.2.2.1 F4) := oW4_4
  have TOP4 : ∀ x ∈ F4, x < W4.heap.size := fun x hx => (oW4_4.lt x hx).2
  have HJ4 : Hid (_ ∧ _ ∧ _) := ⟨jA, jB, jC⟩
  go_wp2_with fail
  rw [← hW4]
  clear hW4 iA iB iC jA jB jC b4 hb4 p3_4 o4 oW3_4 oW4_4 ya4_5 yb4_4 yf4_4
  refine (q5.out _ bW4).mono ?_
  rintro e w5 ⟨g5, F5, rfl, o5, nd5, hb5⟩
  have b5 := bW4.trans (hb5.mono bW4.size)
  have z5 := hb5.size
  have iA : w5.heap[w.heap.size]? = some (.cells #[.int .i64 x0, .int .i64 x1, .int .i64 x2, .slice a3 n3 c3, .slice a4 n4 c4, .slice a5 n5 c5] 26 (0, 0)) := (hb5.block _ (by omega)).trans HJ4.out.1
  have iB : w5.heap[w.heap.size + 1]? = some (.cells #[.int .i64 0, .int .i64 0, .int .i64 0, .slice none 0 0, .slice none 0 0, .slice none 0 0] 33 (0, 0)) := (hb5.block _ (by omega)).trans HJ4.out.2.1
  have iC : w5.heap[w.heap.size + 1 + 1]? = some (.cells #[.int .i64 x0, .int .i64 x1, .int .i64 x2, .slice (some ⟨g3, 0, none⟩) n3 n3, .slice (some ⟨g4, 0, none⟩) n4 n4, .slice none 0 0] 33 (0, 0)) := (hb5.block _ (by omega)).trans HJ4.out.2.2
  have p3_5 := OW3_4.out.later hb5
  have p4_5 := OW4_4.out.later hb5
  have yb5_5 : w5.cell? ⟨w.heap.size + 1 + 1, 5, none⟩ = some (.slice none 0 0) := box_cell iC rfl
  have yf5_5 : w5.frozen? ⟨w.heap.size + 1 + 1, 5, none⟩ = false := box_frozen iC
  have yb5_0 : w5.cell? ⟨w.heap.size + 1 + 1, 0, none⟩ = some (.int .i64 x0) := box_cell iC rfl
  have yr5_0 : w5.cell? ⟨w.heap.size + 1, 0, none⟩ = some (.int .i64 0) := box_cell iB rfl
  have yg5_0 : w5.frozen? ⟨w.heap.size + 1, 0, none⟩ = false := box_frozen iB
  have yb5_1 : w5.cell? ⟨w.heap.size + 1 + 1, 1, none⟩ = some (.int .i64 x1) := box_cell iC rfl
  have yr5_1 : w5.cell? ⟨w.heap.size + 1, 1, none⟩ = some (.int .i64 0) := box_cell iB rfl
  have yg5_1 : w5.frozen? ⟨w.heap.size + 1, 1, none⟩ = false := box_frozen iB
  have yb5_2 : w5.cell? ⟨w.heap.size + 1 + 1, 2, none⟩ = some (.int .i64 x2) := box_cell iC rfl
  have yr5_2 : w5.cell? ⟨w.heap.size + 1, 2, none⟩ = some (.int .i64 0) := box_cell iB rfl
  have yg5_2 : w5.frozen? ⟨w.heap.size + 1, 2, none⟩ = false := box_frozen iB
  have yb5_3 : w5.cell? ⟨w.heap.size + 1 + 1, 3, none⟩ = some (.slice (some ⟨g3, 0, none⟩) n3 n3) := box_cell iC rfl
  have yr5_3 : w5.cell? ⟨w.heap.size + 1, 3, none⟩ = some (.slice none 0 0) := box_cell iB rfl
  have yg5_3 : w5.frozen? ⟨w.heap.size + 1, 3, none⟩ = false := box_frozen iB
  have yb5_4 : w5.cell? ⟨w.heap.size + 1 + 1, 4, none⟩ = some (.slice (some ⟨g4, 0, none⟩) n4 n4) := box_cell iC rfl
  have yr5_4 : w5.cell? ⟨w.heap.size + 1, 4, none⟩ = some (.slice none 0 0) := box_cell iB rfl
  have yg5_4 : w5.frozen? ⟨w.heap.size + 1, 4, none⟩ = false := box_frozen iB
  have yr5_5 : w5.cell? ⟨w.heap.size + 1, 5, none⟩ = some (.slice none 0 0) := box_cell iB rfl
  have yg5_5 : w5.frozen? ⟨w.heap.size + 1, 5, none⟩ = false := box_frozen iB
  have L3 := p3_5.lt
  have L4 := p4_5.lt
  have L5 := o5.lt
  have ND : (F3 ++ (F4 ++ (F5 ++ ([])))).Nodup := by
    simp only [List.append_nil, List.nodup_append]
    refine ⟨nd3, ⟨nd4, nd5, fun x hx y hy e => ?n4⟩, fun x hx y hy e => ?n3⟩
    case n3 =>
      subst e
      have h1 := TOP3 x hx
      rcases List.mem_append.1 hy with hy | hy
      · have h2 := L4 x hy; omega
      · have h2 := L5 x hy; omega
    case n4 =>
      subst e
      have h1 := TOP4 x hx; have h2 := L5 x hy; omega
  have HO : Hid ((∀ w', (∀ g, w.heap.size + 1 + 1 < g → w'.heap[g]? = w5.heap[g]?) → Own shDisk w' w.heap.size [.int .i64 x0, .int .i64 x1, .int .i64 x2, .slice (some ⟨g3, 0, none⟩) n3 n3, .slice (some ⟨g4, 0, none⟩) n4 n4, .slice (some ⟨g5, 0, none⟩) n5 n5] d (F3 ++ (F4 ++ (F5 ++ ([]))))) ∧ True) := ⟨fun w' hw' => by
    have := own_Disk (w := w') (B := w.heap.size) (d := d) ((p3_5.keep fun g hg => hw' g (by have := (L3 g hg).1; omega)).base (by omega)) ((p4_5.keep fun g hg => hw' g (by have := (L4 g hg).1; omega)).base (by omega)) ((o5.keep fun g hg => hw' g (by have := (L5 g hg).1; omega)).base (by omega))
    simpa only [← HE.out.1, ← HE.out.2.1, ← HE.out.2.2.1] using this, trivial⟩
  have HB : Hid (Below w.heap.size w w5) := b5
  have HN : Hid ((F3 ++ (F4 ++ (F5 ++ ([])))).Nodup) := ND
  clear iA iB iC ND b5 L3 L4 L5 p3_5 p4_5 o5
  have yz0 : (((w5).setCell ⟨w.heap.size + 1 + 1, 5, none⟩ (.slice (some ⟨g5, 0, none⟩) n5 n5)).setCell ⟨w.heap.size + 1, 0, none⟩ (.int .i64 x0)).cell? ⟨w.heap.size + 1, 0, none⟩ = some (.int .i64 x0) := World.cell?_setCell_same _ _ _ (by rw [World.cell?_setCell_other _ _ _ _ (by simp)]; exact yr5_0)
  have yz1 : ((((w5).setCell ⟨w.heap.size + 1 + 1, 5, none⟩ (.slice (some ⟨g5, 0, none⟩) n5 n5)).setCell ⟨w.heap.size + 1, 0, none⟩ (.int .i64 x0)).setCell ⟨w.heap.size + 1, 1, none⟩ (.int .i64 x1)).cell? ⟨w.heap.size + 1, 1, none⟩ = some (.int .i64 x1) := World.cell?_setCell_same _ _ _ (by rw [World.cell?_setCell_other _ _ _ _ (by simp), World.cell?_setCell_other _ _ _ _ (by simp)]; exact yr5_1)
  have yz2 : (((((w5).setCell ⟨w.heap.size + 1 + 1, 5, none⟩ (.slice (some ⟨g5, 0, none⟩) n5 n5)).setCell ⟨w.heap.size + 1, 0, none⟩ (.int .i64 x0)).setCell ⟨w.heap.size + 1, 1, none⟩ (.int .i64 x1)).setCell ⟨w.heap.size + 1, 2, none⟩ (.int .i64 x2)).cell? ⟨w.heap.size + 1, 2, none⟩ = some (.int .i64 x2) := World.cell?_setCell_same _ _ _ (by rw [World.cell?_setCell_other _ _ _ _ (by simp), World.cell?_setCell_other _ _ _ _ (by simp), World.cell?_setCell_other _ _ _ _ (by simp)]; exact yr5_2)
  have yz3 : ((((((w5).setCell ⟨w.heap.size + 1 + 1, 5, none⟩ (.slice (some ⟨g5, 0, none⟩) n5 n5)).setCell ⟨w.heap.size + 1, 0, none⟩ (.int .i64 x0)).setCell ⟨w.heap.size + 1, 1, none⟩ (.int .i64 x1)).setCell ⟨w.heap.size + 1, 2, none⟩ (.int .i64 x2)).setCell ⟨w.heap.size + 1, 3, none⟩ (.slice (some ⟨g3, 0, none⟩) n3 n3)).cell? ⟨w.heap.size + 1, 3, none⟩ = some (.slice (some ⟨g3, 0, none⟩) n3 n3) := World.cell?_setCell_same _ _ _ (by rw [World.cell?_setCell_other _ _ _ _ (by simp), World.cell?_setCell_other _ _ _ _ (by simp), World.cell?_setCell_other _ _ _ _ (by simp), World.cell?_setCell_other _ _ _ _ (by simp)]; exact yr5_3)
  have yz4 : (((((((w5).setCell ⟨w.heap.size + 1 + 1, 5, none⟩ (.slice (some ⟨g5, 0, none⟩) n5 n5)).setCell ⟨w.heap.size + 1, 0, none⟩ (.int .i64 x0)).setCell ⟨w.heap.size + 1, 1, none⟩ (.int .i64 x1)).setCell ⟨w.heap.size + 1, 2, none⟩ (.int .i64 x2)).setCell ⟨w.heap.size + 1, 3, none⟩ (.slice (some ⟨g3, 0, none⟩) n3 n3)).setCell ⟨w.heap.size + 1, 4, none⟩ (.slice (some ⟨g4, 0, none⟩) n4 n4)).cell? ⟨w.heap.size + 1, 4, none⟩ = some (.slice (some ⟨g4, 0, none⟩) n4 n4) := World.cell?_setCell_same _ _ _ (by rw [World.cell?_setCell_other _ _ _ _ (by simp), World.cell?_setCell_other _ _ _ _ (by simp), World.cell?_setCell_other _ _ _ _ (by simp), World.cell?_setCell_other _ _ _ _ (by simp), World.cell?_setCell_other _ _ _ _ (by simp)]; exact yr5_4)
  have yz5 : ((((((((w5).setCell ⟨w.heap.size + 1 + 1, 5, none⟩ (.slice (some ⟨g5, 0, none⟩) n5 n5)).setCell ⟨w.heap.size + 1, 0, none⟩ (.int .i64 x0)).setCell ⟨w.heap.size + 1, 1, none⟩ (.int .i64 x1)).setCell ⟨w.heap.size + 1, 2, none⟩ (.int .i64 x2)).setCell ⟨w.heap.size + 1, 3, none⟩ (.slice (some ⟨g3, 0, none⟩) n3 n3)).setCell ⟨w.heap.size + 1, 4, none⟩ (.slice (some ⟨g4, 0, none⟩) n4 n4)).setCell ⟨w.heap.size + 1, 5, none⟩ (.slice (some ⟨g5, 0, none⟩) n5 n5)).cell? ⟨w.heap.size + 1, 5, none⟩ = some (.slice (some ⟨g5, 0, none⟩) n5 n5) := World.cell?_setCell_same _ _ _ (by rw [World.cell?_setCell_other _ _ _ _ (by simp), World.cell?_setCell_other _ _ _ _ (by simp), World.cell?_setCell_other _ _ _ _ (by simp), World.cell?_setCell_other _ _ _ _ (by simp), World.cell?_setCell_other _ _ _ _ (by simp), World.cell?_setCell_other _ _ _ _ (by simp)]; exact yr5_5)
  go_wp2
  (try simp only [Exit.inBlock, Exit.then])
  refine bodyPost_ret (by simp [results, Tryz.results8, go_sem, yz0, yz1, yz2, yz3, yz4, yz5]; try rfl) rfl ?_
  refine ⟨_, _, rfl, HO.out.1 _ (fun g hg => ((box_other _ (by omega)).trans ((box_other _ (by omega)).trans ((box_other _ (by omega)).trans ((box_other _ (by omega)).trans ((box_other _ (by omega)).trans ((box_other _ (by omega)).trans (box_other _ (by omega))))))))), HN.out, ?_⟩
  exact (((((((HB.out.setCell (by simp <;> omega) _).setCell (by simp <;> omega) _).setCell (by simp <;> omega) _).setCell (by simp <;> omega) _).setCell (by simp <;> omega) _).setCell (by simp <;> omega) _).setCell (by simp <;> omega) _)

set_option maxRecDepth 100000 in
set_option maxHeartbeats 1000000 in
theorem eqDisk_any (cs1 cs2 : List Value) (d : shDisk.D) (w : World) (hr : Reads shDisk w cs1 d) (hq : Reads shDisk w cs2 d) (hs : shDisk.sz d ≤ 1048576) :
    Calls Tryz.prog 11 #[.agg cs1.toArray, .agg cs2.toArray] w fun e w' => e = .returned (.bool true) ∧ Below w.heap.size w w' := by
  obtain ⟨a3, n3, c3, a4, n4, c4, a5, n5, c5, rfl, r3, r4, r5⟩ := open_Disk hr
  obtain ⟨p3, m3, k3, p4, m4, k4, p5, m5, k5, rfl, t3, t4, t5⟩ := open_Disk hq
  obtain ⟨x0, e0⟩ : ∃ x : Int, x = d.1 := ⟨_, rfl⟩
  obtain ⟨x1, e1⟩ : ∃ x : Int, x = d.2.1 := ⟨_, rfl⟩
  obtain ⟨x2, e2⟩ : ∃ x : Int, x = d.2.2.1 := ⟨_, rfl⟩

  rw [sz_Disk] at hs
  obtain rfl : n3 = m3 := (reads_len r3).1.symm.trans (reads_len t3).1
  have q3 : Hid (∀ w', Below w.heap.size w w' → Calls Tryz.prog 45 #[.slice a3 n3 c3, .slice p3 n3 k3] w' fun e w'' => e = .returned (.bool true) ∧ Below w'.heap.size w' w'') := fun w' h' => eqNodeS_reads a3 p3 n3 c3 k3 _ w' (r3.later h') (t3.later h') (by omega)
  obtain rfl : n4 = m4 := (reads_len r4).1.symm.trans (reads_len t4).1
  have q4 : Hid (∀ w', Below w.heap.size w w' → Calls Tryz.prog 46 #[.slice a4 n4 c4, .slice p4 n4 k4] w' fun e w'' => e = .returned (.bool true) ∧ Below w'.heap.size w' w'') := fun w' h' => eqLinkS_reads a4 p4 n4 c4 k4 _ w' (r4.later h') (t4.later h') (by omega)
  obtain rfl : n5 = m5 := (reads_len r5).1.symm.trans (reads_len t5).1
  have q5 : Hid (∀ w', Below w.heap.size w w' → Calls Tryz.prog 47 #[.slice a5 n5 c5, .slice p5 n5 k5] w' fun e w'' => e = .returned (.bool true) ∧ Below w'.heap.size w' w'') := fun w' h' => eqTurnS_reads a5 p5 n5 c5 k5 _ w' (r5.later h') (t5.later h') (by omega)
  rw [← e0, ← e1, ← e2]
  have ne0 : (x0 != x0) = false := by simp
  have ne1 : (x1 != x1) = false := by simp
  have ne2 : (x2 != x2) = false := by simp
  clear hr hq hs r3 r4 r5 t3 t4 t5 e0 e1 e2
  obtain ⟨W0, hW0⟩ : ∃ W0, W0 = (w.alloc (.cells #[.int .i64 x0, .int .i64 x1, .int .i64 x2, .slice a3 n3 c3, .slice a4 n4 c4, .slice a5 n5 c5] 33)).alloc (.cells #[.int .i64 x0, .int .i64 x1, .int .i64 x2, .slice p3 n3 k3, .slice p4 n4 k4, .slice p5 n5 k5] 33) := ⟨_, rfl⟩
  have bW0 : Below w.heap.size w W0 := by rw [hW0]; exact ((Below.refl _ _).alloc (Nat.le_refl _) _).alloc (by simp) _
  have hA : W0.heap[w.heap.size]? = some (.cells #[.int .i64 x0, .int .i64 x1, .int .i64 x2, .slice a3 n3 c3, .slice a4 n4 c4, .slice a5 n5 c5] 33 (0, 0)) := by rw [hW0, heap_alloc_old _ _ (by simp)]; exact heap_alloc_new w _
  have hB : W0.heap[w.heap.size + 1]? = some (.cells #[.int .i64 x0, .int .i64 x1, .int .i64 x2, .slice p3 n3 k3, .slice p4 n4 k4, .slice p5 n5 k5] 33 (0, 0)) := by rw [hW0]; exact (by have := heap_alloc_new (w.alloc (.cells #[.int .i64 x0, .int .i64 x1, .int .i64 x2, .slice a3 n3 c3, .slice a4 n4 c4, .slice a5 n5 c5] 33)) (.cells #[.int .i64 x0, .int .i64 x1, .int .i64 x2, .slice p3 n3 k3, .slice p4 n4 k4, .slice p5 n5 k5] 33); simpa using this)
  have zW0 : W0.heap.size = w.heap.size + 1 + 1 := by rw [hW0]; simp
  have HW0 : Hid (W0 = _) := hW0
  have HAB : Hid (W0.heap[w.heap.size]? = some (.cells #[.int .i64 x0, .int .i64 x1, .int .i64 x2, .slice a3 n3 c3, .slice a4 n4 c4, .slice a5 n5 c5] 33 (0, 0)) ∧ W0.heap[w.heap.size + 1]? = some (.cells #[.int .i64 x0, .int .i64 x1, .int .i64 x2, .slice p3 n3 k3, .slice p4 n4 k4, .slice p5 n5 k5] 33 (0, 0))) := ⟨hA, hB⟩
  clear hW0 hA hB
  go_enter Tryz.func11, Tryz.ntmps11
  go_wp2_with fail
  rw [← HW0.out]
  refine (q3.out _ bW0).mono ?_
  rintro e w3 ⟨rfl, hb3⟩
  have b3 := bW0.trans (hb3.mono bW0.size)
  have z3 := hb3.size
  have iA : w3.heap[w.heap.size]? = some (.cells #[.int .i64 x0, .int .i64 x1, .int .i64 x2, .slice a3 n3 c3, .slice a4 n4 c4, .slice a5 n5 c5] 33 (0, 0)) := (hb3.block _ (by omega)).trans HAB.out.1
  have iB : w3.heap[w.heap.size + 1]? = some (.cells #[.int .i64 x0, .int .i64 x1, .int .i64 x2, .slice p3 n3 k3, .slice p4 n4 k4, .slice p5 n5 k5] 33 (0, 0)) := (hb3.block _ (by omega)).trans HAB.out.2
  have ya3_4 : w3.cell? ⟨w.heap.size, 4, none⟩ = some (.slice a4 n4 c4) := box_cell iA rfl
  have yb3_4 : w3.cell? ⟨w.heap.size + 1, 4, none⟩ = some (.slice p4 n4 k4) := box_cell iB rfl
  have ya3_5 : w3.cell? ⟨w.heap.size, 5, none⟩ = some (.slice a5 n5 c5) := box_cell iA rfl
  have yb3_5 : w3.cell? ⟨w.heap.size + 1, 5, none⟩ = some (.slice p5 n5 k5) := box_cell iB rfl
  have I3 : Hid (w3.heap[w.heap.size]? = some (.cells #[.int .i64 x0, .int .i64 x1, .int .i64 x2, .slice a3 n3 c3, .slice a4 n4 c4, .slice a5 n5 c5] 33 (0, 0)) ∧ w3.heap[w.heap.size + 1]? = some (.cells #[.int .i64 x0, .int .i64 x1, .int .i64 x2, .slice p3 n3 k3, .slice p4 n4 k4, .slice p5 n5 k5] 33 (0, 0))) := ⟨iA, iB⟩
  clear iA iB hb3
  go_wp2_with fail
  refine (q4.out _ b3).mono ?_
  rintro e w4 ⟨rfl, hb4⟩
  have b4 := b3.trans (hb4.mono b3.size)
  have z4 := hb4.size
  have iA : w4.heap[w.heap.size]? = some (.cells #[.int .i64 x0, .int .i64 x1, .int .i64 x2, .slice a3 n3 c3, .slice a4 n4 c4, .slice a5 n5 c5] 33 (0, 0)) := (hb4.block _ (by omega)).trans I3.out.1
  have iB : w4.heap[w.heap.size + 1]? = some (.cells #[.int .i64 x0, .int .i64 x1, .int .i64 x2, .slice p3 n3 k3, .slice p4 n4 k4, .slice p5 n5 k5] 33 (0, 0)) := (hb4.block _ (by omega)).trans I3.out.2
  have ya4_5 : w4.cell? ⟨w.heap.size, 5, none⟩ = some (.slice a5 n5 c5) := box_cell iA rfl
  have yb4_5 : w4.cell? ⟨w.heap.size + 1, 5, none⟩ = some (.slice p5 n5 k5) := box_cell iB rfl
  have I4 : Hid (w4.heap[w.heap.size]? = some (.cells #[.int .i64 x0, .int .i64 x1, .int .i64 x2, .slice a3 n3 c3, .slice a4 n4 c4, .slice a5 n5 c5] 33 (0, 0)) ∧ w4.heap[w.heap.size + 1]? = some (.cells #[.int .i64 x0, .int .i64 x1, .int .i64 x2, .slice p3 n3 k3, .slice p4 n4 k4, .slice p5 n5 k5] 33 (0, 0))) := ⟨iA, iB⟩
  clear iA iB hb4
  go_wp2_with fail
  refine (q5.out _ b4).mono ?_
  rintro e w5 ⟨rfl, hb5⟩
  have b5 := b4.trans (hb5.mono b4.size)
  have z5 := hb5.size
  have iA : w5.heap[w.heap.size]? = some (.cells #[.int .i64 x0, .int .i64 x1, .int .i64 x2, .slice a3 n3 c3, .slice a4 n4 c4, .slice a5 n5 c5] 33 (0, 0)) := (hb5.block _ (by omega)).trans I4.out.1
  have iB : w5.heap[w.heap.size + 1]? = some (.cells #[.int .i64 x0, .int .i64 x1, .int .i64 x2, .slice p3 n3 k3, .slice p4 n4 k4, .slice p5 n5 k5] 33 (0, 0)) := (hb5.block _ (by omega)).trans I4.out.2
  have I5 : Hid (w5.heap[w.heap.size]? = some (.cells #[.int .i64 x0, .int .i64 x1, .int .i64 x2, .slice a3 n3 c3, .slice a4 n4 c4, .slice a5 n5 c5] 33 (0, 0)) ∧ w5.heap[w.heap.size + 1]? = some (.cells #[.int .i64 x0, .int .i64 x1, .int .i64 x2, .slice p3 n3 k3, .slice p4 n4 k4, .slice p5 n5 k5] 33 (0, 0))) := ⟨iA, iB⟩
  clear iA iB hb5
  go_wp2
  go_ret
  exact ⟨rfl, b5⟩

end Go.Proofs.YtkaegbhmeonjfaaGreat

/- AppS: append where the source is nil or not, empty or not: one law for all, at a plain list of operations and at a step of a region that draws its order; append of a string. -/
namespace Go.Proofs.YtkaegbhmeonjfaaGreat
open Go.RowKit
set_option linter.unusedVariables false
set_option maxRecDepth 100000

/-- What is appended: m elements, their cells 'news'. -/
def Src (w : World) (x : Value) (m : Nat) (news : List Value) : Prop :=
  (x = .slice none 0 0 ∧ m = 0 ∧ news = []) ∨ ∃ ad c, x = .slice (some ad) m c ∧ ∀ (j : Nat) (u : Value), news[j]? = some u → w.cell? (ad.add j) = some u

theorem wp_append_src {P : Program} {w : World} {o : Oper} {a : Act} {K : Act → World → Prop} {Q : Exit → Act → World → Prop} (s x : Operand) (t : TypeId)
    (ho : o.op = .call { callee := .builtin .append, args := #[s, x], argTypes := #[t, t] })
    (base : Nat) (e : TypeId) (i : TypeInfo) (z : Value) (size bytes : Nat) (ht : P.underlying t = some (.slice e)) (hi : P.info? e = some i) (hz : i.zero = some z)
    (hsize : i.size = size) (hby : i.bytes = bytes) (hzs : z.cells.size = size) (hsz : 0 < size)
    (v : Value) (n : Nat) (xs : List Value) (hs : a.eval s = v) (hown : w.ownsRow base e size v n xs)
    (xv : Value) (m : Nat) (news : List Value) (hx : a.eval x = xv) (hl : news.length = m * size) (hsrc : Src w xv m news) (h1 : ∀ u ∈ news, u.oneCell' = true)
    (h63 : n + m ≤ maxLen) (hbytes : (n + m) * bytes ≤ 140737488355328) (hbase : base ≤ w.heap.size)
    (h : ∀ v' w', w'.ownsRow base e size v' (n + m) (xs ++ news) → w.grownBy w' v.ownBlock → K (a.put o.dst v') w') : o.wp P a w K Q := by
  rcases hsrc with ⟨h2, rfl, rfl⟩ | ⟨ad, c, h2, h3⟩
  · have hrun := run_append_owned_none (P := P) (w := w) base t o.type e i size ht hi v n xs hown
    unfold Oper.wp execOp
    simp only [ho, resolve, invoke, builtin, Sem.run_bind, Sem.run_pure, Result.andThen_ok, List.map_toArray, List.map_cons, List.map_nil, hs, hx, h2, hrun]
    exact h v w (by simpa using hown) (World.grownBy.refl _ _)
  · exact wp_append_own w s x t ho base e i z size bytes ht hi hz hsize hby hzs hsz v n xs hs hown ad m c news (hx.trans h2) hl h3 h1 h63 hbytes hbase fun v' w' k1 k2 _ => h v' w' k1 k2

theorem wpList_append_src {P : Program} {w : World} {ops : Array Oper} {rest : List Oper} {o : Oper} {a : Act} {Q : Exit → Act → World → Prop} (hgd : o.guard = none) (s x : Operand) (t : TypeId)
    (ho : o.op = .call { callee := .builtin .append, args := #[s, x], argTypes := #[t, t] })
    (base : Nat) (e : TypeId) (i : TypeInfo) (z : Value) (size bytes : Nat) (ht : P.underlying t = some (.slice e)) (hi : P.info? e = some i) (hz : i.zero = some z)
    (hsize : i.size = size) (hby : i.bytes = bytes) (hzs : z.cells.size = size) (hsz : 0 < size)
    (v : Value) (n : Nat) (xs : List Value) (hs : a.eval s = v) (hown : w.ownsRow base e size v n xs)
    (xv : Value) (m : Nat) (news : List Value) (hx : a.eval x = xv) (hl : news.length = m * size) (hsrc : Src w xv m news) (h1 : ∀ u ∈ news, u.oneCell' = true)
    (h63 : n + m ≤ maxLen) (hbytes : (n + m) * bytes ≤ 140737488355328) (hbase : base ≤ w.heap.size)
    (h : ∀ v' w', w'.ownsRow base e size v' (n + m) (xs ++ news) → w.grownBy w' v.ownBlock → wpList P ops Q rest (a.put o.dst v') w') : wpList P ops Q (o :: rest) a w :=
  wpList_plain hgd fun _ hK => wp_append_src s x t ho base e i z size bytes ht hi hz hsize hby hzs hsz v n xs hs hown xv m news hx hl hsrc h1 h63 hbytes hbase fun v' w' h2 h3 => hK _ _ (h v' w' h2 h3)

theorem step_append_src {P : Program} {w : World} {ops : Array Oper} {o : Oper} {a : Act} {K : Act → World → Prop} {Q : Exit → Act → World → Prop} {E : Prop} (hgd : o.guard = none) (s x : Operand) (t : TypeId)
    (ho : o.op = .call { callee := .builtin .append, args := #[s, x], argTypes := #[t, t] })
    (base : Nat) (e : TypeId) (i : TypeInfo) (z : Value) (size bytes : Nat) (ht : P.underlying t = some (.slice e)) (hi : P.info? e = some i) (hz : i.zero = some z)
    (hsize : i.size = size) (hby : i.bytes = bytes) (hzs : z.cells.size = size) (hsz : 0 < size)
    (v : Value) (n : Nat) (xs : List Value) (hs : a.eval s = v) (hown : w.ownsRow base e size v n xs)
    (xv : Value) (m : Nat) (news : List Value) (hx : a.eval x = xv) (hl : news.length = m * size) (hsrc : Src w xv m news) (h1 : ∀ u ∈ news, u.oneCell' = true)
    (h63 : n + m ≤ maxLen) (hbytes : (n + m) * bytes ≤ 140737488355328) (hbase : base ≤ w.heap.size)
    (h : ∀ v' w', w'.ownsRow base e size v' (n + m) (xs ++ news) → w.grownBy w' v.ownBlock → K (a.put o.dst v') w') :
    if Region.wanted o (yielded ops a.tmps) = true then Oper.wp P o a w K Q else E := by
  have hw : Region.wanted o (yielded ops a.tmps) = true := by simp [Region.wanted, hgd]
  rw [if_pos hw]
  exact wp_append_src s x t ho base e i z size bytes ht hi hz hsize hby hzs hsz v n xs hs hown xv m news hx hl hsrc h1 h63 hbytes hbase h

/-- A string appended to an owned row of bytes, as a step of a region that draws its order. -/
theorem step_append_str {P : Program} {w : World} {ops : Array Oper} {o : Oper} {a : Act} {K : Act → World → Prop} {Q : Exit → Act → World → Prop} {E : Prop} (hgd : o.guard = none) (sl x : Operand) (t u : TypeId)
    (ho : o.op = .call { callee := .builtin .append, args := #[sl, x], argTypes := #[t, u] })
    (base : Nat) (e : TypeId) (i : TypeInfo) (ht : P.underlying t = some (.slice e)) (hu : P.underlying u = some .string) (hi : P.info? e = some i) (hz : i.zero = some (.int .u8 0))
    (hsize : i.size = 1) (hby : i.bytes = 1)
    (v : Value) (n : Nat) (xs : List Value) (hs : a.eval sl = v) (hown : w.ownsRow base e 1 v n xs) (s : ByteArray) (hx : a.eval x = .string s)
    (h63 : n + s.size ≤ maxLen) (hbytes : n + s.size ≤ 140737488355328) (hbase : base ≤ w.heap.size)
    (h : ∀ v' w', w'.ownsRow base e 1 v' (n + s.size) (xs ++ Lib.strCells s) → w.grownBy w' v.ownBlock → K (a.put o.dst v') w') :
    if Region.wanted o (yielded ops a.tmps) = true then Oper.wp P o a w K Q else E := by
  have hw : Region.wanted o (yielded ops a.tmps) = true := by simp [Region.wanted, hgd]
  rw [if_pos hw]
  obtain ⟨v', w', hr, h2, h3, h4⟩ := Lib.run_append_own_string (P := P) w base t u o.type e i ht hu hi hz hsize hby v n xs hown s h63 hbytes hbase
  unfold Oper.wp execOp
  simp only [ho, resolve, invoke, builtin, Sem.run_bind, Sem.run_pure, Result.andThen_ok, List.map_toArray, List.map_cons, List.map_nil, hs, hx, hr]
  exact h v' w' h2 h3

theorem src_own {w : World} {B n : Nat} {e : TypeId} {v : Value} {xs : List Value} (h : w.ownsRow B e 1 v n xs) : Src w v n xs := by
  rcases h.2 with ⟨h1, h2⟩ | ⟨g, cap, cur, hv, _⟩
  · refine .inl ⟨h1, h2, ?_⟩
    have := h.1
    rw [h2] at this
    exact List.eq_nil_of_length_eq_zero (by simpa using this)
  · subst hv
    exact .inr ⟨_, _, rfl, h.cells (g := g) rfl⟩

theorem src_later {w w' : World} {x : Value} {m : Nat} {news : List Value} (h : Src w x m news) (hb : Below w.heap.size w w') : Src w' x m news := by
  rcases h with h | ⟨ad, c, h1, h2⟩
  · exact .inl h
  · refine .inr ⟨ad, c, h1, fun j u hu => ?_⟩
    have h3 := h2 j u hu
    exact (hb.cell (World.block_lt_of_cell? w _ h3)).trans h3

/-- An owned row, said of an earlier size. -/
theorem own_lower {w : World} {B B' n : Nat} {e : TypeId} {size : Nat} {v : Value} {xs : List Value} (h : w.ownsRow B e size v n xs) (hb : B' ≤ B) : w.ownsRow B' e size v n xs := by
  refine ⟨h.1, ?_⟩
  rcases h.2 with h1 | ⟨g, cap, cur, hv, hg, r⟩
  · exact .inl h1
  · exact .inr ⟨g, cap, cur, hv, Nat.le_trans hb hg, r⟩
theorem own_base0 {w : World} {B n : Nat} {e : TypeId} {size : Nat} {v : Value} {xs : List Value} (h : w.ownsRow B e size v n xs) : w.ownsRow 0 e size v n xs := own_lower h (Nat.zero_le _)

theorem src_nil (w : World) : Src w (.slice none 0 0) 0 [] := .inl ⟨rfl, rfl, rfl⟩

end Go.Proofs.YtkaegbhmeonjfaaGreat
