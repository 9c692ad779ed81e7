/-
  l03Ids of the model.
-/
import Derived.Test.YtkjnbjohicgooaaGreatTurnS
import Derived.Test.YtkjnbjohicgooaaGreatTyDisk
namespace Go.Proofs.YtkjnbjohicgooaaGreat
open Go.RowKit
set_option linter.unusedVariables false

theorem infoI : (Tryz.prog.info? 3).map (fun i => (i.zero, i.size, i.bytes)) = some (some (.int .i64 0), 1, 8) := by kernel_rfl

def keptIds (l : List LinkD) : List Int := l.map fun x => x.2.1
def madeIds (l : List TurnD) : List Int := (l.filter fun t => decide (t.1 = 1)).map fun t => t.2.2.2.1
theorem idsL_eq (l : List LinkD) (t : List TurnD) : idsL l t = keptIds l ++ madeIds t := rfl
theorem keptIds_take (l : List LinkD) (k : Nat) (hk : k < l.length) (x : LinkD) (hx : l[k] = x) : keptIds (l.take (k + 1)) = keptIds (l.take k) ++ [x.2.1] := by
  unfold keptIds; rw [List.take_succ_eq_append_getElem hk, hx]; simp
theorem madeIds_take (l : List TurnD) (k : Nat) (hk : k < l.length) (x : TurnD) (hx : l[k] = x) : madeIds (l.take (k + 1)) = if x.1 = 1 then madeIds (l.take k) ++ [x.2.2.2.1] else madeIds (l.take k) := by
  unfold madeIds; rw [List.take_succ_eq_append_getElem hk, hx, List.filter_append]
  by_cases h : x.1 = 1 <;> simp [h]
theorem ints_snoc (l : List Int) (x : Int) : l.map (Value.int .i64) ++ [Value.int .i64 x] = (l ++ [x]).map (Value.int .i64) := by simp

set_option maxRecDepth 100000 in
set_option maxHeartbeats 2000000 in
theorem specIds_ok (cs : List Value) (d : shDisk.D) (w : World) (hr : Reads shDisk w cs d) (hs : shDisk.sz d ≤ 1048576) :
    Calls Tryz.prog 63 #[.agg cs.toArray] w fun e w' => ∃ g c, e = .returned (.slice (some ⟨g, 0, none⟩) (idsL d.2.2.2.2.1 d.2.2.2.2.2.1).length c) ∧
      Own (.sl .int) w' w.heap.size [.slice (some ⟨g, 0, none⟩) (idsL d.2.2.2.2.1 d.2.2.2.2.2.1).length c] (idsL d.2.2.2.2.1 d.2.2.2.2.2.1) [g] ∧ Below w.heap.size w w' := by
  obtain ⟨i0, hi, hz0, hz1, hz2⟩ := info_parts infoI
  obtain ⟨a3, n3, c3, a4, n4, c4, a5, n5, c5, rfl, r3, r4, r5⟩ := open_Disk hr
  obtain ⟨x0, e0⟩ : ∃ x : Int, x = d.1 := ⟨_, rfl⟩
  obtain ⟨x1, e1⟩ : ∃ x : Int, x = d.2.1 := ⟨_, rfl⟩
  obtain ⟨x2, e2⟩ : ∃ x : Int, x = d.2.2.1 := ⟨_, rfl⟩
  rw [sz_Disk] at hs
  obtain ⟨kp, hkp⟩ : ∃ l : List LinkD, l = d.2.2.2.2.1 := ⟨_, rfl⟩
  obtain ⟨tn, htn⟩ : ∃ l : List TurnD, l = d.2.2.2.2.2.1 := ⟨_, rfl⟩
  have l4 : kp.length = n4 := by rw [hkp]; exact (reads_len r4).1
  have l5 : tn.length = n5 := by rw [htn]; exact (reads_len r5).1
  have s4 : n4 ≤ Sh.sz (.sl shLink) d.2.2.2.2.1 := by rw [← l4, hkp]; exact Nat.le_add_right _ _
  have s5 : n5 ≤ Sh.sz (.sl shTurn) d.2.2.2.2.2.1 := by rw [← l5, htn]; exact Nat.le_add_right _ _
  have hn45 : n4 + n5 ≤ 1048576 := by omega
  rw [← hkp] at r4 ⊢
  rw [← htn] at r5 ⊢
  rw [← e0, ← e1, ← e2]
  have HR : Hid (Reads (.sl shLink) w [.slice a4 n4 c4] kp ∧ Reads (.sl shTurn) w [.slice a5 n5 c5] tn) := ⟨r4, r5⟩
  have HL : Hid (kp.length = n4 ∧ tn.length = n5) := ⟨l4, l5⟩
  obtain ⟨W0, hW0⟩ : ∃ W0, W0 = w.alloc (.cells #[.int .i64 x0, .int .i64 x1, .int .i64 x2, .slice a3 n3 c3, .slice a4 n4 c4, .slice a5 n5 c5] 33) := ⟨_, rfl⟩
  have bW0 : Below w.heap.size w W0 := by rw [hW0]; exact (Below.refl _ _).alloc (Nat.le_refl _) _
  have hbox : W0.heap[w.heap.size]? = some (.cells #[.int .i64 x0, .int .i64 x1, .int .i64 x2, .slice a3 n3 c3, .slice a4 n4 c4, .slice a5 n5 c5] 33 (0, 0)) := by rw [hW0]; exact heap_alloc_new w _
  have zW0 : W0.heap.size = w.heap.size + 1 := by rw [hW0]; simp
  have ZW0 : Hid (W0.heap.size = w.heap.size + 1) := zW0
  have HW0 : Hid (W0 = w.alloc (.cells #[.int .i64 x0, .int .i64 x1, .int .i64 x2, .slice a3 n3 c3, .slice a4 n4 c4, .slice a5 n5 c5] 33)) := hW0
  have BX : Hid (∀ w', Below W0.heap.size W0 w' → w'.cell? ⟨w.heap.size, 5, none⟩ = some (.slice a5 n5 c5)) := fun w' h' => box_cell ((h'.block _ (by omega)).trans hbox) rfl
  have hown0 := World.ownsRow_lit (base := W0.heap.size) (e := 3) (size := 1) W0 #[] 0 (Nat.le_refl _) (Nat.zero_le _) rfl
  clear hr hs r3 r4 r5 e0 e1 e2 hkp htn l4 l5 s4 s5 hW0 hbox zW0
  go_enter Tryz.func63, Tryz.ntmps63
  go_wp2
  rw [← HW0.out]
  go_loopw [3, 12] (fun v i wr => ∃ (k g c m : Nat) (xs : List Int), k ≤ n4 ∧ v = .slice (some ⟨g, 0, none⟩) m c ∧ i = .int .i64 k ∧ wr.ownsRow W0.heap.size 3 1 (.slice (some ⟨g, 0, none⟩) m c) m (xs.map (Value.int .i64)) ∧ Below W0.heap.size W0 wr ∧ Hid (xs = keptIds (kp.take k) ∧ xs.length = m) ∧ m ≤ k) (fun _ i _ => n4 - (intOf i).toNat)
  case atStart => exact ⟨0, W0.heap.size, 0, 0, [], Nat.zero_le _, by rw [ZW0.out], rfl, hown0, (Below.refl _ _).alloc (Nat.le_refl _) _, ⟨by simp [keptIds], rfl⟩, Nat.le_refl _⟩
  case round =>
    obtain ⟨k, g, c, m, xs, hk, rfl, rfl, hown, hbel, hx0, hxl⟩ := hrel
    have hbs := hbel.size
    have hg := hown.lt g rfl
    by_cases hlt : k < n4
    · obtain ⟨b, off, cc, x, rfl, hb, hx, hrx, hcell⟩ := reads_elem HR.out.1 k hlt
      obtain ⟨rfl, _⟩ := open_Link hrx
      obtain ⟨hkd, hxe⟩ := at_some' hx
      have hst := keptIds_take kp k hkd x hxe
      obtain ⟨y0, ey0⟩ : ∃ y : ByteArray, y = x.1 := ⟨_, rfl⟩
      obtain ⟨y1, ey1⟩ : ∃ y : Int, y = x.2.1 := ⟨_, rfl⟩
      have bw := bW0.trans (hbel.mono bW0.size)
      have g0 : wr.cell? ⟨b, off + k * 2, none⟩ = some (.string y0) := by rw [ey0]; exact (bw.cell (p := ⟨b, off + (k * 2 + 0), none⟩) hb).trans (hcell 0 (by decide))
      have g1 : wr.cell? ⟨b, off + k * 2 + 1, none⟩ = some (.int .i64 y1) := by rw [ey1]; exact (bw.cell (p := ⟨b, off + (k * 2 + 1), none⟩) hb).trans (hcell 1 (by decide))
      have bA : Below W0.heap.size W0 (wr.alloc (.cells #[.string y0, .int .i64 y1] 81)) := hbel.alloc hbs _
      have oA : (wr.alloc (.cells #[.string y0, .int .i64 y1] 81)).ownsRow W0.heap.size 3 1 (.slice (some ⟨g, 0, none⟩) m c) m (xs.map (Value.int .i64)) := hown.alloc _
      rw [← ey1] at hst
      have HX : Hid (xs ++ [y1] = keptIds (kp.take (k + 1)) ∧ (xs ++ [y1]).length = m + 1) := ⟨by rw [hst, hx0.out.1], by rw [List.length_append, hx0.out.2]; rfl⟩
      clear hcell hrx hx hxe ey0 ey1 hst hx0 hown bw
      go_wp2_with (at_builtin; refine wpList_append_lies _ rfl _ _ 51 rfl W0.heap.size 3 i0 (.int .i64 0) 1 8 Tryz.underlying51 hi hz0 hz1 hz2 rfl (by decide) _ m _ rfl (oA.alloc _) ⟨_, 0, none⟩ 1 _ [.int .i64 y1] rfl rfl ?c1 ?c2 (by omega) ?c3 ?c4 ?c5 _ rfl ?_)
      case c1 => exact cells_new' _ _ _ _ (by simp)
      case c2 => intro u hu; simp at hu; rcases hu with rfl; rfl
      case c3 => unfold maxLen; omega
      case c4 => omega
      case c5 => simp; omega
      intro gg cap1 w3 hown3 hgrow3 _ _
      have bB := bA.alloc (o := .cells #[.int .i64 y1] 3) bA.size
      have hbel3 : Below W0.heap.size W0 w3 := bB.grown hgrow3 bB.size (fun y h => by cases h; exact hg.1)
      rw [ints_snoc] at hown3
      clear hgrow3 oA bA bB g0 g1
      go_wp2
      go_roundw
      case rel => exact ⟨k + 1, gg, cap1, m + 1, xs ++ [y1], by omega, rfl, by go_num, hown3, hbel3, HX, by omega⟩
      case measure => simp [intOf]; omega
    · have e : k = n4 := by omega
      have HE : Hid (xs = keptIds kp ∧ xs.length = m) := ⟨by rw [hx0.out.1, List.take_of_length_le (by have := HL.out.1; omega)], hx0.out.2⟩
      have hm4 : m ≤ n4 := by omega
      have c5x := BX.out wr hbel
      clear hx0 hxl
      go_wp2
      go_loopw [3, 25] (fun v i wr => ∃ (k g c m : Nat) (xs : List Int), k ≤ n5 ∧ v = .slice (some ⟨g, 0, none⟩) m c ∧ i = .int .i64 k ∧ wr.ownsRow W0.heap.size 3 1 (.slice (some ⟨g, 0, none⟩) m c) m (xs.map (Value.int .i64)) ∧ Below W0.heap.size W0 wr ∧ Hid (xs = keptIds kp ++ madeIds (tn.take k) ∧ xs.length = m) ∧ m ≤ n4 + k) (fun _ i _ => n5 - (intOf i).toNat)
      case atStart => exact ⟨0, g, c, m, xs, Nat.zero_le _, rfl, rfl, hown, hbel, ⟨by rw [HE.out.1]; simp [madeIds], HE.out.2⟩, by omega⟩
      case round =>
        clear hown hbel hbs hg HE hm4 c5x hlt e hk
        obtain ⟨k, g, c, m, xs, hk, rfl, rfl, hown, hbel, hx0, hxl⟩ := hrel
        have hbs := hbel.size
        have hg := hown.lt g rfl
        by_cases hlt : k < n5
        · obtain ⟨b, off, cc, x, rfl, hb, hx, hrx, hcell⟩ := reads_elem HR.out.2 k hlt
          obtain ⟨rfl, _⟩ := open_Turn hrx
          obtain ⟨hkd, hxe⟩ := at_some' hx
          have hst := madeIds_take tn k hkd x hxe
          obtain ⟨y0, ey0⟩ : ∃ y : Int, y = x.1 := ⟨_, rfl⟩
          obtain ⟨y1, ey1⟩ : ∃ y : ByteArray, y = x.2.1 := ⟨_, rfl⟩
          obtain ⟨y2, ey2⟩ : ∃ y : ByteArray, y = x.2.2.1 := ⟨_, rfl⟩
          obtain ⟨y3, ey3⟩ : ∃ y : Int, y = x.2.2.2.1 := ⟨_, rfl⟩
          have bw := bW0.trans (hbel.mono bW0.size)
          have g0 : wr.cell? ⟨b, off + k * 4, none⟩ = some (.int .i64 y0) := by rw [ey0]; exact (bw.cell (p := ⟨b, off + (k * 4 + 0), none⟩) hb).trans (hcell 0 (by decide))
          have g1 : wr.cell? ⟨b, off + k * 4 + 1, none⟩ = some (.string y1) := by rw [ey1]; exact (bw.cell (p := ⟨b, off + (k * 4 + 1), none⟩) hb).trans (hcell 1 (by decide))
          have g2 : wr.cell? ⟨b, off + k * 4 + 2, none⟩ = some (.string y2) := by rw [ey2]; exact (bw.cell (p := ⟨b, off + (k * 4 + 2), none⟩) hb).trans (hcell 2 (by decide))
          have g3 : wr.cell? ⟨b, off + k * 4 + 3, none⟩ = some (.int .i64 y3) := by rw [ey3]; exact (bw.cell (p := ⟨b, off + (k * 4 + 3), none⟩) hb).trans (hcell 3 (by decide))
          have bA : Below W0.heap.size W0 (wr.alloc (.cells #[.int .i64 y0, .string y1, .string y2, .int .i64 y3] 95)) := hbel.alloc hbs _
          have oA : (wr.alloc (.cells #[.int .i64 y0, .string y1, .string y2, .int .i64 y3] 95)).ownsRow W0.heap.size 3 1 (.slice (some ⟨g, 0, none⟩) m c) m (xs.map (Value.int .i64)) := hown.alloc _
          rw [← ey0, ← ey3] at hst
          by_cases hq : y0 = 1
          · rw [if_pos hq] at hst
            have HX : Hid (xs ++ [y3] = keptIds kp ++ madeIds (tn.take (k + 1)) ∧ (xs ++ [y3]).length = m + 1) := ⟨by rw [hst, hx0.out.1, List.append_assoc], by rw [List.length_append, hx0.out.2]; rfl⟩
            subst hq
            clear hcell hrx hx hxe ey0 ey1 ey2 ey3 hst hx0 hown bw
            go_wp2_with (at_builtin; refine wpList_append_lies _ rfl _ _ 51 rfl W0.heap.size 3 i0 (.int .i64 0) 1 8 Tryz.underlying51 hi hz0 hz1 hz2 rfl (by decide) _ m _ rfl (oA.alloc _) ⟨_, 0, none⟩ 1 _ [.int .i64 y3] rfl rfl ?c1 ?c2 (by omega) ?c3 ?c4 ?c5 _ rfl ?_)
            case c1 => exact cells_new' _ _ _ _ (by simp)
            case c2 => intro u hu; simp at hu; rcases hu with rfl; rfl
            case c3 => unfold maxLen; omega
            case c4 => omega
            case c5 => simp; omega
            intro gg cap1 w3 hown3 hgrow3 _ _
            have bB := bA.alloc (o := .cells #[.int .i64 y3] 3) bA.size
            have hbel3 : Below W0.heap.size W0 w3 := bB.grown hgrow3 bB.size (fun y h => by cases h; exact hg.1)
            rw [ints_snoc] at hown3
            clear hgrow3 oA bA bB g0 g1 g2 g3
            go_wp2
            go_roundw
            case rel => exact ⟨k + 1, gg, cap1, m + 1, xs ++ [y3], by omega, rfl, by go_num, hown3, hbel3, HX, by omega⟩
            case measure => simp [intOf]; omega
          · rw [if_neg hq] at hst
            have HX : Hid (xs = keptIds kp ++ madeIds (tn.take (k + 1)) ∧ xs.length = m) := ⟨by rw [hst, hx0.out.1], hx0.out.2⟩
            have hq' : (y0 == 1) = false := by simp [hq]
            clear hcell hrx hx hxe ey0 ey1 ey2 ey3 hst hx0 hown bw
            go_wp2
            go_roundw
            case rel => exact ⟨k + 1, g, c, m, xs, by omega, rfl, by go_num, oA, bA, HX, by omega⟩
            case measure => simp [intOf]; omega
        · have HE : Hid (xs = idsL kp tn ∧ xs.length = m) := ⟨by rw [hx0.out.1, List.take_of_length_le (by have := HL.out.2; omega)]; rfl, hx0.out.2⟩
          have bw := bW0.trans (hbel.mono bW0.size)
          clear hx0
          go_wp2
          go_ret
          refine ⟨g, c, ?_, ?_, bw⟩
          · rw [← HE.out.1, HE.out.2]; rfl
          · rw [← HE.out.1, HE.out.2]
            exact Own.base (s := .sl .int) (own_ints' HE.out.2 hown) bW0.size

end Go.Proofs.YtkjnbjohicgooaaGreat
