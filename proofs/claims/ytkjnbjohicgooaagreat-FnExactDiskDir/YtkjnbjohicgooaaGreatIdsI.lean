/-
  idsOk of the program.
-/
import Derived.Test.YtkjnbjohicgooaaGreatSortI
import Derived.Test.YtkjnbjohicgooaaGreatDOkP
namespace Go.Proofs.YtkjnbjohicgooaaGreat
open Go.RowKit
set_option linter.unusedVariables false

set_option maxRecDepth 100000 in
set_option maxHeartbeats 2000000 in
theorem idsOk_ok (cs : List Value) (d : shDisk.D) (w : World) (hr : Reads shDisk w cs d) (hs : shDisk.sz d ≤ 1048576) :
    Calls Tryz.prog 93 #[.agg cs.toArray] w fun e w' => e = .returned (.bool (decide (sortN (idsL d.2.2.2.2.1 d.2.2.2.2.2.1) = nodeIds d.2.2.2.1))) ∧ Below w.heap.size w w' := by
  obtain ⟨i0, hi, hz0, hz1, hz2⟩ := info_parts infoI
  obtain ⟨a3, n3, c3, a4, n4, c4, a5, n5, c5, rfl, r3, r4, r5⟩ := open_Disk hr
  obtain ⟨x0, e0⟩ : ∃ x : Int, x = d.1 := ⟨_, rfl⟩
  obtain ⟨x1, e1⟩ : ∃ x : Int, x = d.2.1 := ⟨_, rfl⟩
  obtain ⟨x2, e2⟩ : ∃ x : Int, x = d.2.2.1 := ⟨_, rfl⟩
  rw [sz_Disk] at hs
  obtain ⟨kp, hkp⟩ : ∃ l : List LinkD, l = d.2.2.2.2.1 := ⟨_, rfl⟩
  obtain ⟨tn, htn⟩ : ∃ l : List TurnD, l = d.2.2.2.2.2.1 := ⟨_, rfl⟩
  obtain ⟨nd, hnd⟩ : ∃ l : List NodeD, l = d.2.2.2.1 := ⟨_, rfl⟩
  have l4 : kp.length = n4 := by rw [hkp]; exact (reads_len r4).1
  have l5 : tn.length = n5 := by rw [htn]; exact (reads_len r5).1
  have s4 : n4 ≤ Sh.sz (.sl shLink) d.2.2.2.2.1 := by rw [← l4, hkp]; exact Nat.le_add_right _ _
  have s5 : n5 ≤ Sh.sz (.sl shTurn) d.2.2.2.2.2.1 := by rw [← l5, htn]; exact Nat.le_add_right _ _
  have hn45 : n4 + n5 ≤ 1048576 := by omega
  rw [← hnd] at r3 ⊢
  rw [← hkp] at r4 ⊢
  rw [← htn] at r5 ⊢
  rw [← e0, ← e1, ← e2]
  have HR : Hid (Reads (.sl shLink) w [.slice a4 n4 c4] kp ∧ Reads (.sl shTurn) w [.slice a5 n5 c5] tn ∧ Reads (.sl shNode) w [.slice a3 n3 c3] nd) := ⟨r4, r5, r3⟩
  obtain ⟨V, hV⟩ : ∃ V, V = decide (sortN (idsL kp tn) = nodeIds nd) := ⟨_, rfl⟩
  have HV : Hid (V = decide (sortN (idsL kp tn) = nodeIds nd)) := hV
  rw [← hV]
  have HL : Hid (kp.length = n4 ∧ tn.length = n5) := ⟨l4, l5⟩
  obtain ⟨W0, hW0⟩ : ∃ W0, W0 = w.alloc (.cells #[.int .i64 x0, .int .i64 x1, .int .i64 x2, .slice a3 n3 c3, .slice a4 n4 c4, .slice a5 n5 c5] 33) := ⟨_, rfl⟩
  have bW0 : Below w.heap.size w W0 := by rw [hW0]; exact (Below.refl _ _).alloc (Nat.le_refl _) _
  have hbox : W0.heap[w.heap.size]? = some (.cells #[.int .i64 x0, .int .i64 x1, .int .i64 x2, .slice a3 n3 c3, .slice a4 n4 c4, .slice a5 n5 c5] 33 (0, 0)) := by rw [hW0]; exact heap_alloc_new w _
  have zW0 : W0.heap.size = w.heap.size + 1 := by rw [hW0]; simp
  have ZW0 : Hid (W0.heap.size = w.heap.size + 1) := zW0
  have HW0 : Hid (W0 = w.alloc (.cells #[.int .i64 x0, .int .i64 x1, .int .i64 x2, .slice a3 n3 c3, .slice a4 n4 c4, .slice a5 n5 c5] 33)) := hW0
  have BX : Hid (∀ w', Below W0.heap.size W0 w' → w'.cell? ⟨w.heap.size, 5, none⟩ = some (.slice a5 n5 c5) ∧ w'.cell? ⟨w.heap.size, 3, none⟩ = some (.slice a3 n3 c3)) := fun w' h' => ⟨box_cell ((h'.block _ (by omega)).trans hbox) rfl, box_cell ((h'.block _ (by omega)).trans hbox) rfl⟩
  have hown0 := World.ownsRow_nil W0 W0.heap.size 3 1
  clear hr hs r3 r4 r5 e0 e1 e2 hnd hkp htn l4 l5 s4 s5 hW0 hbox zW0 hV
  go_enter Tryz.func93, Tryz.ntmps93
  go_wp2
  rw [← HW0.out]
  go_loopw [3, 11] (fun v i wr => ∃ (vv : Value) (k m : Nat) (xs : List Int), vv = v ∧ k ≤ n4 ∧ i = .int .i64 k ∧ wr.ownsRow W0.heap.size 3 1 vv m (xs.map (Value.int .i64)) ∧ Below W0.heap.size W0 wr ∧ Hid (xs = keptIds (kp.take k) ∧ xs.length = m) ∧ m ≤ k) (fun _ i _ => n4 - (intOf i).toNat)
  case atStart => exact ⟨_, 0, 0, [], rfl, Nat.zero_le _, rfl, hown0, Below.refl _ _, ⟨by simp [keptIds], rfl⟩, Nat.le_refl _⟩
  case round =>
    obtain ⟨vv, k, m, xs, rfl, hk, rfl, hown, hbel, hx0, hxl⟩ := hrel
    have hbs := hbel.size
    have hg : Hid (∀ g, vv.ownBlock = some g → W0.heap.size ≤ g) := fun g h => (hown.lt g h).1
    by_cases hlt : k < n4
    · obtain ⟨b, off, cc, x, rfl, hb, hx, hrx, hcell⟩ := reads_elem HR.out.1 k hlt
      obtain ⟨rfl, _⟩ := open_Link hrx
      obtain ⟨hkd, hxe⟩ := at_some' hx
      have hst := keptIds_take kp k hkd x hxe
      obtain ⟨y0, ey0⟩ : ∃ y : ByteArray, y = x.1 := ⟨_, rfl⟩
      obtain ⟨y1, ey1⟩ : ∃ y : Int, y = x.2.1 := ⟨_, rfl⟩
      have bw := bW0.trans (hbel.mono bW0.size)
      have g0 : wr.cell? ⟨b, off + k * 2, none⟩ = some (.string y0) := by rw [ey0]; exact (bw.cell (p := ⟨b, off + (k * 2 + 0), none⟩) hb).trans (hcell 0 (by decide))
      have g1 : wr.cell? ⟨b, off + k * 2 + 1, none⟩ = some (.int .i64 y1) := by rw [ey1]; exact (bw.cell (p := ⟨b, off + (k * 2 + 1), none⟩) hb).trans (hcell 1 (by decide))
      have bA : Below W0.heap.size W0 (wr.alloc (.cells #[.string y0, .int .i64 y1] 81)) := hbel.alloc hbs _
      have oA : (wr.alloc (.cells #[.string y0, .int .i64 y1] 81)).ownsRow W0.heap.size 3 1 vv m (xs.map (Value.int .i64)) := hown.alloc _
      rw [← ey1] at hst
      have HX : Hid (xs ++ [y1] = keptIds (kp.take (k + 1)) ∧ (xs ++ [y1]).length = m + 1) := ⟨by rw [hst, hx0.out.1], by rw [List.length_append, hx0.out.2]; rfl⟩
      clear hcell hrx hx hxe ey0 ey1 hst hx0 hown bw
      go_wp2_with (at_builtin; refine wpList_append_lies _ rfl _ _ 51 rfl W0.heap.size 3 i0 (.int .i64 0) 1 8 Tryz.underlying51 hi hz0 hz1 hz2 rfl (by decide) _ m _ rfl (oA.alloc _) ⟨_, 0, none⟩ 1 _ [.int .i64 y1] rfl rfl ?c1 ?c2 (by omega) ?c3 ?c4 ?c5 _ rfl ?_)
      case c1 => exact cells_new' _ _ _ _ (by simp)
      case c2 => intro u hu; simp at hu; rcases hu with rfl; rfl
      case c3 => unfold maxLen; omega
      case c4 => omega
      case c5 => simp; omega
      intro gg cap1 w3 hown3 hgrow3 _ _
      have bB := bA.alloc (o := .cells #[.int .i64 y1] 3) bA.size
      have hbel3 : Below W0.heap.size W0 w3 := bB.grown hgrow3 bB.size (fun y h => hg.out y h)
      rw [ints_snoc] at hown3
      clear hgrow3 oA bA bB g0 g1
      go_wp2
      go_roundw
      case rel => exact ⟨_, k + 1, m + 1, xs ++ [y1], rfl, by omega, by go_num, hown3, hbel3, HX, by omega⟩
      case measure => simp [intOf]; omega
    · have e : k = n4 := by omega
      have HE : Hid (xs = keptIds kp ∧ xs.length = m) := ⟨by rw [hx0.out.1, List.take_of_length_le (by have := HL.out.1; omega)], hx0.out.2⟩
      have hm4 : m ≤ n4 := by omega
      obtain ⟨c5x, c3x⟩ := BX.out wr hbel
      clear hx0 hxl
      go_wp2
      go_loopw [3, 24] (fun v i wr => ∃ (vv : Value) (k m : Nat) (xs : List Int), vv = v ∧ k ≤ n5 ∧ i = .int .i64 k ∧ wr.ownsRow W0.heap.size 3 1 vv m (xs.map (Value.int .i64)) ∧ Below W0.heap.size W0 wr ∧ Hid (xs = keptIds kp ++ madeIds (tn.take k) ∧ xs.length = m) ∧ m ≤ n4 + k) (fun _ i _ => n5 - (intOf i).toNat)
      case atStart => exact ⟨_, 0, m, xs, rfl, Nat.zero_le _, rfl, hown, hbel, ⟨by rw [HE.out.1]; simp [madeIds], HE.out.2⟩, by omega⟩
      case round =>
        clear hown hbel hbs hg HE hm4 c5x c3x hlt e hk
        obtain ⟨vv, k, m, xs, rfl, hk, rfl, hown, hbel, hx0, hxl⟩ := hrel
        have hbs := hbel.size
        have hg : Hid (∀ g, vv.ownBlock = some g → W0.heap.size ≤ g) := fun g h => (hown.lt g h).1
        by_cases hlt : k < n5
        · obtain ⟨b, off, cc, x, rfl, hb, hx, hrx, hcell⟩ := reads_elem HR.out.2.1 k hlt
          obtain ⟨rfl, _⟩ := open_Turn hrx
          obtain ⟨hkd, hxe⟩ := at_some' hx
          have hst := madeIds_take tn k hkd x hxe
          obtain ⟨y0, ey0⟩ : ∃ y : Int, y = x.1 := ⟨_, rfl⟩
          obtain ⟨y1, ey1⟩ : ∃ y : ByteArray, y = x.2.1 := ⟨_, rfl⟩
          obtain ⟨y2, ey2⟩ : ∃ y : ByteArray, y = x.2.2.1 := ⟨_, rfl⟩
          obtain ⟨y3, ey3⟩ : ∃ y : Int, y = x.2.2.2.1 := ⟨_, rfl⟩
          have bw := bW0.trans (hbel.mono bW0.size)
          have g0 : wr.cell? ⟨b, off + k * 4, none⟩ = some (.int .i64 y0) := by rw [ey0]; exact (bw.cell (p := ⟨b, off + (k * 4 + 0), none⟩) hb).trans (hcell 0 (by decide))
          have g1 : wr.cell? ⟨b, off + k * 4 + 1, none⟩ = some (.string y1) := by rw [ey1]; exact (bw.cell (p := ⟨b, off + (k * 4 + 1), none⟩) hb).trans (hcell 1 (by decide))
          have g2 : wr.cell? ⟨b, off + k * 4 + 2, none⟩ = some (.string y2) := by rw [ey2]; exact (bw.cell (p := ⟨b, off + (k * 4 + 2), none⟩) hb).trans (hcell 2 (by decide))
          have g3 : wr.cell? ⟨b, off + k * 4 + 3, none⟩ = some (.int .i64 y3) := by rw [ey3]; exact (bw.cell (p := ⟨b, off + (k * 4 + 3), none⟩) hb).trans (hcell 3 (by decide))
          have bA : Below W0.heap.size W0 (wr.alloc (.cells #[.int .i64 y0, .string y1, .string y2, .int .i64 y3] 95)) := hbel.alloc hbs _
          have oA : (wr.alloc (.cells #[.int .i64 y0, .string y1, .string y2, .int .i64 y3] 95)).ownsRow W0.heap.size 3 1 vv m (xs.map (Value.int .i64)) := hown.alloc _
          rw [← ey0, ← ey3] at hst
          by_cases hq : y0 = 1
          · rw [if_pos hq] at hst
            have HX : Hid (xs ++ [y3] = keptIds kp ++ madeIds (tn.take (k + 1)) ∧ (xs ++ [y3]).length = m + 1) := ⟨by rw [hst, hx0.out.1, List.append_assoc], by rw [List.length_append, hx0.out.2]; rfl⟩
            subst hq
            clear hcell hrx hx hxe ey0 ey1 ey2 ey3 hst hx0 hown bw
            go_wp2_with (at_builtin; refine wpList_append_lies _ rfl _ _ 51 rfl W0.heap.size 3 i0 (.int .i64 0) 1 8 Tryz.underlying51 hi hz0 hz1 hz2 rfl (by decide) _ m _ rfl (oA.alloc _) ⟨_, 0, none⟩ 1 _ [.int .i64 y3] rfl rfl ?c1 ?c2 (by omega) ?c3 ?c4 ?c5 _ rfl ?_)
            case c1 => exact cells_new' _ _ _ _ (by simp)
            case c2 => intro u hu; simp at hu; rcases hu with rfl; rfl
            case c3 => unfold maxLen; omega
            case c4 => omega
            case c5 => simp; omega
            intro gg cap1 w3 hown3 hgrow3 _ _
            have bB := bA.alloc (o := .cells #[.int .i64 y3] 3) bA.size
            have hbel3 : Below W0.heap.size W0 w3 := bB.grown hgrow3 bB.size (fun y h => hg.out y h)
            rw [ints_snoc] at hown3
            clear hgrow3 oA bA bB g0 g1 g2 g3
            go_wp2
            go_roundw
            case rel => exact ⟨_, k + 1, m + 1, xs ++ [y3], rfl, by omega, by go_num, hown3, hbel3, HX, by omega⟩
            case measure => simp [intOf]; omega
          · rw [if_neg hq] at hst
            have HX : Hid (xs = keptIds kp ++ madeIds (tn.take (k + 1)) ∧ xs.length = m) := ⟨by rw [hst, hx0.out.1], hx0.out.2⟩
            have hq' : (y0 == 1) = false := by simp [hq]
            clear hcell hrx hx hxe ey0 ey1 ey2 ey3 hst hx0 hown bw
            go_wp2
            go_roundw
            case rel => exact ⟨_, k + 1, m, xs, rfl, by omega, by go_num, oA, bA, HX, by omega⟩
            case measure => simp [intOf]; omega
        · have HE : Hid (xs = idsL kp tn ∧ xs.length = m) := ⟨by rw [hx0.out.1, List.take_of_length_le (by have := HL.out.2; omega)]; rfl, hx0.out.2⟩
          have bw := bW0.trans (hbel.mono bW0.size)
          clear hx0
          have q3x := (BX.out wr hbel).2
          have zlt0 : w.heap.size < W0.heap.size := by have := ZW0.out; omega
          rcases hown.2 with ⟨hv, h0⟩ | ⟨g, cap, cur, hv, hB, _⟩
          · subst hv
            have hxs : xs = [] := List.eq_nil_of_length_eq_zero (by rw [HE.out.2]; exact h0)
            have qE : Hid (Calls Tryz.prog 125 #[.slice none 0 0, .slice a3 n3 c3, .func (.func 126) #[] #[]] wr fun e w' => e = .returned (.bool V) ∧ Below wr.heap.size wr w') := by
              have h := equalFunc_ok none 0 0 [] a3 n3 c3 nd wr ⟨none, 0, rfl, Nat.le_refl _, Nat.zero_le _, .inl rfl⟩ (HR.out.2.2.later bw)
              have e1 : sortN (idsL kp tn) = [] := by rw [← HE.out.1, hxs]; simp [sortN]
              have e2 := HV.out
              rw [e1] at e2
              rw [e2]; exact h
            clear HV
            go_wp2_with fail
            refine (Tryz.slices_Sort_int_none _ _ _).mono ?_
            rintro e w2 ⟨rfl, rfl⟩
            go_wp2_with fail
            refine qE.out.mono ?_
            rintro e w3 ⟨rfl, hb3⟩
            have b3 := bw.trans (hb3.mono bw.size)
            clear hb3
            go_wp2
            go_ret
            exact ⟨rfl, b3⟩
          · subst hv
            have qS : Hid (Calls Tryz.prog 124 #[.slice (some ⟨g, 0, none⟩) m cap] wr fun e w' => e = .returned (.tuple #[]) ∧ Reads (.sl .int) w' [.slice (some ⟨g, 0, none⟩) m cap] (sortN xs) ∧ wr.grownBy w' (some g)) := sortInts_ok W0.heap.size g m cap xs wr HE.out.2 (by omega) hown
            go_wp2_with fail
            refine qS.out.mono ?_
            rintro e w2 ⟨rfl, hr2, hg2⟩
            have b2 : Below W0.heap.size W0 w2 := hbel.grown hg2 hbs (fun y h => by cases h; exact hB)
            have bw2 := bW0.trans (b2.mono bW0.size)
            have q3y := (BX.out w2 b2).2
            have qE : Hid (Calls Tryz.prog 125 #[.slice (some ⟨g, 0, none⟩) m cap, .slice a3 n3 c3, .func (.func 126) #[] #[]] w2 fun e w' => e = .returned (.bool V) ∧ Below w2.heap.size w2 w') := by
              have h := equalFunc_ok _ m cap (sortN xs) a3 n3 c3 nd w2 hr2 (HR.out.2.2.later bw2)
              have e2 := HV.out
              rw [← HE.out.1] at e2
              rw [e2]; exact h
            clear hr2 hg2 q3x
            go_wp2_with fail
            refine qE.out.mono ?_
            rintro e w3 ⟨rfl, hb3⟩
            have b3 := bw2.trans (hb3.mono bw2.size)
            clear hb3
            go_wp2
            go_ret
            exact ⟨rfl, b3⟩

end Go.Proofs.YtkjnbjohicgooaaGreat
