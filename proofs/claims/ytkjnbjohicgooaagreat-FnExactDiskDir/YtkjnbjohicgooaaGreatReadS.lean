/-
  The model's l03Dir, DiskDir, l03At.
-/
import Derived.Test.YtkjnbjohicgooaaGreatDOkS
import Derived.Test.YtkjnbjohicgooaaGreatMkDisk
import Derived.Test.YtkjnbjohicgooaaGreatAppC
namespace Go.Proofs.YtkjnbjohicgooaaGreat
open Go.RowKit
set_option linter.unusedVariables false

theorem dirL_small {l : List LinkD} {ts : List TurnD} (h : SmallS l) (ht : ∀ t ∈ ts, t.2.1.size ≤ maxLen ∧ t.2.2.1.size ≤ maxLen) : SmallS (dirL l ts) := by
  induction ts generalizing l with
  | nil => exact h
  | cons t ts ih =>
    have h1 := ht t List.mem_cons_self
    show SmallS (dirL (turnL l t) ts)
    refine ih ?_ (fun u hu => ht u (List.mem_cons_of_mem _ hu))
    unfold turnL
    split
    · exact withL_small h h1.1 _
    · split
      · exact withL_small (lessL_small (lessL_small h _) _) h1.2 _
      · exact lessL_small h _

theorem turns_small {w : World} {a : Option Addr} {n cap : Nat} {l : List TurnD} (h : Reads (.sl shTurn) w [.slice a n cap] l) : ∀ t ∈ l, t.2.1.size ≤ maxLen ∧ t.2.2.1.size ≤ maxLen := by
  intro t ht
  obtain ⟨i, hi, rfl⟩ := List.mem_iff_getElem.1 ht
  have hl : List.length (α := TurnD) l = n := (reads_len h).1
  obtain ⟨b, off, c, x, _, _, hx, hr, _⟩ := reads_elem h i (by omega)
  obtain ⟨_, hxe⟩ := at_some' hx
  obtain ⟨_, h1, h2⟩ := open_Turn hr
  subst hxe
  exact ⟨h1, h2⟩

set_option maxRecDepth 100000 in
set_option maxHeartbeats 4000000 in
theorem specDirTo_ok (cs : List Value) (d : shDisk.D) (N B : Nat) (G : List Nat) (w : World) (ho : Own shDisk w B cs d G) (hs : shDisk.sz d ≤ 1048576) (hN : N ≤ List.length (α := TurnD) d.2.2.2.2.2.1) (hbig : List.length (α := LinkD) d.2.2.2.2.1 + List.length (α := TurnD) d.2.2.2.2.2.1 ≤ 1000000) :
    Calls Tryz.prog 41 #[.agg cs.toArray, .int .i64 N] w fun e w' => ∃ v F, e = .returned v ∧ Own (.sl shLink) w' w.heap.size [v] (dirL d.2.2.2.2.1 (List.take (α := TurnD) N d.2.2.2.2.2.1)) F ∧ F.Nodup ∧ Below w.heap.size w w' := by
  obtain ⟨i0, hi, hz0, hz1, hz2⟩ := info_parts infoLink
  obtain ⟨a3, n3, c3, F3, a4, n4, c4, F4, a5, n5, c5, F5, rfl, _, o3, o4, o5⟩ := openO_Disk ho
  obtain ⟨x0, e0⟩ : ∃ x : Int, x = d.1 := ⟨_, rfl⟩
  obtain ⟨x1, e1⟩ : ∃ x : Int, x = d.2.1 := ⟨_, rfl⟩
  obtain ⟨x2, e2⟩ : ∃ x : Int, x = d.2.2.1 := ⟨_, rfl⟩
  rw [sz_Disk] at hs
  obtain ⟨kp, hkp⟩ : ∃ l : List LinkD, l = d.2.2.2.2.1 := ⟨_, rfl⟩
  obtain ⟨tn, htn⟩ : ∃ l : List TurnD, l = d.2.2.2.2.2.1 := ⟨_, rfl⟩
  have l4 : kp.length = n4 := by rw [hkp]; exact (reads_len o4.reads).1
  have l5 : tn.length = n5 := by rw [htn]; exact (reads_len o5.reads).1
  have s4 : n4 ≤ Sh.sz (.sl shLink) d.2.2.2.2.1 := by rw [← l4, hkp]; exact Nat.le_add_right _ _
  have s5 : n5 ≤ Sh.sz (.sl shTurn) d.2.2.2.2.2.1 := by rw [← l5, htn]; exact Nat.le_add_right _ _
  have hn45 : n4 + n5 ≤ 1048576 := by omega
  rw [← hkp] at o4 ⊢
  rw [← htn] at o5 hN ⊢
  rw [← hkp, ← htn] at hbig
  rw [← e0, ← e1, ← e2]
  have hN5 : N ≤ n5 := by omega
  have hbig' : n4 + n5 ≤ 1000000 := by omega
  clear hbig
  have HR : Hid (Own (.sl shLink) w B [.slice a4 n4 c4] kp F4 ∧ Reads (.sl shTurn) w [.slice a5 n5 c5] tn) := ⟨o4, o5.reads⟩
  have HL : Hid (kp.length = n4 ∧ tn.length = n5 ∧ SmallS kp) := ⟨l4, l5, reads_small o4.reads⟩
  obtain ⟨W0, hW0⟩ : ∃ W0, W0 = w.alloc (.cells #[.int .i64 x0, .int .i64 x1, .int .i64 x2, .slice a3 n3 c3, .slice a4 n4 c4, .slice a5 n5 c5] 33) := ⟨_, rfl⟩
  have bW0 : Below w.heap.size w W0 := by rw [hW0]; exact (Below.refl _ _).alloc (Nat.le_refl _) _
  have hbox : W0.heap[w.heap.size]? = some (.cells #[.int .i64 x0, .int .i64 x1, .int .i64 x2, .slice a3 n3 c3, .slice a4 n4 c4, .slice a5 n5 c5] 33 (0, 0)) := by rw [hW0]; exact heap_alloc_new w _
  have zW0 : W0.heap.size = w.heap.size + 1 := by rw [hW0]; simp
  have HW0 : Hid (W0 = w.alloc (.cells #[.int .i64 x0, .int .i64 x1, .int .i64 x2, .slice a3 n3 c3, .slice a4 n4 c4, .slice a5 n5 c5] 33)) := hW0
  have BX : Hid (∀ w', Below W0.heap.size W0 w' → w'.cell? ⟨w.heap.size, 5, none⟩ = some (.slice a5 n5 c5)) := fun w' h' => box_cell ((h'.block _ (by omega)).trans hbox) rfl
  have bA0 : Below w.heap.size w (W0.alloc (.cells #[] 81)) := bW0.alloc bW0.size _
  have k1 := World.ownsRow_lit (base := W0.heap.size) (e := 81) (size := 2) W0 #[] 0 (Nat.le_refl _) (Nat.zero_le _) rfl
  have k2 : (cellsL kp).length = n4 * 2 := by rw [cellsL_len, l4]
  have k3 : Src (W0.alloc (.cells #[] 81)) (.slice a4 n4 c4) n4 (cellsL kp) := by
    have h1 := HR.out.1.keep (w' := W0.alloc (.cells #[] 81)) (fun g hg => bA0.block g (HR.out.1.lt g hg).2)
    have h2 := src_links h1
    rw [l4] at h2; exact h2
  have k4 : 0 + n4 ≤ maxLen := by unfold maxLen; omega
  have k5 : W0.heap.size ≤ (W0.alloc (.cells #[] 81)).heap.size := by simp
  have K : Hid (_ ∧ _ ∧ _ ∧ _) := ⟨k2, k3, k4, k5⟩
  have KO : Hid ((W0.alloc (.cells #[] 81)).ownsRow W0.heap.size 81 2 (.slice (some ⟨w.heap.size + 1, 0, none⟩) 0 0) 0 []) := by
    show World.ownsRow _ _ _ _ _ _ _
    have := k1; rw [zW0] at this ⊢; exact this
  have ZW0 : Hid (W0.heap.size = w.heap.size + 1) := zW0
  clear ho hs o3 o4 o5 e0 e1 e2 hkp htn l4 l5 s4 s5 hW0 hbox zW0 k1 k2 k3 k4 k5 bA0
  go_enter Tryz.func41, Tryz.ntmps41
  go_wp2_with (at_builtin; rw [← HW0.out]; refine wpList_append_src rfl _ _ 28 rfl W0.heap.size 81 i0 (.agg #[.string ByteArray.empty, .int .i64 0]) 2 24 Tryz.underlying28 hi hz0 hz1 hz2 rfl (by decide) _ 0 [] rfl KO.out (.slice a4 n4 c4) n4 (cellsL kp) rfl K.out.1 K.out.2.1 (cellsL_one _) K.out.2.2.1 (by omega) K.out.2.2.2 ?_)
  intro v1 w1 hown1 hgrow1
  have b1 : Below W0.heap.size W0 w1 := ((Below.refl _ _).alloc (Nat.le_refl _) _).grown hgrow1 (by simp) (fun k h => by simp [Value.ownBlock] at h; have := ZW0.out; omega)
  have hown1' : w1.ownsRow W0.heap.size 81 2 v1 n4 (cellsL kp) := by simpa using hown1
  obtain ⟨F1, p1, nd1, a1, c1, rfl⟩ := own_linksV HL.out.1 HL.out.2.2 hown1'
  clear hgrow1 hown1 hown1' K KO
  go_wp2
  go_loopw [5, 6] (fun dv i wr => ∃ (k m : Nat) (a : Option Addr) (c : Nat) (F : List Nat), k ≤ N ∧ dv = .slice a m c ∧ i = .int .i64 k ∧ Below W0.heap.size W0 wr ∧ Hid (Own (.sl shLink) wr W0.heap.size [.slice a m c] (dirL kp (tn.take k)) F ∧ F.Nodup) ∧ m ≤ n4 + k) (fun _ i _ => N - (intOf i).toNat)
  case atStart => exact ⟨0, n4, a1, c1, F1, Nat.zero_le _, rfl, rfl, b1, ⟨p1, nd1⟩, by omega⟩
  case round =>
    obtain ⟨k, m, a, c, F, hk, rfl, rfl, hbel, hx0, hmk⟩ := hrel
    have hbs := hbel.size
    by_cases hlt : k < N
    · obtain ⟨b, off, cc, x, rfl, hb, hx, hrx, hcell⟩ := reads_elem HR.out.2 k (by omega)
      obtain ⟨rfl, hl1, hl2⟩ := open_Turn hrx
      obtain ⟨hkd, hxe⟩ := at_some' hx
      obtain ⟨y0, ey0⟩ : ∃ y : Int, y = x.1 := ⟨_, rfl⟩
      obtain ⟨y1, ey1⟩ : ∃ y : ByteArray, y = x.2.1 := ⟨_, rfl⟩
      obtain ⟨y2, ey2⟩ : ∃ y : ByteArray, y = x.2.2.1 := ⟨_, rfl⟩
      obtain ⟨y3, ey3⟩ : ∃ y : Int, y = x.2.2.2.1 := ⟨_, rfl⟩
      have hxv : x = (y0, y1, y2, y3, ()) := by rw [ey0, ey1, ey2, ey3]; rfl
      have bw := bW0.trans (hbel.mono bW0.size)
      have f5 := BX.out wr hbel
      have g0 : wr.cell? ⟨b, off + k * 4, none⟩ = some (.int .i64 y0) := by rw [ey0]; exact (bw.cell (p := ⟨b, off + (k * 4 + 0), none⟩) hb).trans (hcell 0 (by decide))
      have g1 : wr.cell? ⟨b, off + k * 4 + 1, none⟩ = some (.string y1) := by rw [ey1]; exact (bw.cell (p := ⟨b, off + (k * 4 + 1), none⟩) hb).trans (hcell 1 (by decide))
      have g2 : wr.cell? ⟨b, off + k * 4 + 2, none⟩ = some (.string y2) := by rw [ey2]; exact (bw.cell (p := ⟨b, off + (k * 4 + 2), none⟩) hb).trans (hcell 2 (by decide))
      have g3 : wr.cell? ⟨b, off + k * 4 + 3, none⟩ = some (.int .i64 y3) := by rw [ey3]; exact (bw.cell (p := ⟨b, off + (k * 4 + 3), none⟩) hb).trans (hcell 3 (by decide))
      rw [← ey1] at hl1
      rw [← ey2] at hl2
      have HT : Hid (tn.take (k + 1) = tn.take k ++ [(y0, y1, y2, y3, ())]) := take_snocT tn k hkd _ (hxe.trans hxv)
      have hk5 : (k : Int) < (n5 : Int) := by omega
      have qM : Hid (Calls Tryz.prog 85 #[.slice a m c, .agg #[.int .i64 y0, .string y1, .string y2, .int .i64 y3]] wr fun e w'' => ∃ g c, e = .returned (.slice (some ⟨g, 0, none⟩) (turnL (dirL kp (tn.take k)) (y0, y1, y2, y3, ())).length c) ∧
          Own (.sl shLink) w'' wr.heap.size [.slice (some ⟨g, 0, none⟩) (turnL (dirL kp (tn.take k)) (y0, y1, y2, y3, ())).length c] (turnL (dirL kp (tn.take k)) (y0, y1, y2, y3, ())) [g] ∧ Below wr.heap.size wr w'') :=
        specTurn_any a m c _ y0 y1 y2 y3 wr hx0.out.1.reads hl1 hl2 (by omega)
      clear hcell hrx hx hxe hxv ey0 ey1 ey2 ey3 hl1 hl2
      go_wp2_with fail
      refine qM.out.mono ?_
      rintro e w7 ⟨g7, c7, rfl, o7, hb7⟩
      have b7 := hbel.trans (hb7.mono hbel.size)
      rw [← dirL_snoc, ← HT.out] at o7 ⊢
      obtain ⟨m7, hm7⟩ : ∃ m7, m7 = (dirL kp (tn.take (k + 1))).length := ⟨_, rfl⟩
      have hm7k : m7 ≤ n4 + (k + 1) := by
        have h1 := dirL_len kp (tn.take (k + 1))
        have h2 := HL.out.1
        have h3 : (tn.take (k + 1)).length ≤ k + 1 := by rw [List.length_take]; omega
        omega
      rw [← hm7] at o7 ⊢
      have HX2 : Hid (Own (.sl shLink) w7 W0.heap.size [.slice (some ⟨g7, 0, none⟩) m7 c7] (dirL kp (tn.take (k + 1))) [g7] ∧ [g7].Nodup) := ⟨o7.base hbs, by simp⟩
      clear hb7 o7 hm7 hx0 g0 g1 g2 g3 f5
      go_wp2
      go_roundw
      case rel => exact ⟨k + 1, m7, some ⟨g7, 0, none⟩, c7, [g7], by omega, rfl, by go_num, b7, HX2, hm7k⟩
      case measure => simp [intOf]; omega
    · have e : k = N := by omega
      subst e
      have HX2 : Hid (Own (.sl shLink) wr w.heap.size [.slice a m c] (dirL kp (tn.take k)) F ∧ F.Nodup) := ⟨hx0.out.1.base bW0.size, hx0.out.2⟩
      have bw := bW0.trans (hbel.mono bW0.size)
      clear hx0
      go_wp2
      go_ret
      exact ⟨_, F, rfl, HX2.out.1, HX2.out.2, bw⟩

set_option maxRecDepth 100000 in
set_option maxHeartbeats 2000000 in
theorem specDir_yes (cs : List Value) (d : shDisk.D) (B : Nat) (G : List Nat) (w : World) (ho : Own shDisk w B cs d G) (hs : shDisk.sz d ≤ 1048576) (hok : specOkP d) :
    Calls Tryz.prog 9 #[.agg cs.toArray] w fun e w' => ∃ v F, e = .returned v ∧ Own (.sl shLink) w' w.heap.size [v] (dirL d.2.2.2.2.1 d.2.2.2.2.2.1) F ∧ F.Nodup ∧ Below w.heap.size w w' := by
  obtain ⟨a3, n3, c3, F3, a4, n4, c4, F4, a5, n5, c5, F5, rfl, _, o3, o4, o5⟩ := openO_Disk ho
  have l5 : List.length (α := TurnD) d.2.2.2.2.2.1 = n5 := (reads_len o5.reads).1
  have l5m : n5 ≤ c5 ∧ c5 ≤ maxLen := (reads_len o5.reads).2
  unfold maxLen at l5m
  obtain ⟨x0, e0⟩ : ∃ x : Int, x = d.1 := ⟨_, rfl⟩
  obtain ⟨x1, e1⟩ : ∃ x : Int, x = d.2.1 := ⟨_, rfl⟩
  obtain ⟨x2, e2⟩ : ∃ x : Int, x = d.2.2.1 := ⟨_, rfl⟩
  have qok : Hid (∀ w', Below w.heap.size w w' → Calls Tryz.prog 40 #[.agg #[.int .i64 x0, .int .i64 x1, .int .i64 x2, .slice a3 n3 c3, .slice a4 n4 c4, .slice a5 n5 c5]] w' fun e w'' => e = .returned (.bool true) ∧ Below w'.heap.size w' w'') := fun w' h' => by
    rw [e0, e1, e2]; exact specOk_ok true _ d w' (fun _ => rfl) (fun h => absurd hok h) (ho.reads.later h') hs
  have qdir : Hid (∀ w', Below w.heap.size w w' → Calls Tryz.prog 41 #[.agg #[.int .i64 x0, .int .i64 x1, .int .i64 x2, .slice a3 n3 c3, .slice a4 n4 c4, .slice a5 n5 c5], .int .i64 n5] w' fun e w'' => ∃ v F, e = .returned v ∧ Own (.sl shLink) w'' w'.heap.size [v] (dirL d.2.2.2.2.1 d.2.2.2.2.2.1) F ∧ F.Nodup ∧ Below w'.heap.size w' w'') := fun w' h' => by
    have h9 : List.take (α := TurnD) n5 d.2.2.2.2.2.1 = d.2.2.2.2.2.1 := List.take_of_length_le (by omega)
    have h8 := hok.1
    have h10 : List.length (α := LinkD) d.2.2.2.2.1 ≤ 8 := h8.2.2.2.2.2.2.2.1
    have h11 : List.length (α := TurnD) d.2.2.2.2.2.1 ≤ 40 := h8.2.2.2.2.2.2.2.2
    have := specDirTo_ok _ d n5 B G w' (ho.later h') hs (by omega) (by omega)
    rw [h9] at this
    rw [e0, e1, e2]; exact this
  rw [← e0, ← e1, ← e2]
  obtain ⟨W0, hW0⟩ : ∃ W0, W0 = w.alloc (.cells #[.int .i64 x0, .int .i64 x1, .int .i64 x2, .slice a3 n3 c3, .slice a4 n4 c4, .slice a5 n5 c5] 33) := ⟨_, rfl⟩
  have bW0 : Below w.heap.size w W0 := by rw [hW0]; exact (Below.refl _ _).alloc (Nat.le_refl _) _
  have hbox : W0.heap[w.heap.size]? = some (.cells #[.int .i64 x0, .int .i64 x1, .int .i64 x2, .slice a3 n3 c3, .slice a4 n4 c4, .slice a5 n5 c5] 33 (0, 0)) := by rw [hW0]; exact heap_alloc_new w _
  have zW0 : W0.heap.size = w.heap.size + 1 := by rw [hW0]; simp
  have HW0 : Hid (W0 = w.alloc (.cells #[.int .i64 x0, .int .i64 x1, .int .i64 x2, .slice a3 n3 c3, .slice a4 n4 c4, .slice a5 n5 c5] 33)) := hW0
  have BX : Hid (∀ w', Below W0.heap.size W0 w' → w'.heap[w.heap.size]? = some (.cells #[.int .i64 x0, .int .i64 x1, .int .i64 x2, .slice a3 n3 c3, .slice a4 n4 c4, .slice a5 n5 c5] 33 (0, 0))) := fun w' h' => (h'.block _ (by omega)).trans hbox
  clear ho hs o3 o4 o5 e0 e1 e2 hW0 hbox hok
  go_enter Tryz.func9, Tryz.ntmps9
  go_wp2_with fail
  rw [← HW0.out]
  refine (qok.out _ bW0).mono ?_
  rintro e w1 ⟨rfl, hb1⟩
  have i1 := BX.out w1 hb1
  have b1 := bW0.trans (hb1.mono bW0.size)
  have y0 := box_cell (j := 0) i1 rfl
  have y1 := box_cell (j := 1) i1 rfl
  have y2 := box_cell (j := 2) i1 rfl
  have y3 := box_cell (j := 3) i1 rfl
  have y4 := box_cell (j := 4) i1 rfl
  have y5 := box_cell (j := 5) i1 rfl
  clear i1 hb1
  go_wp2_with fail
  refine (qdir.out _ b1).mono ?_
  rintro e w2 ⟨v, F, rfl, p, nd, hb2⟩
  have b2 := b1.trans (hb2.mono b1.size)
  have p2 := p.base b1.size
  go_wp2
  go_ret
  exact ⟨v, F, rfl, p2, nd, b2⟩

set_option maxRecDepth 100000 in
set_option maxHeartbeats 2000000 in
theorem specDir_no (cs : List Value) (d : shDisk.D) (w : World) (hr : Reads shDisk w cs d) (hs : shDisk.sz d ≤ 1048576) (hok : ¬ specOkP d) :
    Calls Tryz.prog 9 #[.agg cs.toArray] w fun e w' => e = .returned (.slice none 0 0) ∧ Below w.heap.size w w' := by
  obtain ⟨a3, n3, c3, a4, n4, c4, a5, n5, c5, rfl, r3, r4, r5⟩ := open_Disk hr
  obtain ⟨x0, e0⟩ : ∃ x : Int, x = d.1 := ⟨_, rfl⟩
  obtain ⟨x1, e1⟩ : ∃ x : Int, x = d.2.1 := ⟨_, rfl⟩
  obtain ⟨x2, e2⟩ : ∃ x : Int, x = d.2.2.1 := ⟨_, rfl⟩
  have qok : Hid (∀ w', Below w.heap.size w w' → Calls Tryz.prog 40 #[.agg #[.int .i64 x0, .int .i64 x1, .int .i64 x2, .slice a3 n3 c3, .slice a4 n4 c4, .slice a5 n5 c5]] w' fun e w'' => e = .returned (.bool false) ∧ Below w'.heap.size w' w'') := fun w' h' => by
    rw [e0, e1, e2]; exact specOk_ok false _ d w' (fun h => absurd h hok) (fun _ => rfl) (hr.later h') hs
  rw [← e0, ← e1, ← e2]
  have bW0 : Below w.heap.size w (w.alloc (.cells #[.int .i64 x0, .int .i64 x1, .int .i64 x2, .slice a3 n3 c3, .slice a4 n4 c4, .slice a5 n5 c5] 33)) := (Below.refl _ _).alloc (Nat.le_refl _) _
  clear hr hs r3 r4 r5 e0 e1 e2 hok
  go_enter Tryz.func9, Tryz.ntmps9
  go_wp2_with fail
  refine (qok.out _ bW0).mono ?_
  rintro e w1 ⟨rfl, hb1⟩
  have b1 := bW0.trans (hb1.mono bW0.size)
  clear hb1
  go_wp2
  go_ret
  exact ⟨rfl, b1⟩

/-- The first node of an id. -/
def placeN (l : List NodeD) (id : Int) : Nat := l.findIdx fun x => decide (x.1 = id)

theorem placeN_le (l : List NodeD) (id : Int) : placeN l id ≤ l.length := List.findIdx_le_length

theorem placeN_ne {l : List NodeD} {id : Int} {k : Nat} (h : k < placeN l id) (hk : k < l.length) : (l[k]).1 ≠ id := by
  have := List.not_of_lt_findIdx h
  simpa using this

theorem placeN_at {l : List NodeD} {id : Int} (h : placeN l id < l.length) : (l[placeN l id]).1 = id := by
  have := List.findIdx_getElem (xs := l) (p := fun x : NodeD => decide (x.1 = id)) (w := h)
  exact of_decide_eq_true this

set_option maxRecDepth 100000 in
set_option maxHeartbeats 2000000 in
theorem specAt_ok (cs : List Value) (d : shDisk.D) (id : Int) (w : World) (hr : Reads shDisk w cs d) (hs : shDisk.sz d ≤ 1048576) (hin : placeN d.2.2.2.1 id < List.length (α := NodeD) d.2.2.2.1) :
    Calls Tryz.prog 58 #[.agg cs.toArray, .int .i64 id] w fun e w' => e = .returned (.int .i64 (placeN d.2.2.2.1 id)) ∧ Below w.heap.size w w' := by
  obtain ⟨a3, n3, c3, a4, n4, c4, a5, n5, c5, rfl, r3, r4, r5⟩ := open_Disk hr
  obtain ⟨x0, e0⟩ : ∃ x : Int, x = d.1 := ⟨_, rfl⟩
  obtain ⟨x1, e1⟩ : ∃ x : Int, x = d.2.1 := ⟨_, rfl⟩
  obtain ⟨x2, e2⟩ : ∃ x : Int, x = d.2.2.1 := ⟨_, rfl⟩
  obtain ⟨nd, hnd⟩ : ∃ l : List NodeD, l = d.2.2.2.1 := ⟨_, rfl⟩
  rw [← hnd] at r3 hin ⊢
  rw [← e0, ← e1, ← e2]
  have l3 : nd.length = n3 := (reads_len r3).1
  have l3m : n3 ≤ c3 ∧ c3 ≤ maxLen := (reads_len r3).2
  unfold maxLen at l3m
  obtain ⟨Q, hQ⟩ : ∃ Q, Q = placeN nd id := ⟨_, rfl⟩
  have HNE : Hid (∀ k (hk : k < nd.length), k < Q → (nd[k]).1 ≠ id) := fun k hk h => placeN_ne (by omega) hk
  have HEQ : Hid (∀ hk : Q < nd.length, (nd[Q]).1 = id) := fun hk => by subst hQ; exact placeN_at hk
  have HR : Hid (Reads (.sl shNode) w [.slice a3 n3 c3] nd) := r3
  have HL : Hid (nd.length = n3) := l3
  rw [← hQ] at hin ⊢
  have hQn : Q < n3 := by omega
  have bW0 : Below w.heap.size w (w.alloc (.cells #[.int .i64 x0, .int .i64 x1, .int .i64 x2, .slice a3 n3 c3, .slice a4 n4 c4, .slice a5 n5 c5] 33)) := (Below.refl _ _).alloc (Nat.le_refl _) _
  clear hr hs r3 r4 r5 e0 e1 e2 hQ hin hnd l3
  go_enter Tryz.func58, Tryz.ntmps58
  go_wp2
  go_loopw [10] (fun i wr => ∃ k : Nat, k ≤ Q ∧ i = .int .i64 k ∧ Below w.heap.size w wr) (fun i _ => n3 - (intOf i).toNat)
  case atStart => exact ⟨0, Nat.zero_le _, rfl, bW0⟩
  case round =>
    obtain ⟨k, hk, rfl, hbel⟩ := hrel
    have hbs := hbel.size
    obtain ⟨b, off, cc, x, rfl, hb, hx, hrx, hcell⟩ := reads_elem HR.out k (by omega)
    obtain ⟨p1, m1, k1, p2, m2, k2, rfl, _, _⟩ := open_Node hrx
    obtain ⟨hkd, hxe⟩ := at_some' hx
    obtain ⟨y0, ey0⟩ : ∃ y : Int, y = x.1 := ⟨_, rfl⟩
    have hy : (nd[k]'hkd).1 = y0 := by rw [ey0]; exact congrArg Prod.fst hxe
    have g0 : wr.cell? ⟨b, off + k * 3, none⟩ = some (.int .i64 y0) := by rw [ey0]; exact (hbel.cell (p := ⟨b, off + (k * 3 + 0), none⟩) hb).trans (hcell 0 (by decide))
    have g1 : wr.cell? ⟨b, off + k * 3 + 1, none⟩ = some (.slice p1 m1 k1) := (hbel.cell (p := ⟨b, off + (k * 3 + 1), none⟩) hb).trans (hcell 1 (by decide))
    have g2 : wr.cell? ⟨b, off + k * 3 + 2, none⟩ = some (.slice p2 m2 k2) := (hbel.cell (p := ⟨b, off + (k * 3 + 2), none⟩) hb).trans (hcell 2 (by decide))
    have bA : Below w.heap.size w (wr.alloc (.cells #[.int .i64 y0, .slice p1 m1 k1, .slice p2 m2 k2] 93)) := hbel.alloc hbs _
    have hkn : (k : Int) < (n3 : Int) := by omega
    by_cases hlt : k < Q
    · have hne : (y0 == id) = false := by have := HNE.out k hkd hlt; rw [hy] at this; simpa using this
      clear hcell hrx hx hxe ey0 hy
      go_wp2
      go_roundw
      case rel => exact ⟨k + 1, by omega, by go_num, bA⟩
      case measure => simp [intOf]; omega
    · have e : k = Q := by omega
      subst e
      have hne : (y0 == id) = true := by have := HEQ.out hkd; rw [hy] at this; simpa using this
      clear hcell hrx hx hxe ey0 hy
      go_wp2
      go_ret
      exact ⟨rfl, bA⟩

end Go.Proofs.YtkjnbjohicgooaaGreat
