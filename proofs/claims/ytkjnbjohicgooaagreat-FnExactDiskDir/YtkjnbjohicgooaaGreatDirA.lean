/-
  The program's directory as a list: linksOf behind directoryBehind, for any number of turns of a right disk; DiskDir of the program.
-/
import Derived.Test.YtkjnbjohicgooaaGreatLnkI
import Derived.Test.YtkjnbjohicgooaaGreatReadP
namespace Go.Proofs.YtkjnbjohicgooaaGreat
open Go.RowKit
set_option linter.unusedVariables false
set_option maxRecDepth 100000

theorem dir_alikeK {d : shDisk.D} (h : specOkP d) (k : Nat) : Alike (dirL d.2.2.2.2.1 (List.take (α := TurnD) k d.2.2.2.2.2.1)) (dirF (List.reverse (α := LinkD) d.2.2.2.2.1) (List.take (α := TurnD) k d.2.2.2.2.2.1)) := by
  obtain ⟨_, _, h3, _, _, h6, _⟩ := h
  obtain ⟨kp, hkp⟩ : ∃ l : List LinkD, l = d.2.2.2.2.1 := ⟨_, rfl⟩
  obtain ⟨tn, htn⟩ : ∃ l : List TurnD, l = d.2.2.2.2.2.1 := ⟨_, rfl⟩
  rw [← hkp, ← htn] at h6 ⊢
  rw [← hkp] at h3
  have hp := kept_pos h3
  have hn : namesTo kp kp.length := fun i hi hk => ⟨(h3 i hi hk).1, (h3 i hi hk).2.2⟩
  have hal : ∀ (ts : List TurnD) (l m : List LinkD), Alike l m → Pos l → turnsOkL l ts → Alike (dirL l ts) (dirF m ts) := by
    intro ts
    induction ts with
    | nil => intro l m h _ _; exact h
    | cons t ts ih =>
      intro l m hlm hpl hk
      have h8 := turn_alike hlm hpl hk.1
      exact ih (turnL l t) (turnI m t) h8.1 h8.2 hk.2
  exact hal (tn.take k) kp kp.reverse (alike_rev hn) hp (turnsOk_take h6 k)

def NamesOk (l : List LinkD) : Prop := ∀ x ∈ l, isName x.1

theorem names_turn {l : List LinkD} {t : TurnD} (h : NamesOk l) (hk : turnOkL l t) : NamesOk (turnL l t) := by
  unfold turnL
  split
  · intro x hx
    rcases mem_with hx with rfl | hx
    · exact hk.1
    · exact h x hx
  · split
    · rename_i h1 h5
      intro x hx
      rcases mem_with hx with rfl | hx
      · rcases hk.2 with ⟨h9, _⟩ | ⟨_, h9, _⟩ | ⟨h9, _⟩
        · exact absurd h9 h1
        · exact h9
        · omega
      · exact h x (mem_less (mem_less hx))
    · intro x hx
      exact h x (mem_less hx)

theorem names_dir : ∀ {ts : List TurnD} {l : List LinkD}, NamesOk l → turnsOkL l ts → NamesOk (dirL l ts)
  | [], l, h, _ => h
  | t :: ts, l, h, hk => by
    show NamesOk (dirL (turnL l t) ts)
    exact names_dir (names_turn h hk.1) hk.2

theorem names_disk {d : shDisk.D} (h : specOkP d) (k : Nat) : NamesOk (dirL d.2.2.2.2.1 (List.take (α := TurnD) k d.2.2.2.2.2.1)) := by
  obtain ⟨_, _, h3, _, _, h6, _⟩ := h
  refine names_dir (fun x hx => ?_) (turnsOk_take h6 k)
  obtain ⟨i, hi, rfl⟩ := List.mem_iff_getElem.1 hx
  exact (h3 i hi hi).1

theorem bulkL_sz (l : List LinkD) : Sh.sz (.sl shLink) l = (l.map fun x => 1 + ByteArray.size x.1).sum := by
  show List.length (α := LinkD) l + (List.map shLink.sz l).sum = _
  induction l with
  | nil => rfl
  | cons a l ih =>
    have h3 : shLink.sz a = ByteArray.size a.1 := sz_Link a
    have e2 : List.length (α := LinkD) (a :: l) + (List.map shLink.sz (a :: l)).sum = (List.length (α := LinkD) l + 1) + (shLink.sz a + (List.map shLink.sz l).sum) := rfl
    refine e2.trans ?_
    have ih' : List.length (α := LinkD) l + (List.map shLink.sz l).sum = (l.map fun x => 1 + ByteArray.size x.1).sum := ih
    simp only [List.map_cons, List.sum_cons]
    omega

theorem bulkL_le (l : List LinkD) (h : NamesOk l) : (l.map fun x => 1 + ByteArray.size x.1).sum ≤ 13 * l.length := by
  induction l with
  | nil => simp
  | cons x m ih =>
    have h1 := (h x (by simp)).2.1
    have h2 := ih fun y hy => h y (by simp [hy])
    simp only [List.map_cons, List.sum_cons, List.length_cons]
    omega

theorem take_le {α : Type} (k n : Nat) (l : List α) (h : l.length ≤ n) : (l.take k).length ≤ n := by rw [List.length_take]; omega

/-- How much a directory of a right disk holds. -/
theorem dir_sz {d : shDisk.D} (h : specOkP d) (k : Nat) : Sh.sz (.sl shLink) (dirL d.2.2.2.2.1 (List.take (α := TurnD) k d.2.2.2.2.2.1)) ≤ 1048576 := by
  have hn := names_disk h k
  have hl := dirL_len d.2.2.2.2.1 (List.take (α := TurnD) k d.2.2.2.2.2.1)
  obtain ⟨⟨_, _, _, _, _, _, _, l4, l5⟩, _⟩ := h
  have l4' : List.length (α := LinkD) d.2.2.2.2.1 ≤ 8 := l4
  have l6 : List.length (α := TurnD) (List.take (α := TurnD) k d.2.2.2.2.2.1) ≤ 40 := take_le (α := TurnD) k 40 _ l5
  have h8 := bulkL_le _ hn
  have h9 := bulkL_sz (dirL d.2.2.2.2.1 (List.take (α := TurnD) k d.2.2.2.2.2.1))
  refine Nat.le_trans (Nat.le_of_eq h9) ?_
  omega

/-- linksOf of directoryBehind: the model's directory. -/
theorem links_dir {d : shDisk.D} (h : specOkP d) (k b n : Nat) (w : World) (hm : MapIs w b n (dirF (List.reverse (α := LinkD) d.2.2.2.2.1) (List.take (α := TurnD) k d.2.2.2.2.2.1))) (hn : n ≤ 1000000) :
    Calls Tryz.prog 46 #[.map (some b)] w fun e w' => ∃ v F, e = .returned v ∧ Own (.sl shLink) w' w.heap.size [v] (dirL d.2.2.2.2.1 (List.take (α := TurnD) k d.2.2.2.2.2.1)) F ∧ F.Nodup ∧ Below w.heap.size w w' := by
  have ha := dir_alikeK h k
  refine (implLinks_ok b n _ w hm hn (fun s hs => ?_)).mono ?_
  · rw [← (ha s).1] at hs
    obtain ⟨x, hx, rfl, _⟩ := findL_mem hs
    have := (names_disk h k x hx).2.1
    omega
  · rintro e w' ⟨v, m, L, rfl, ho, hL, hb⟩
    obtain ⟨hl, hasc, hal, hsm⟩ := hL.out
    have e : L = dirL d.2.2.2.2.1 (List.take (α := TurnD) k d.2.2.2.2.2.1) := asc_eq hasc (asc_disk h k) (hal.trans ha.symm)
    subst e
    obtain ⟨F, hF, hnd, _⟩ := own_linksV hl hsm ho
    exact ⟨v, F, rfl, hF, hnd, hb⟩

set_option maxRecDepth 100000 in
set_option maxHeartbeats 2000000 in
theorem implDir_bad (cs : List Value) (d : shDisk.D) (w : World) (hr : Reads shDisk w cs d) (hs : shDisk.sz d ≤ 1048576) (hok : implOkB d = false) :
    Calls Tryz.prog 11 #[.agg cs.toArray] w fun e w' => e = .returned (.slice none 0 0) ∧ Below w.heap.size w w' := by
  obtain ⟨a3, n3, c3, a4, n4, c4, a5, n5, c5, rfl, r3, r4, r5⟩ := open_Disk hr
  obtain ⟨x0, e0⟩ : ∃ x : Int, x = d.1 := ⟨_, rfl⟩
  obtain ⟨x1, e1⟩ : ∃ x : Int, x = d.2.1 := ⟨_, rfl⟩
  obtain ⟨x2, e2⟩ : ∃ x : Int, x = d.2.2.1 := ⟨_, rfl⟩
  have qok : Hid (∀ w', Below w.heap.size w w' → Calls Tryz.prog 45 #[.agg #[.int .i64 x0, .int .i64 x1, .int .i64 x2, .slice a3 n3 c3, .slice a4 n4 c4, .slice a5 n5 c5]] w' fun e w'' => e = .returned (.bool false) ∧ Below w'.heap.size w' w'') := fun w' h' => by
    rw [e0, e1, e2, ← hok]; exact implOk_ok _ d w' (hr.later h') hs
  rw [← e0, ← e1, ← e2]
  have bW0 : Below w.heap.size w (w.alloc (.cells #[.int .i64 x0, .int .i64 x1, .int .i64 x2, .slice a3 n3 c3, .slice a4 n4 c4, .slice a5 n5 c5] 33)) := (Below.refl _ _).alloc (Nat.le_refl _) _
  clear hr hs r3 r4 r5 e0 e1 e2 hok
  go_enter Tryz.func11, Tryz.ntmps11
  go_wp2_with fail
  refine (qok.out _ bW0).mono ?_
  rintro e w1 ⟨rfl, hb1⟩
  have b1 := bW0.trans (hb1.mono bW0.size)
  clear hb1
  go_wp2
  go_ret
  exact ⟨rfl, b1⟩

set_option maxRecDepth 100000 in
set_option maxHeartbeats 4000000 in
theorem implDir_good (cs : List Value) (d : shDisk.D) (w : World) (hr : Reads shDisk w cs d) (hs : shDisk.sz d ≤ 1048576) (hok : implOkB d = true) :
    Calls Tryz.prog 11 #[.agg cs.toArray] w fun e w' => ∃ v F, e = .returned v ∧ Own (.sl shLink) w' w.heap.size [v] (dirL d.2.2.2.2.1 d.2.2.2.2.2.1) F ∧ F.Nodup ∧ Below w.heap.size w w' := by
  have hp : specOkP d := (ok_same d).2 hok
  obtain ⟨a3, n3, c3, a4, n4, c4, a5, n5, c5, rfl, r3, r4, r5⟩ := open_Disk hr
  obtain ⟨x0, e0⟩ : ∃ x : Int, x = d.1 := ⟨_, rfl⟩
  obtain ⟨x1, e1⟩ : ∃ x : Int, x = d.2.1 := ⟨_, rfl⟩
  obtain ⟨x2, e2⟩ : ∃ x : Int, x = d.2.2.1 := ⟨_, rfl⟩
  obtain ⟨DL, hDL⟩ : ∃ l : List LinkD, l = dirL d.2.2.2.2.1 d.2.2.2.2.2.1 := ⟨_, rfl⟩
  have qok : Hid (∀ w', Below w.heap.size w w' → Calls Tryz.prog 45 #[.agg #[.int .i64 x0, .int .i64 x1, .int .i64 x2, .slice a3 n3 c3, .slice a4 n4 c4, .slice a5 n5 c5]] w' fun e w'' => e = .returned (.bool true) ∧ Below w'.heap.size w' w'') := fun w' h' => by
    rw [e0, e1, e2, ← hok]; exact implOk_ok _ d w' (hr.later h') hs
  have l4 : List.length (α := LinkD) d.2.2.2.2.1 = n4 := (reads_len r4).1
  have l5 : List.length (α := TurnD) d.2.2.2.2.2.1 = n5 := (reads_len r5).1
  have s45 : n4 + n5 ≤ 48 := by
    obtain ⟨⟨_, _, _, _, _, _, _, h8, h40⟩, _⟩ := hp
    have h8' : List.length (α := LinkD) d.2.2.2.2.1 ≤ 8 := h8
    have h40' : List.length (α := TurnD) d.2.2.2.2.2.1 ≤ 40 := h40
    omega
  have hall : List.take (α := TurnD) n5 d.2.2.2.2.2.1 = d.2.2.2.2.2.1 := List.take_of_length_le (by rw [l5]; exact Nat.le_refl _)
  have qdir : Hid (∀ w', Below w.heap.size w w' → Calls Tryz.prog 47 #[.slice a4 n4 c4, .slice a5 n5 c5] w' fun e w'' => e = .returned (.map (some w'.heap.size)) ∧ MapIs w'' w'.heap.size (n4 + n5) (dirF (List.reverse (α := LinkD) d.2.2.2.2.1) d.2.2.2.2.2.1) ∧ Below w'.heap.size w' w'') := fun w' h' => directory_ok a4 n4 c4 _ a5 n5 c5 _ w' (r4.later h') (r5.later h') (by omega)
  have qlk : Hid (∀ w' b, MapIs w' b (n4 + n5) (dirF (List.reverse (α := LinkD) d.2.2.2.2.1) d.2.2.2.2.2.1) → Calls Tryz.prog 46 #[.map (some b)] w' fun e w'' => ∃ v F, e = .returned v ∧ Own (.sl shLink) w'' w'.heap.size [v] DL F ∧ F.Nodup ∧ Below w'.heap.size w' w'') := fun w' b hm => by
    have h9 := links_dir hp n5 b (n4 + n5) w'
    rw [hall] at h9
    rw [hDL]
    exact h9 hm (by omega)
  rw [← e0, ← e1, ← e2, ← hDL]
  obtain ⟨W0, hW0⟩ : ∃ W0, W0 = w.alloc (.cells #[.int .i64 x0, .int .i64 x1, .int .i64 x2, .slice a3 n3 c3, .slice a4 n4 c4, .slice a5 n5 c5] 33) := ⟨_, rfl⟩
  have bW0 : Below w.heap.size w W0 := by rw [hW0]; exact (Below.refl _ _).alloc (Nat.le_refl _) _
  have hbox : W0.heap[w.heap.size]? = some (.cells #[.int .i64 x0, .int .i64 x1, .int .i64 x2, .slice a3 n3 c3, .slice a4 n4 c4, .slice a5 n5 c5] 33 (0, 0)) := by rw [hW0]; exact heap_alloc_new w _
  have zW0 : W0.heap.size = w.heap.size + 1 := by rw [hW0]; simp
  have HW0 : Hid (W0 = _) := hW0
  have BX : Hid (∀ w', Below W0.heap.size W0 w' → w'.heap[w.heap.size]? = some (.cells #[.int .i64 x0, .int .i64 x1, .int .i64 x2, .slice a3 n3 c3, .slice a4 n4 c4, .slice a5 n5 c5] 33 (0, 0))) := fun w' h' => (h'.block _ (by omega)).trans hbox
  clear hr hs r3 r4 r5 e0 e1 e2 hok hW0 hbox hDL hp l4 l5 hall
  go_enter Tryz.func11, Tryz.ntmps11
  go_wp2_with fail
  rw [← HW0.out]
  refine (qok.out _ bW0).mono ?_
  rintro e w1 ⟨rfl, hb1⟩
  have i1 := BX.out w1 hb1
  have b1 := bW0.trans (hb1.mono bW0.size)
  have y4 := box_cell (j := 4) i1 rfl
  have y5 := box_cell (j := 5) i1 rfl
  clear i1 hb1
  go_wp2_with fail
  refine (qdir.out _ b1).mono ?_
  rintro e w2 ⟨rfl, hm2, hb2⟩
  have b2 := b1.trans (hb2.mono b1.size)
  have q3 : Hid (Calls Tryz.prog 46 #[.map (some w1.heap.size)] w2 fun e w'' => ∃ v F, e = .returned v ∧ Own (.sl shLink) w'' w2.heap.size [v] DL F ∧ F.Nodup ∧ Below w2.heap.size w2 w'') := qlk.out w2 _ hm2
  clear hb2 y4 y5 hm2
  go_wp2_with fail
  refine q3.out.mono ?_
  rintro e w3 ⟨v, F, rfl, ho, hnd, hb3⟩
  have b3 := b2.trans (hb3.mono b2.size)
  have HO : Hid (Own (.sl shLink) w3 w.heap.size [v] DL F) := ho.base b2.size
  clear hb3 ho q3
  go_wp2
  go_ret
  exact ⟨v, F, rfl, HO.out, hnd, b3⟩

end Go.Proofs.YtkjnbjohicgooaaGreat
