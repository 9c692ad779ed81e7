/-
  Joined: CalmS, LDiskCalm, WDiskCalm.
-/
import Derived.Test.YtkjnbjohicgooaaGreatJ11FnExactDiskCalm
import Derived.Test.YtkjnbjohicgooaaGreatJ9FnExactDiskCalm
import Derived.Deep.RegionHeld3
import Derived.Test.YtkjnbjohicgooaaGreatJ10FnExactDiskCalm
/- CalmS: DiskCalm of the model. By program (calmsgen.py). -/
namespace Go.Proofs.YtkjnbjohicgooaaGreat
open Go.RowKit
set_option linter.unusedVariables false
set_option maxRecDepth 100000
set_option linter.unusedSimpArgs false

theorem specOkC_ok (cs : List Value) (d : shDisk.D) (w : World) (hr : Reads shDisk w cs d) (hs : shDisk.sz d ≤ 1048576) :
    Calls Tryz.prog 40 #[.agg cs.toArray] w fun e w' => e = .returned (.bool (implOkB d)) ∧ Below w.heap.size w w' :=
  specOk_ok (implOkB d) cs d w (fun h => (ok_same d).1 h) (fun h => by
    cases e : implOkB d with
    | false => rfl
    | true => exact absurd ((ok_same d).2 e) h) hr hs

set_option maxRecDepth 100000 in
set_option maxHeartbeats 2000000 in
theorem specCalm_bad (cs : List Value) (d : shDisk.D) (w : World) (hr : Reads shDisk w cs d) (hs : shDisk.sz d ≤ 1048576) (hok : implOkB d = false) :
    Calls Tryz.prog 29 #[.agg cs.toArray] w fun e w' => e = .returned (.tuple #[.agg #[.int .i64 0, .int .i64 0, .int .i64 0, .slice none 0 0, .slice none 0 0, .slice none 0 0], .bool false]) ∧ Below w.heap.size w w' := by
  obtain ⟨a3, n3, c3, a4, n4, c4, a5, n5, c5, rfl, r3, r4, r5⟩ := open_Disk hr
  obtain ⟨x0, e0⟩ : ∃ x : Int, x = d.1 := ⟨_, rfl⟩
  obtain ⟨x1, e1⟩ : ∃ x : Int, x = d.2.1 := ⟨_, rfl⟩
  obtain ⟨x2, e2⟩ : ∃ x : Int, x = d.2.2.1 := ⟨_, rfl⟩
  have qok : Hid (∀ w', Below w.heap.size w w' → Calls Tryz.prog 40 #[.agg #[.int .i64 x0, .int .i64 x1, .int .i64 x2, .slice a3 n3 c3, .slice a4 n4 c4, .slice a5 n5 c5]] w' fun e w'' => e = .returned (.bool false) ∧ Below w'.heap.size w' w'') := fun w' h' => by
    rw [e0, e1, e2, ← hok]; exact specOkC_ok _ d w' (hr.later h') hs
  rw [← e0, ← e1, ← e2]
  obtain ⟨W0, hW0⟩ : ∃ W0, W0 = (w.alloc (.cells #[.int .i64 x0, .int .i64 x1, .int .i64 x2, .slice a3 n3 c3, .slice a4 n4 c4, .slice a5 n5 c5] 33)).alloc (.cells #[.int .i64 0, .int .i64 0, .int .i64 0, .slice none 0 0, .slice none 0 0, .slice none 0 0] 33) := ⟨_, rfl⟩
  have bW0 : Below w.heap.size w W0 := by rw [hW0]; exact ((Below.refl _ _).alloc (Nat.le_refl _) _).alloc (by simp) _
  have hB : W0.heap[w.heap.size + 1]? = some (.cells #[.int .i64 0, .int .i64 0, .int .i64 0, .slice none 0 0, .slice none 0 0, .slice none 0 0] 33 (0, 0)) := by rw [hW0]; have := heap_alloc_new (w.alloc (.cells #[.int .i64 x0, .int .i64 x1, .int .i64 x2, .slice a3 n3 c3, .slice a4 n4 c4, .slice a5 n5 c5] 33)) (.cells #[.int .i64 0, .int .i64 0, .int .i64 0, .slice none 0 0, .slice none 0 0, .slice none 0 0] 33); simpa using this
  have zW0 : W0.heap.size = w.heap.size + 1 + 1 := by rw [hW0]; simp
  have HW0 : Hid (W0 = _) := hW0
  have HB : Hid _ := hB
  clear hr hs r3 r4 r5 e0 e1 e2 hok hW0 hB
  go_enter Tryz.func29, Tryz.ntmps29
  go_wp2_with fail
  rw [← HW0.out]
  refine (qok.out _ bW0).mono ?_
  rintro e w1 ⟨rfl, hb1⟩
  have b1 := bW0.trans (hb1.mono bW0.size)
  have i1 : w1.heap[w.heap.size + 1]? = some (.cells #[.int .i64 0, .int .i64 0, .int .i64 0, .slice none 0 0, .slice none 0 0, .slice none 0 0] 33 (0, 0)) := (hb1.block _ (by omega)).trans HB.out
  have yr0 : w1.cell? ⟨w.heap.size + 1, 0, none⟩ = some (.int .i64 0) := box_cell i1 rfl
  have yg0 : w1.frozen? ⟨w.heap.size + 1, 0, none⟩ = false := box_frozen i1
  have yr1 : w1.cell? ⟨w.heap.size + 1, 1, none⟩ = some (.int .i64 0) := box_cell i1 rfl
  have yg1 : w1.frozen? ⟨w.heap.size + 1, 1, none⟩ = false := box_frozen i1
  have yr2 : w1.cell? ⟨w.heap.size + 1, 2, none⟩ = some (.int .i64 0) := box_cell i1 rfl
  have yg2 : w1.frozen? ⟨w.heap.size + 1, 2, none⟩ = false := box_frozen i1
  have yr3 : w1.cell? ⟨w.heap.size + 1, 3, none⟩ = some (.slice none 0 0) := box_cell i1 rfl
  have yg3 : w1.frozen? ⟨w.heap.size + 1, 3, none⟩ = false := box_frozen i1
  have yr4 : w1.cell? ⟨w.heap.size + 1, 4, none⟩ = some (.slice none 0 0) := box_cell i1 rfl
  have yg4 : w1.frozen? ⟨w.heap.size + 1, 4, none⟩ = false := box_frozen i1
  have yr5 : w1.cell? ⟨w.heap.size + 1, 5, none⟩ = some (.slice none 0 0) := box_cell i1 rfl
  have yg5 : w1.frozen? ⟨w.heap.size + 1, 5, none⟩ = false := box_frozen i1
  have yz0 : ((w1).setCell ⟨w.heap.size + 1, 0, none⟩ (.int .i64 0)).cell? ⟨w.heap.size + 1, 0, none⟩ = some (.int .i64 0) := World.cell?_setCell_same _ _ _ (by exact yr0)
  have yz1 : (((w1).setCell ⟨w.heap.size + 1, 0, none⟩ (.int .i64 0)).setCell ⟨w.heap.size + 1, 1, none⟩ (.int .i64 0)).cell? ⟨w.heap.size + 1, 1, none⟩ = some (.int .i64 0) := World.cell?_setCell_same _ _ _ (by rw [World.cell?_setCell_other _ _ _ _ (by simp)]; exact yr1)
  have yz2 : ((((w1).setCell ⟨w.heap.size + 1, 0, none⟩ (.int .i64 0)).setCell ⟨w.heap.size + 1, 1, none⟩ (.int .i64 0)).setCell ⟨w.heap.size + 1, 2, none⟩ (.int .i64 0)).cell? ⟨w.heap.size + 1, 2, none⟩ = some (.int .i64 0) := World.cell?_setCell_same _ _ _ (by rw [World.cell?_setCell_other _ _ _ _ (by simp), World.cell?_setCell_other _ _ _ _ (by simp)]; exact yr2)
  have yz3 : (((((w1).setCell ⟨w.heap.size + 1, 0, none⟩ (.int .i64 0)).setCell ⟨w.heap.size + 1, 1, none⟩ (.int .i64 0)).setCell ⟨w.heap.size + 1, 2, none⟩ (.int .i64 0)).setCell ⟨w.heap.size + 1, 3, none⟩ (.slice none 0 0)).cell? ⟨w.heap.size + 1, 3, none⟩ = some (.slice none 0 0) := World.cell?_setCell_same _ _ _ (by rw [World.cell?_setCell_other _ _ _ _ (by simp), World.cell?_setCell_other _ _ _ _ (by simp), World.cell?_setCell_other _ _ _ _ (by simp)]; exact yr3)
  have yz4 : ((((((w1).setCell ⟨w.heap.size + 1, 0, none⟩ (.int .i64 0)).setCell ⟨w.heap.size + 1, 1, none⟩ (.int .i64 0)).setCell ⟨w.heap.size + 1, 2, none⟩ (.int .i64 0)).setCell ⟨w.heap.size + 1, 3, none⟩ (.slice none 0 0)).setCell ⟨w.heap.size + 1, 4, none⟩ (.slice none 0 0)).cell? ⟨w.heap.size + 1, 4, none⟩ = some (.slice none 0 0) := World.cell?_setCell_same _ _ _ (by rw [World.cell?_setCell_other _ _ _ _ (by simp), World.cell?_setCell_other _ _ _ _ (by simp), World.cell?_setCell_other _ _ _ _ (by simp), World.cell?_setCell_other _ _ _ _ (by simp)]; exact yr4)
  have yz5 : (((((((w1).setCell ⟨w.heap.size + 1, 0, none⟩ (.int .i64 0)).setCell ⟨w.heap.size + 1, 1, none⟩ (.int .i64 0)).setCell ⟨w.heap.size + 1, 2, none⟩ (.int .i64 0)).setCell ⟨w.heap.size + 1, 3, none⟩ (.slice none 0 0)).setCell ⟨w.heap.size + 1, 4, none⟩ (.slice none 0 0)).setCell ⟨w.heap.size + 1, 5, none⟩ (.slice none 0 0)).cell? ⟨w.heap.size + 1, 5, none⟩ = some (.slice none 0 0) := World.cell?_setCell_same _ _ _ (by rw [World.cell?_setCell_other _ _ _ _ (by simp), World.cell?_setCell_other _ _ _ _ (by simp), World.cell?_setCell_other _ _ _ _ (by simp), World.cell?_setCell_other _ _ _ _ (by simp), World.cell?_setCell_other _ _ _ _ (by simp)]; exact yr5)
  have HB1 : Hid (Below w.heap.size w w1) := b1
  clear i1 hb1 b1
  go_wp2
  (try simp only [Exit.inBlock, Exit.then])
  refine bodyPost_ret (by simp [results, Tryz.results29, go_sem, yz0, yz1, yz2, yz3, yz4, yz5]; try rfl) rfl ?_
  exact ⟨rfl, ((((((HB1.out.setCell (p := ⟨w.heap.size + 1, 0, none⟩) (by simp <;> omega) _).setCell (p := ⟨w.heap.size + 1, 1, none⟩) (by simp <;> omega) _).setCell (p := ⟨w.heap.size + 1, 2, none⟩) (by simp <;> omega) _).setCell (p := ⟨w.heap.size + 1, 3, none⟩) (by simp <;> omega) _).setCell (p := ⟨w.heap.size + 1, 4, none⟩) (by simp <;> omega) _).setCell (p := ⟨w.heap.size + 1, 5, none⟩) (by simp <;> omega) _)⟩

set_option maxRecDepth 100000 in
set_option maxHeartbeats 16000000 in
theorem specCalm_good (cs : List Value) (d : shDisk.D) (B : Nat) (G : List Nat) (w : World) (ho : Own shDisk w B cs d G) (hs : shDisk.sz d ≤ 1048576) (hok : implOkB d = true) :
    Calls Tryz.prog 29 #[.agg cs.toArray] w fun e w' => ∃ cs', e = .returned (.tuple #[.agg cs'.toArray, .bool true]) ∧ Reads shDisk w' cs' (calmD d) ∧ Below w.heap.size w w' := by
  obtain ⟨i0, hi, hz0, hz1, hz2⟩ := info_parts Tryz.infoB
  have hp : specOkP d := (ok_same d).2 hok
  obtain ⟨a3, n3, c3, F3, a4, n4, c4, F4, a5, n5, c5, F5, rfl, _, o3, o4, o5⟩ := openO_Disk ho
  obtain ⟨x0, e0⟩ : ∃ x : Int, x = d.1 := ⟨_, rfl⟩
  obtain ⟨x1, e1⟩ : ∃ x : Int, x = d.2.1 := ⟨_, rfl⟩
  obtain ⟨x2, e2⟩ : ∃ x : Int, x = d.2.2.1 := ⟨_, rfl⟩
  obtain ⟨DL, hDL⟩ : ∃ l : List LinkD, l = dirL d.2.2.2.2.1 d.2.2.2.2.2.1 := ⟨_, rfl⟩
  obtain ⟨nd, hnd⟩ : ∃ l : List NodeD, l = d.2.2.2.1 := ⟨_, rfl⟩
  obtain ⟨hbs, hn8, hnz⟩ := body_sum hp hnd
  have hdz : Sh.sz (.sl shLink) DL ≤ 1000 := by
    have hall : List.take (α := TurnD) (List.length (α := TurnD) d.2.2.2.2.2.1) d.2.2.2.2.2.1 = d.2.2.2.2.2.1 := List.take_length
    have hn := names_disk hp (List.length (α := TurnD) d.2.2.2.2.2.1)
    rw [hall, ← hDL] at hn
    have hl := dirL_len d.2.2.2.2.1 d.2.2.2.2.2.1
    rw [← hDL] at hl
    have l4 : List.length (α := LinkD) d.2.2.2.2.1 ≤ 8 := hp.1.2.2.2.2.2.2.2.1
    have l5 : List.length (α := TurnD) d.2.2.2.2.2.1 ≤ 40 := hp.1.2.2.2.2.2.2.2.2
    have hL := bulkL_le DL hn
    have hz := bulkL_sz DL
    refine Nat.le_trans (Nat.le_of_eq hz) ?_
    omega
  have hlen : ∀ x ∈ nd, List.length (α := Int) x.2.1 ≤ 1048576 := fun x hx => node_len hs hnd hx
  have qok : Hid (∀ w', Below w.heap.size w w' → Calls Tryz.prog 40 #[.agg #[.int .i64 x0, .int .i64 x1, .int .i64 x2, .slice a3 n3 c3, .slice a4 n4 c4, .slice a5 n5 c5]] w' fun e w'' => e = .returned (.bool true) ∧ Below w'.heap.size w' w'') := fun w' h' => by
    rw [e0, e1, e2, ← hok]; exact specOkC_ok _ d w' (ho.reads.later h') hs
  have qcp : Hid (∀ w', Below w.heap.size w w' → Calls Tryz.prog 56 #[.agg #[.int .i64 x0, .int .i64 x1, .int .i64 x2, .slice a3 n3 c3, .slice a4 n4 c4, .slice a5 n5 c5]] w' fun e w'' => ∃ b3 m3 e3 b4 m4 e4 b5 m5 e5 F, e = .returned (.agg #[.int .i64 x0, .int .i64 x1, .int .i64 x2, .slice b3 m3 e3, .slice b4 m4 e4, .slice b5 m5 e5]) ∧ Own (.sl shNode) w'' w'.heap.size [.slice b3 m3 e3] nd F ∧ Below w'.heap.size w' w'') := fun w' h' => by
    rw [e0, e1, e2, hnd]
    refine (specCopy_ok _ d B G w' (ho.later h') hs).mono ?_
    rintro e w'' ⟨cs', F, rfl, ho', _, hb⟩
    obtain ⟨b3, m3, e3, G3, b4, m4, e4, G4, b5, m5, e5, G5, rfl, _, p3, p4, p5⟩ := openO_Disk ho'
    exact ⟨b3, m3, e3, b4, m4, e4, b5, m5, e5, G3, rfl, p3, hb⟩
  have qdir : Hid (∀ w', Below w.heap.size w w' → Calls Tryz.prog 9 #[.agg #[.int .i64 x0, .int .i64 x1, .int .i64 x2, .slice a3 n3 c3, .slice a4 n4 c4, .slice a5 n5 c5]] w' fun e w'' => ∃ ka kn kc FK, e = .returned (.slice ka kn kc) ∧ Own (.sl shLink) w'' w'.heap.size [.slice ka kn kc] DL FK ∧ Below w'.heap.size w' w'') := fun w' h' => by
    rw [e0, e1, e2, hDL]
    refine (specDir_yes _ d B G w' (ho.later h') hs hp).mono ?_
    rintro e w'' ⟨v, F, rfl, po, _, hb⟩
    obtain ⟨a, c, rfl, _⟩ := own_val po
    exact ⟨a, _, c, F, rfl, po, hb⟩
  have qon : Hid (∀ w' b3 m3 e3 ka kn kc P, P.map Prod.snd = nd → RowP w' b3 P → Reads (.sl shNode) w' [.slice b3 m3 e3] nd → Reads (.sl shLink) w' [.slice ka kn kc] DL → Calls Tryz.prog 73 #[.agg #[.int .i64 x0, .int .i64 x1, .int .i64 x2, .slice b3 m3 e3, .slice ka kn kc, .slice none 0 0]] w' fun e w'' => ∃ va vc, e = .returned (.agg #[.int .i64 x0, .int .i64 x1, .int .i64 x2, .slice va (keepP DL P).length vc, .slice ka kn kc, .slice none 0 0]) ∧ w''.ownsRow w'.heap.size 93 3 (.slice va (keepP DL P).length vc) (keepP DL P).length (keepC DL P) ∧ Below w'.heap.size w' w'') := fun w' b3 m3 e3 ka kn kc P hPs hPr hrn hrk => by
    have hl1 : nd.length = m3 := (reads_len hrn).1
    have hl2 : P.length = m3 := by rw [← hl1, ← hPs, List.length_map]
    have hdd : Reads shDisk w' [.int .i64 x0, .int .i64 x1, .int .i64 x2, .slice b3 m3 e3, .slice ka kn kc, .slice none 0 0] ((x0, x1, x2, nd, DL, ([] : List TurnD), ()) : shDisk.D) := reads_Disk (d := ((x0, x1, x2, nd, DL, ([] : List TurnD), ()) : shDisk.D)) hrn hrk ⟨none, 0, rfl, Nat.le_refl _, Nat.zero_le _, .inl rfl⟩
    have hsz : shDisk.sz ((x0, x1, x2, nd, DL, ([] : List TurnD), ()) : shDisk.D) ≤ 1048576 := by
      refine Nat.le_trans (Nat.le_of_eq (sz_Disk _)) ?_
      have h0 : Sh.sz (.sl shTurn) ([] : List TurnD) = 0 := rfl
      show Sh.sz (.sl shNode) nd + Sh.sz (.sl shLink) DL + Sh.sz (.sl shTurn) ([] : List TurnD) ≤ _
      omega
    have hI : idsL DL ([] : List TurnD) = idsK DL := by simp [idsL, idsK]
    exact specOnly_ok x0 x1 x2 b3 m3 e3 ka kn kc none 0 0 ((x0, x1, x2, nd, DL, ([] : List TurnD), ()) : shDisk.D) DL P w' hl2 (by omega) hPr hdd hsz hI
  have HCD : Hid (∀ v vk w' (Q : List (List Value × NodeD)), Q.map Prod.snd = keepN DL nd → Reads (.sl shNode) w' [v] (Q.map fun p => calmN p.2) → Reads (.sl shLink) w' [vk] DL → Reads shDisk w' [.int .i64 x0, .int .i64 x1, .int .i64 x2, v, vk, .slice none 0 0] (calmD d)) := fun v vk w' Q hQ h3 h4 => by
    subst hDL
    rw [e0, e1, e2]
    have hq : (Q.map fun p => calmN p.2) = (keepN (dirL d.2.2.2.2.1 d.2.2.2.2.2.1) d.2.2.2.1).map calmN := by
      rw [← hnd, ← hQ, List.map_map]; rfl
    have h3' : Reads (.sl shNode) w' [v] (List.map calmN (keepN (dirL d.2.2.2.2.1 d.2.2.2.2.2.1) d.2.2.2.1)) := Eq.mp (congrArg (fun z : List NodeD => Reads (.sl shNode) w' [v] z) hq) h3
    exact reads_Disk (d := calmD d) h3' h4 ⟨none, 0, rfl, Nat.le_refl _, Nat.zero_le _, .inl rfl⟩
  have HN8 : Hid (nd.length ≤ 8) := hn8
  have HLN : Hid (∀ x ∈ nd, List.length (α := Int) x.2.1 ≤ 1048576) := hlen
  rw [← e0, ← e1, ← e2]
  obtain ⟨W0, hW0⟩ : ∃ W0, W0 = (w.alloc (.cells #[.int .i64 x0, .int .i64 x1, .int .i64 x2, .slice a3 n3 c3, .slice a4 n4 c4, .slice a5 n5 c5] 33)).alloc (.cells #[.int .i64 0, .int .i64 0, .int .i64 0, .slice none 0 0, .slice none 0 0, .slice none 0 0] 33) := ⟨_, rfl⟩
  have bW0 : Below w.heap.size w W0 := by rw [hW0]; exact ((Below.refl _ _).alloc (Nat.le_refl _) _).alloc (by simp) _
  have hA : W0.heap[w.heap.size]? = some (.cells #[.int .i64 x0, .int .i64 x1, .int .i64 x2, .slice a3 n3 c3, .slice a4 n4 c4, .slice a5 n5 c5] 33 (0, 0)) := by rw [hW0, heap_alloc_old _ _ (by simp)]; exact heap_alloc_new w _
  have hB : W0.heap[w.heap.size + 1]? = some (.cells #[.int .i64 0, .int .i64 0, .int .i64 0, .slice none 0 0, .slice none 0 0, .slice none 0 0] 33 (0, 0)) := by rw [hW0]; have := heap_alloc_new (w.alloc (.cells #[.int .i64 x0, .int .i64 x1, .int .i64 x2, .slice a3 n3 c3, .slice a4 n4 c4, .slice a5 n5 c5] 33)) (.cells #[.int .i64 0, .int .i64 0, .int .i64 0, .slice none 0 0, .slice none 0 0, .slice none 0 0] 33); simpa using this
  have zW0 : W0.heap.size = w.heap.size + 1 + 1 := by rw [hW0]; simp
  have HW0 : Hid (W0 = _) := hW0
  have BX : Hid (∀ w', Below W0.heap.size W0 w' → w'.heap[w.heap.size]? = some (.cells #[.int .i64 x0, .int .i64 x1, .int .i64 x2, .slice a3 n3 c3, .slice a4 n4 c4, .slice a5 n5 c5] 33 (0, 0)) ∧ w'.heap[w.heap.size + 1]? = some (.cells #[.int .i64 0, .int .i64 0, .int .i64 0, .slice none 0 0, .slice none 0 0, .slice none 0 0] 33 (0, 0))) := fun w' h' => ⟨(h'.block _ (by omega)).trans hA, (h'.block _ (by omega)).trans hB⟩
  clear ho hs o3 o4 o5 e0 e1 e2 hok hp hW0 hA hB hDL hnd hbs hn8 hnz hdz hlen
  go_enter Tryz.func29, Tryz.ntmps29
  go_wp2_with fail
  rw [← HW0.out]
  refine (qok.out _ bW0).mono ?_
  rintro e w1 ⟨rfl, hb1⟩
  have b1 := bW0.trans (hb1.mono bW0.size)
  have d1 : Below W0.heap.size W0 w1 := hb1
  have i1 := (BX.out w1 d1).1
  have q0 : w1.cell? ⟨w.heap.size, 0, none⟩ = some (.int .i64 x0) := box_cell i1 rfl
  have q1 : w1.cell? ⟨w.heap.size, 1, none⟩ = some (.int .i64 x1) := box_cell i1 rfl
  have q2 : w1.cell? ⟨w.heap.size, 2, none⟩ = some (.int .i64 x2) := box_cell i1 rfl
  have q3 : w1.cell? ⟨w.heap.size, 3, none⟩ = some (.slice a3 n3 c3) := box_cell i1 rfl
  have q4 : w1.cell? ⟨w.heap.size, 4, none⟩ = some (.slice a4 n4 c4) := box_cell i1 rfl
  have q5 : w1.cell? ⟨w.heap.size, 5, none⟩ = some (.slice a5 n5 c5) := box_cell i1 rfl
  clear hb1 i1
  go_wp2_with fail
  refine (qcp.out _ b1).mono ?_
  rintro e w2 ⟨b3, m3, e3, b4, m4, e4, b5, m5, e5, FC, rfl, oC, hb2⟩
  have b2 := b1.trans (hb2.mono b1.size)
  have d2 := d1.trans (hb2.mono d1.size)
  have OC : Hid (Own (.sl shNode) w2 w1.heap.size [.slice b3 m3 e3] nd FC) := oC
  obtain ⟨w3, hw3⟩ : ∃ w3, w3 = w2.alloc (.cells #[.int .i64 x0, .int .i64 x1, .int .i64 x2, .slice b3 m3 e3, .slice b4 m4 e4, .slice b5 m5 e5] 33) := ⟨_, rfl⟩
  have b23 : Below w2.heap.size w2 w3 := by rw [hw3]; exact (Below.refl _ _).alloc (Nat.le_refl _) _
  have i3 : w3.heap[w2.heap.size]? = some (.cells #[.int .i64 x0, .int .i64 x1, .int .i64 x2, .slice b3 m3 e3, .slice b4 m4 e4, .slice b5 m5 e5] 33 (0, 0)) := by rw [hw3]; exact heap_alloc_new w2 _
  have Z3 : Hid (w3.heap.size = w2.heap.size + 1) := by show _ = _; rw [hw3]; simp
  have HW3 : Hid (w3 = _) := hw3
  have HI3 : Hid _ := i3
  have d3 := d2.trans (b23.mono d2.size)
  have b3' := bW0.trans (d3.mono bW0.size)
  have i9 := (BX.out w2 d2).1
  have zl2 : w.heap.size < w2.heap.size := by have := d2.size; omega
  have s0 : w2.cell? ⟨w.heap.size, 0, none⟩ = some (.int .i64 x0) := box_cell i9 rfl
  have s1 : w2.cell? ⟨w.heap.size, 1, none⟩ = some (.int .i64 x1) := box_cell i9 rfl
  have s2 : w2.cell? ⟨w.heap.size, 2, none⟩ = some (.int .i64 x2) := box_cell i9 rfl
  have s3 : w2.cell? ⟨w.heap.size, 3, none⟩ = some (.slice a3 n3 c3) := box_cell i9 rfl
  have s4 : w2.cell? ⟨w.heap.size, 4, none⟩ = some (.slice a4 n4 c4) := box_cell i9 rfl
  have s5 : w2.cell? ⟨w.heap.size, 5, none⟩ = some (.slice a5 n5 c5) := box_cell i9 rfl
  clear hw3 i3 oC hb2 i9 q0 q1 q2 q3 q4 q5
  go_wp2_with fail
  rw [← HW3.out]
  refine (qdir.out _ b3').mono ?_
  rintro e w4 ⟨ka, kn, kc, FK, rfl, oK, hb4⟩
  have z3 := Z3.out
  have b24 := b23.trans (hb4.mono b23.size)
  have d4 := d3.trans (hb4.mono d3.size)
  have z4 := hb4.size
  have i4 : w4.heap[w2.heap.size]? = some (.cells #[.int .i64 x0, .int .i64 x1, .int .i64 x2, .slice b3 m3 e3, .slice b4 m4 e4, .slice b5 m5 e5] 33 (0, 0)) := (hb4.block _ (by omega)).trans HI3.out
  have t0 : w4.cell? ⟨w2.heap.size, 0, none⟩ = some (.int .i64 x0) := box_cell i4 rfl
  have u0 : w4.frozen? ⟨w2.heap.size, 0, none⟩ = false := box_frozen i4
  have t1 : w4.cell? ⟨w2.heap.size, 1, none⟩ = some (.int .i64 x1) := box_cell i4 rfl
  have u1 : w4.frozen? ⟨w2.heap.size, 1, none⟩ = false := box_frozen i4
  have t2 : w4.cell? ⟨w2.heap.size, 2, none⟩ = some (.int .i64 x2) := box_cell i4 rfl
  have u2 : w4.frozen? ⟨w2.heap.size, 2, none⟩ = false := box_frozen i4
  have t3 : w4.cell? ⟨w2.heap.size, 3, none⟩ = some (.slice b3 m3 e3) := box_cell i4 rfl
  have u3 : w4.frozen? ⟨w2.heap.size, 3, none⟩ = false := box_frozen i4
  have t4 : w4.cell? ⟨w2.heap.size, 4, none⟩ = some (.slice b4 m4 e4) := box_cell i4 rfl
  have u4 : w4.frozen? ⟨w2.heap.size, 4, none⟩ = false := box_frozen i4
  have t5 : w4.cell? ⟨w2.heap.size, 5, none⟩ = some (.slice b5 m5 e5) := box_cell i4 rfl
  have u5 : w4.frozen? ⟨w2.heap.size, 5, none⟩ = false := box_frozen i4
  obtain ⟨w5, hw5⟩ : ∃ w5, w5 = (w4.setCell ⟨w2.heap.size, 4, none⟩ (.slice ka kn kc)).setCell ⟨w2.heap.size, 5, none⟩ (.slice none 0 0) := ⟨_, rfl⟩
  have i5 : w5.heap[w2.heap.size]? = some (.cells #[.int .i64 x0, .int .i64 x1, .int .i64 x2, .slice b3 m3 e3, .slice ka kn kc, .slice none 0 0] 33 (0, 0)) := by rw [hw5]; exact box_set _ (box_set _ i4)
  have z5 : w5.heap.size = w4.heap.size := by rw [hw5]; simp
  have b25 : Below w2.heap.size w2 w5 := by rw [hw5]; exact (b24.setCell (by simp) _).setCell (by simp) _
  have K5 : Own (.sl shLink) w5 w3.heap.size [.slice ka kn kc] DL FK := by rw [hw5]; exact oK.keep fun y hy => by have h1 := (oK.lt y hy).1; exact ((box_other _ (by omega)).trans (box_other _ (by omega)))
  have HFK : Hid (∀ y ∈ FK, w3.heap.size ≤ y ∧ y < w4.heap.size) := oK.lt
  have d5 := d2.trans (b25.mono d2.size)
  obtain ⟨P, hPs, hPr, hPo⟩ := rowP_own OC.out
  have qn : Hid (Calls Tryz.prog 73 #[.agg #[.int .i64 x0, .int .i64 x1, .int .i64 x2, .slice b3 m3 e3, .slice ka kn kc, .slice none 0 0]] w5 fun e w'' => ∃ va vc, e = .returned (.agg #[.int .i64 x0, .int .i64 x1, .int .i64 x2, .slice va (keepP DL P).length vc, .slice ka kn kc, .slice none 0 0]) ∧ w''.ownsRow w5.heap.size 93 3 (.slice va (keepP DL P).length vc) (keepP DL P).length (keepC DL P) ∧ Below w5.heap.size w5 w'') := by
    refine qon.out w5 b3 m3 e3 ka kn kc P hPs (fun k hk' => ?_) (OC.out.later b25).reads K5.reads
    obtain ⟨b, off, p1, m1, k1, p2, m2, k2, ha, hb, hc, c0, c1, c2⟩ := hPr k hk'
    exact ⟨b, off, p1, m1, k1, p2, m2, k2, ha, Nat.lt_of_lt_of_le hb b25.size, hc, (b25.cell hb).trans c0, (b25.cell hb).trans c1, (b25.cell hb).trans c2⟩
  obtain ⟨Q, hQ⟩ : ∃ Q, Q = keepP DL P := ⟨_, rfl⟩
  obtain ⟨M, hM⟩ : ∃ M, M = (keepP DL P).length := ⟨_, rfl⟩
  have hQC : keepC DL P = (Q.map Prod.fst).flatten := by rw [hQ]; rfl
  rw [← hM, hQC] at qn
  have HQ : Hid (Q.length = M ∧ Q.map Prod.snd = keepN DL nd ∧ ∀ p ∈ Q, (∃ f, Own shNode w2 w1.heap.size p.1 p.2 f) ∧ List.length (α := Int) p.2.2.1 ≤ 1048576) := by
    refine ⟨by rw [hQ, hM], by rw [hQ, keepP_snd, hPs], fun p hp => ?_⟩
    rw [hQ] at hp
    have hpP : p ∈ P := (List.mem_filter.1 hp).1
    exact ⟨hPo p hpP, HLN.out p.2 (by rw [← hPs]; exact List.mem_map.2 ⟨p, hpP, rfl⟩)⟩
  have hM8 : M ≤ 1048576 := by
    have h1 := keepP_len DL P
    have h2 : P.length = m3 := by
      have h3 : nd.length = m3 := (reads_len OC.out.reads).1
      rw [← h3, ← hPs, List.length_map]
    have h4 := (reads_len OC.out.reads).2
    have h3 : nd.length = m3 := (reads_len OC.out.reads).1
    have := HN8.out
    omega
  have HW5 : Hid (w5 = _) := hw5
  have HI5 : Hid _ := i5
  have HK5 : Hid (Own (.sl shLink) w5 w3.heap.size [.slice ka kn kc] DL FK) := K5
  clear hw5 i5 K5 oK hPs hPr hPo hQ hM hQC i4 s0 s1 s2 s3 s4 s5 hb4
  go_wp2_with fail
  rw [← HW5.out]
  refine qn.out.mono ?_
  rintro e w6 ⟨va, vc, rfl, ho6, hb6⟩
  have z6 := hb6.size
  have i6 : w6.heap[w2.heap.size]? = some (.cells #[.int .i64 x0, .int .i64 x1, .int .i64 x2, .slice b3 m3 e3, .slice ka kn kc, .slice none 0 0] 33 (0, 0)) := (hb6.block _ (by omega)).trans HI5.out
  have d6 := d5.trans (hb6.mono d5.size)
  have v0 : w6.cell? ⟨w2.heap.size, 0, none⟩ = some (.int .i64 x0) := box_cell i6 rfl
  have r0 : w6.frozen? ⟨w2.heap.size, 0, none⟩ = false := box_frozen i6
  have v1 : w6.cell? ⟨w2.heap.size, 1, none⟩ = some (.int .i64 x1) := box_cell i6 rfl
  have r1 : w6.frozen? ⟨w2.heap.size, 1, none⟩ = false := box_frozen i6
  have v2 : w6.cell? ⟨w2.heap.size, 2, none⟩ = some (.int .i64 x2) := box_cell i6 rfl
  have r2 : w6.frozen? ⟨w2.heap.size, 2, none⟩ = false := box_frozen i6
  have v3 : w6.cell? ⟨w2.heap.size, 3, none⟩ = some (.slice b3 m3 e3) := box_cell i6 rfl
  have r3 : w6.frozen? ⟨w2.heap.size, 3, none⟩ = false := box_frozen i6
  have v4 : w6.cell? ⟨w2.heap.size, 4, none⟩ = some (.slice ka kn kc) := box_cell i6 rfl
  have r4 : w6.frozen? ⟨w2.heap.size, 4, none⟩ = false := box_frozen i6
  have v5 : w6.cell? ⟨w2.heap.size, 5, none⟩ = some (.slice none 0 0) := box_cell i6 rfl
  have r5 : w6.frozen? ⟨w2.heap.size, 5, none⟩ = false := box_frozen i6
  obtain ⟨w7, hw7⟩ : ∃ w7, w7 = ((((((w6).setCell ⟨w2.heap.size, 0, none⟩ (.int .i64 x0)).setCell ⟨w2.heap.size, 1, none⟩ (.int .i64 x1)).setCell ⟨w2.heap.size, 2, none⟩ (.int .i64 x2)).setCell ⟨w2.heap.size, 3, none⟩ (.slice va M vc)).setCell ⟨w2.heap.size, 4, none⟩ (.slice ka kn kc)).setCell ⟨w2.heap.size, 5, none⟩ (.slice none 0 0) := ⟨_, rfl⟩
  have i7 : w7.heap[w2.heap.size]? = some (.cells #[.int .i64 x0, .int .i64 x1, .int .i64 x2, .slice va M vc, .slice ka kn kc, .slice none 0 0] 33 (0, 0)) := by rw [hw7]; exact box_set _ (box_set _ (box_set _ (box_set _ (box_set _ (box_set _ i6)))))
  have z7 : w7.heap.size = w6.heap.size := by rw [hw7]; simp
  have b27 : Below w2.heap.size w2 w7 := by rw [hw7]; exact (((((((b25.trans (hb6.mono b25.size)).setCell (p := ⟨w2.heap.size, 0, none⟩) (by simp) _).setCell (p := ⟨w2.heap.size, 1, none⟩) (by simp) _).setCell (p := ⟨w2.heap.size, 2, none⟩) (by simp) _).setCell (p := ⟨w2.heap.size, 3, none⟩) (by simp) _).setCell (p := ⟨w2.heap.size, 4, none⟩) (by simp) _).setCell (p := ⟨w2.heap.size, 5, none⟩) (by simp) _)
  have K7 : Own (.sl shLink) w7 w3.heap.size [.slice ka kn kc] DL FK := by rw [hw7]; exact (HK5.out.later hb6).keep fun y hy => by have h1 := (HFK.out y hy).1; have z3 := Z3.out; exact ((box_other _ (by omega)).trans ((box_other _ (by omega)).trans ((box_other _ (by omega)).trans ((box_other _ (by omega)).trans ((box_other _ (by omega)).trans (box_other _ (by omega)))))))
  have o7 : w7.ownsRow w5.heap.size 93 3 (.slice va M vc) M (Q.map Prod.fst).flatten := by rw [hw7]; exact own_keepB ho6 fun y hy => by have h1 := (ho6.lt y hy).1; exact ((box_other _ (by omega)).trans ((box_other _ (by omega)).trans ((box_other _ (by omega)).trans ((box_other _ (by omega)).trans ((box_other _ (by omega)).trans (box_other _ (by omega)))))))
  have HRB : Hid (∀ y, (Value.slice va M vc).ownBlock = some y → w5.heap.size ≤ y ∧ y < w6.heap.size) := ho6.lt
  have d7 := d2.trans (b27.mono d2.size)
  have b7 := bW0.trans (d7.mono bW0.size)
  have hr7 := (BX.out w7 d7).2
  have hlen3 : ∀ x ∈ Q.map Prod.fst, x.length = 3 := fun x hx => by
    obtain ⟨p, hp, rfl⟩ := List.mem_map.1 hx
    obtain ⟨f, hf⟩ := (HQ.out.2.2 p hp).1
    exact hf.length
  have A7 : CalmR w7 w2 w1.heap.size w5.heap.size w6.heap.size (.slice va M vc) M 0 (Q.map Prod.fst) Q := ⟨o7, hlen3, by rw [List.length_map]; exact HQ.out.1, fun i c p hi => absurd hi (Nat.not_lt_zero _), fun i _ => rfl⟩
  have c73 : w7.cell? ⟨w2.heap.size, 3, none⟩ = some (.slice va M vc) := box_cell i7 rfl
  have HW7 : Hid (w7 = _) := hw7
  have HR7 : Hid (_ ∧ _ ∧ _ ∧ _) := ⟨A7, hr7, i7, K7⟩
  have HB27 : Hid (Below w2.heap.size w2 w7) := b27
  clear hw7 i7 A7 hr7 K7 o7 hlen3 ho6 hb6 i6 qn
  go_wp2
  rw [← HW7.out]
  go_loopw [22] (fun i wr => ∃ (k : Nat) (Cs : List (List Value)), k ≤ M ∧ i = .int .i64 k ∧ CalmR wr w2 w1.heap.size w5.heap.size w6.heap.size (.slice va M vc) M k Cs Q ∧ wr.heap[w.heap.size + 1]? = some (.cells #[.int .i64 0, .int .i64 0, .int .i64 0, .slice none 0 0, .slice none 0 0, .slice none 0 0] 33 (0, 0)) ∧ wr.heap[w2.heap.size]? = some (.cells #[.int .i64 x0, .int .i64 x1, .int .i64 x2, .slice va M vc, .slice ka kn kc, .slice none 0 0] 33 (0, 0)) ∧ Own (.sl shLink) wr w3.heap.size [.slice ka kn kc] DL FK ∧ w6.heap.size ≤ wr.heap.size ∧ Below w2.heap.size w2 wr ∧ Below w.heap.size w wr) (fun i _ => M - (intOf i).toNat)
  case atStart => exact ⟨0, _, Nat.zero_le _, rfl, HR7.out.1, HR7.out.2.1, HR7.out.2.2.1, HR7.out.2.2.2, by omega, HB27.out, b7⟩
  case round =>
    obtain ⟨k, Cs, hkM, rfl, hA, iR, iO, hK, hsz, hb2r, hbel⟩ := hrel
    have hbs := hbel.size
    have z3 := Z3.out
    have zd2 := d2.size
    by_cases hlt : k < M
    · obtain ⟨g, rfl⟩ : ∃ g, va = some ⟨g, 0, none⟩ := by
        rcases hA.row.2 with ⟨h1, h2⟩ | ⟨g, cap, cur, hv, _⟩
        · omega
        · simp only [Value.slice.injEq] at hv
          exact ⟨g, hv.1⟩
      have hg := HRB.out g rfl
      have hkQ : k < Q.length := by rw [HQ.out.1]; exact hlt
      obtain ⟨p, hp⟩ : ∃ p, p = Q[k] := ⟨_, rfl⟩
      have hpm : p ∈ Q := by rw [hp]; exact List.getElem_mem hkQ
      have HQk : Hid (Q[k]? = some p) := by show _ = _; rw [hp]; exact List.getElem?_eq_getElem hkQ
      obtain ⟨⟨f0, hof⟩, hzl⟩ := HQ.out.2.2 p hpm
      obtain ⟨p1, m1, k1, F1, p2, m2, k2, F2, hpc, _, ob, osf⟩ := openO_Node hof
      have hCk : Cs[k]? = some p.1 := by rw [hA.old k (Nat.le_refl _), List.getElem?_map, List.getElem?_eq_getElem hkQ, ← hp]; rfl
      rw [hpc] at hCk
      obtain ⟨y, hy⟩ : ∃ y, y = p.2.1 := ⟨_, rfl⟩
      obtain ⟨zb, hzb⟩ : ∃ z : List Int, z = p.2.2.1 := ⟨_, rfl⟩
      obtain ⟨zn, hzn⟩ : ∃ z, z = zb.length := ⟨_, rfl⟩
      rw [← hy] at hCk
      have hzn2 : zn ≤ 1048576 := by rw [hzn, hzb]; exact hzl
      have OB : Hid (Own (.sl .u8) w2 w1.heap.size [.slice p1 m1 k1] zb F1) := by rw [hzb]; exact ob
      have HY : Hid (y = p.2.1 ∧ zb = p.2.2.1 ∧ zn = zb.length) := ⟨hy, hzb, hzn⟩
      have g0 : wr.cell? ⟨g, k * 3, none⟩ = some (.int .i64 y) := (row_cells hA.row hA.len3 hCk hA.lenC 0 (by decide)).1
      have g1 : wr.cell? ⟨g, k * 3 + 1, none⟩ = some (.slice p1 m1 k1) := (row_cells hA.row hA.len3 hCk hA.lenC 1 (by decide)).1
      have g2 : wr.cell? ⟨g, k * 3 + 2, none⟩ = some (.slice p2 m2 k2) := (row_cells hA.row hA.len3 hCk hA.lenC 2 (by decide)).1
      have HCk : Hid (Cs[k]? = some [.int .i64 y, .slice p1 m1 k1, .slice p2 m2 k2]) := hCk
      have hkn : (k : Int) < (M : Int) := by omega
      obtain ⟨wN, hwN⟩ : ∃ wN, wN = wr.alloc (.cells #[.int .i64 y, .slice p1 m1 k1, .slice p2 m2 k2] 93) := ⟨_, rfl⟩
      have bN : Below wr.heap.size wr wN := by rw [hwN]; exact (Below.refl _ _).alloc (Nat.le_refl _) _
      have hnb : wN.heap[wr.heap.size]? = some (.cells #[.int .i64 y, .slice p1 m1 k1, .slice p2 m2 k2] 93 (0, 0)) := by rw [hwN]; exact heap_alloc_new wr _
      have ZN : Hid (wN.heap.size = wr.heap.size + 1) := by show _ = _; rw [hwN]; simp
      have HWN : Hid (wN = _) := hwN
      have BS : Hid (∀ w' : World, w'.heap[w2.heap.size]? = some (.cells #[.int .i64 x0, .int .i64 x1, .int .i64 x2, .slice (some ⟨g, 0, none⟩) M vc, .slice ka kn kc, .slice none 0 0] 33 (0, 0)) → w'.heap[wr.heap.size]? = some (.cells #[.int .i64 y, .slice p1 m1 k1, .slice p2 m2 k2] 93 (0, 0)) → w'.cell? ⟨w2.heap.size, 3, none⟩ = some (.slice (some ⟨g, 0, none⟩) M vc) ∧ w'.cell? ⟨wr.heap.size, 0, none⟩ = some (.int .i64 y) ∧ w'.cell? ⟨wr.heap.size, 1, none⟩ = some (.slice p1 m1 k1)) := fun w' h1 h2 => ⟨box_cell h1 rfl, box_cell h2 rfl, box_cell h2 rfl⟩
      have BW : Hid (∀ w', Below wN.heap.size wN w' → w'.heap[w2.heap.size]? = some (.cells #[.int .i64 x0, .int .i64 x1, .int .i64 x2, .slice (some ⟨g, 0, none⟩) M vc, .slice ka kn kc, .slice none 0 0] 33 (0, 0)) ∧ w'.heap[wr.heap.size]? = some (.cells #[.int .i64 y, .slice p1 m1 k1, .slice p2 m2 k2] 93 (0, 0)) ∧ w'.heap[w.heap.size + 1]? = some (.cells #[.int .i64 0, .int .i64 0, .int .i64 0, .slice none 0 0, .slice none 0 0, .slice none 0 0] 33 (0, 0))) := fun w' h' => by
        have zN := ZN.out
        exact ⟨(h'.block _ (by omega)).trans ((bN.block _ (by omega)).trans iO), (h'.block _ (by omega)).trans hnb, (h'.block _ (by omega)).trans ((bN.block _ (by omega)).trans iR)⟩
      have HAN : Hid (CalmR wr w2 w1.heap.size w5.heap.size w6.heap.size (.slice (some ⟨g, 0, none⟩) M vc) M k Cs Q) := hA
      have HKK : Hid (Own (.sl shLink) wr w3.heap.size [.slice ka kn kc] DL FK) := hK
      have bDN : Below wN.heap.size wN wN.drew := (Below.refl _ _).drew
      obtain ⟨s0, s1, s2⟩ := BS.out wN (BW.out wN (Below.refl _ _)).1 (BW.out wN (Below.refl _ _)).2.1
      clear hwN hnb hCk hpc hA iR iO hK hy hzb hzn hp hpm hof ob osf hzl
      go_wp2_with fail
      rw [← HWN.out]
      refine wp_region_held_drew (S := fun w' => w'.cell? ⟨w2.heap.size, 3, none⟩ = some (.slice (some ⟨g, 0, none⟩) M vc) ∧ w'.cell? ⟨wr.heap.size, 0, none⟩ = some (.int .i64 y) ∧ w'.cell? ⟨wr.heap.size, 1, none⟩ = some (.slice p1 m1 k1)) (by kernel_rfl) (BS.out _ (BW.out _ bDN).1 (BW.out _ bDN).2.1) (fun hHeld => ?_)
      refine wpAnyH_take (i := 0) (v := .pointer (some ⟨w2.heap.size, 3, none⟩)) rfl (by kernel_rfl) (by kernel_rfl) (by kernel_rfl) (fun _ _ _ h => h) (Or.inl ⟨by kernel_rfl, ?_⟩) (by assumption) ?_
      · intro w9 hSw; (try dsimp only at hSw); go_simp
      simp only [Act.put, List.getElem_toArray, List.getElem_cons_succ, List.getElem_cons_zero, List.setIfInBounds_toArray, List.set_cons_zero, List.set_cons_succ]
      refine wpAnyH_take (i := 1) (v := .slice (some ⟨g, 0, none⟩) M vc) rfl (by kernel_rfl) (by kernel_rfl) (by kernel_rfl) (fun _ _ _ h => h) (Or.inl ⟨by kernel_rfl, ?_⟩) (by assumption) ?_
      · intro w9 hSw; (try dsimp only at hSw); go_simp
      simp only [Act.put, List.getElem_toArray, List.getElem_cons_succ, List.getElem_cons_zero, List.setIfInBounds_toArray, List.set_cons_zero, List.set_cons_succ]
      refine wpAnyH_take (i := 2) (v := .int .i64 (k : Int)) rfl (by kernel_rfl) (by kernel_rfl) (by kernel_rfl) (fun _ _ _ h => h) (Or.inl ⟨by kernel_rfl, ?_⟩) (by assumption) ?_
      · intro w9 hSw; (try dsimp only at hSw); go_simp
      simp only [Act.put, List.getElem_toArray, List.getElem_cons_succ, List.getElem_cons_zero, List.setIfInBounds_toArray, List.set_cons_zero, List.set_cons_succ]
      refine wpAnyH_take (i := 3) (v := .pointer (some ⟨wr.heap.size, 0, none⟩)) rfl (by kernel_rfl) (by kernel_rfl) (by kernel_rfl) (fun _ _ _ h => h) (Or.inl ⟨by kernel_rfl, ?_⟩) (by assumption) ?_
      · intro w9 hSw; (try dsimp only at hSw); go_simp
      simp only [Act.put, List.getElem_toArray, List.getElem_cons_succ, List.getElem_cons_zero, List.setIfInBounds_toArray, List.set_cons_zero, List.set_cons_succ]
      refine wpAnyH_take (i := 4) (v := .int .i64 y) rfl (by kernel_rfl) (by kernel_rfl) (by kernel_rfl) (fun _ _ _ h => h) (Or.inl ⟨by kernel_rfl, ?_⟩) (by assumption) ?_
      · intro w9 hSw; (try dsimp only at hSw); go_simp
      simp only [Act.put, List.getElem_toArray, List.getElem_cons_succ, List.getElem_cons_zero, List.setIfInBounds_toArray, List.set_cons_zero, List.set_cons_succ]
      refine wpAnyH_take (i := 5) (v := .pointer (some ⟨wr.heap.size, 1, none⟩)) rfl (by kernel_rfl) (by kernel_rfl) (by kernel_rfl) (fun _ _ _ h => h) (Or.inl ⟨by kernel_rfl, ?_⟩) (by assumption) ?_
      · intro w9 hSw; (try dsimp only at hSw); go_simp
      simp only [Act.put, List.getElem_toArray, List.getElem_cons_succ, List.getElem_cons_zero, List.setIfInBounds_toArray, List.set_cons_zero, List.set_cons_succ]
      refine wpAnyH_take (i := 6) (v := .slice p1 m1 k1) rfl (by kernel_rfl) (by kernel_rfl) (by kernel_rfl) (fun _ _ _ h => h) (Or.inl ⟨by kernel_rfl, ?_⟩) (by assumption) ?_
      · intro w9 hSw; (try dsimp only at hSw); go_simp
      simp only [Act.put, List.getElem_toArray, List.getElem_cons_succ, List.getElem_cons_zero, List.setIfInBounds_toArray, List.set_cons_zero, List.set_cons_succ]
      refine wpAnyH_take (i := 8) (v := .pointer (some ⟨wr.heap.size, 1, none⟩)) rfl (by kernel_rfl) (by kernel_rfl) (by kernel_rfl) (fun _ _ _ h => h) (Or.inl ⟨by kernel_rfl, ?_⟩) (by assumption) ?_
      · intro w9 hSw; (try dsimp only at hSw); go_simp
      simp only [Act.put, List.getElem_toArray, List.getElem_cons_succ, List.getElem_cons_zero, List.setIfInBounds_toArray, List.set_cons_zero, List.set_cons_succ]
      refine wpAnyH_take (i := 9) (v := .slice p1 m1 k1) rfl (by kernel_rfl) (by kernel_rfl) (by kernel_rfl) (fun _ _ _ h => h) (Or.inl ⟨by kernel_rfl, ?_⟩) (by assumption) ?_
      · intro w9 hSw; (try dsimp only at hSw); go_simp
      simp only [Act.put, List.getElem_toArray, List.getElem_cons_succ, List.getElem_cons_zero, List.setIfInBounds_toArray, List.set_cons_zero, List.set_cons_succ]
      refine wpAnyH_ready (rs := [7]) (by kernel_rfl) (by simp) ?_
      refine AllReadyH.cons rfl (fun K hK => ?_) AllReadyH.nil
      go_simp
      rw [← World.alloc_drew]
      obtain ⟨wE, hwE⟩ : ∃ wE, wE = wN.drew.alloc (.cells #[] 5) := ⟨_, rfl⟩
      have dE : Below wN.heap.size wN wE := by rw [hwE]; exact bDN.alloc bDN.size _
      have oE : wE.ownsRow wN.heap.size 5 1 (.slice (some ⟨wN.heap.size, 0, none⟩) 0 0) 0 [] := by rw [hwE]; exact World.ownsRow_lit (base := wN.heap.size) (e := 5) (size := 1) wN.drew #[] 0 (Nat.le_refl _) (Nat.zero_le _) rfl
      have zE : wN.heap.size < wE.heap.size := (oE.lt _ rfl).2
      rw [← hwE]
      clear hwE
      refine hK.out _ _ (BS.out wE (BW.out wE dE).1 (BW.out wE dE).2.1) (fun hHeld7 => ?_)
      clear hK
      refine wpAnyH_ready (rs := [10]) (by kernel_rfl) (by simp) ?_
      refine AllReadyH.cons rfl (fun K hK => ?_) AllReadyH.nil
      refine step_append_src (by rfl) _ _ 40 (by rfl) wN.heap.size 5 i0 (.int .u8 0) 1 1 Tryz.underlying40 hi hz0 hz1 hz2 rfl (by decide) (.slice (some ⟨wN.heap.size, 0, none⟩) 0 0) 0 [] (by rfl) oE (.slice p1 m1 k1) zn (zb.map (Value.int .u8)) (by rfl) (by rw [List.length_map, ← HY.out.2.2]; omega) (by have h9 := src_bytes (OB.out.later (hb2r.trans ((bN.trans (dE.mono bN.size)).mono hb2r.size))); rw [← HY.out.2.2] at h9; exact h9) (bytes_one _) (by unfold maxLen; omega) (by omega) dE.size ?_
      intro vS' wS oS grS
      obtain ⟨sa, sc, rfl⟩ : ∃ a c, vS' = .slice a zn c := by
        rcases oS.2 with ⟨h1, h2⟩ | ⟨q, cap, cur, hv, _⟩
        · exact ⟨none, 0, by rw [h1]; congr 1; omega⟩
        · exact ⟨_, _, by rw [hv]; congr 1; omega⟩
      have dS : Below wN.heap.size wN wS := dE.grown grS dE.size (fun q h => by simp [Value.ownBlock] at h; omega)
      have brS := bN.trans (dS.mono bN.size)
      have OS : Hid (∃ f, Own (.sl .u8) wS w6.heap.size [.slice sa zn sc] zb f) := by
        have h8 : wS.ownsRow wN.heap.size 5 1 (.slice sa zn sc) zn (zb.map (Value.int .u8)) := by simpa using oS
        obtain ⟨f, hf, _⟩ := own_row HY.out.2.2.symm (reads_bytes OB.out.reads).2.1.1 h8
        exact ⟨f, hf.base (by have := ZN.out; omega)⟩
      have AS := HAN.out.later brS
      have rc0 := row_cells AS.row AS.len3 HCk.out AS.lenC 0 (by decide)
      have rc1 := row_cells AS.row AS.len3 HCk.out AS.lenC 1 (by decide)
      have rc2 := row_cells AS.row AS.len3 HCk.out AS.lenC 2 (by decide)
      have e0 : wS.cell? ⟨g, k * 3, none⟩ = some (.int .i64 y) := rc0.1
      have f0' : wS.frozen? ⟨g, k * 3, none⟩ = false := rc0.2
      have e1 : wS.cell? ⟨g, k * 3 + 1, none⟩ = some (.slice p1 m1 k1) := rc1.1
      have f1' : wS.frozen? ⟨g, k * 3 + 1, none⟩ = false := rc1.2
      have e2 : wS.cell? ⟨g, k * 3 + 2, none⟩ = some (.slice p2 m2 k2) := rc2.1
      have f2' : wS.frozen? ⟨g, k * 3 + 2, none⟩ = false := rc2.2
      have HA8 : Hid (CalmR (((wS.setCell ⟨g, k * 3, none⟩ (.int .i64 y)).setCell ⟨g, k * 3 + 1, none⟩ (.slice p1 m1 k1)).setCell ⟨g, k * 3 + 2, none⟩ (.slice sa zn sc)) w2 w1.heap.size w5.heap.size w6.heap.size (.slice (some ⟨g, 0, none⟩) M vc) M (k + 1) (Cs.set k [.int .i64 y, .slice p1 m1 k1, .slice sa zn sc]) Q) := by
        obtain ⟨f, hf⟩ := OS.out
        have h8 := AS.step hlt hg.2 HQk.out (a1 := p1) (n1 := m1) (c1 := k1) (v2 := .slice sa zn sc) (f := f) (by rw [← HY.out.2.1]; exact OB.out) (by rw [← HY.out.2.1]; exact hf)
        rw [← HY.out.1] at h8
        exact h8
      have HK8 : Hid (Own (.sl shLink) (((wS.setCell ⟨g, k * 3, none⟩ (.int .i64 y)).setCell ⟨g, k * 3 + 1, none⟩ (.slice p1 m1 k1)).setCell ⟨g, k * 3 + 2, none⟩ (.slice sa zn sc)) w3.heap.size [.slice ka kn kc] DL FK) := (HKK.out.later brS).keep fun q hq => by have h1 := (HFK.out q hq).2; exact (box_other _ (by omega)).trans ((box_other _ (by omega)).trans (box_other _ (by omega)))
      have HB8 : Hid (Below w.heap.size w (((wS.setCell ⟨g, k * 3, none⟩ (.int .i64 y)).setCell ⟨g, k * 3 + 1, none⟩ (.slice p1 m1 k1)).setCell ⟨g, k * 3 + 2, none⟩ (.slice sa zn sc)) ∧ Below w2.heap.size w2 (((wS.setCell ⟨g, k * 3, none⟩ (.int .i64 y)).setCell ⟨g, k * 3 + 1, none⟩ (.slice p1 m1 k1)).setCell ⟨g, k * 3 + 2, none⟩ (.slice sa zn sc))) := ⟨(((hbel.trans (brS.mono hbs)).setCell (p := ⟨g, k * 3, none⟩) (by simp; omega) _).setCell (p := ⟨g, k * 3 + 1, none⟩) (by simp; omega) _).setCell (p := ⟨g, k * 3 + 2, none⟩) (by simp; omega) _, (((hb2r.trans (brS.mono hb2r.size)).setCell (p := ⟨g, k * 3, none⟩) (by simp; omega) _).setCell (p := ⟨g, k * 3 + 1, none⟩) (by simp; omega) _).setCell (p := ⟨g, k * 3 + 2, none⟩) (by simp; omega) _⟩
      have HZ8 : Hid (∀ q, q ≠ g → (((wS.setCell ⟨g, k * 3, none⟩ (.int .i64 y)).setCell ⟨g, k * 3 + 1, none⟩ (.slice p1 m1 k1)).setCell ⟨g, k * 3 + 2, none⟩ (.slice sa zn sc)).heap[q]? = wS.heap[q]?) := fun q hq => (box_other _ hq).trans ((box_other _ hq).trans (box_other _ hq))
      have HWS : Hid _ := BW.out wS dS
      have zrS := brS.size
      clear AS rc0 rc1 rc2 oS grS g0 g1 g2
      simp only [Act.put, List.setIfInBounds_toArray, List.set_cons_zero, List.set_cons_succ]
      refine hK.out _ _ (BS.out wS HWS.out.1 HWS.out.2.1) (fun hHeld10 => ?_)
      clear hK
      refine wpAnyH_take (i := 11) (v := .agg #[.int .i64 y, .slice p1 m1 k1, .slice sa zn sc]) rfl (by kernel_rfl) (by kernel_rfl) (by kernel_rfl) (fun _ _ _ h => h) (Or.inl ⟨by kernel_rfl, ?_⟩) (by assumption) ?_
      · intro w9 hSw; (try dsimp only at hSw); go_simp
      simp only [Act.put, List.getElem_toArray, List.getElem_cons_succ, List.getElem_cons_zero, List.setIfInBounds_toArray, List.set_cons_zero, List.set_cons_succ]
      refine wpAnyH_take (i := 12) (v := .pointer (some ⟨g, k * 3, none⟩)) rfl (by kernel_rfl) (by kernel_rfl) (by kernel_rfl) (fun _ _ _ h => h) (Or.inl ⟨by kernel_rfl, ?_⟩) (by assumption) ?_
      · intro w9 hSw; (try dsimp only at hSw); go_simp
      simp only [Act.put, List.getElem_toArray, List.getElem_cons_succ, List.getElem_cons_zero, List.setIfInBounds_toArray, List.set_cons_zero, List.set_cons_succ]
      refine wpAnyH_ready (rs := [13]) (by kernel_rfl) (by simp) ?_
      refine AllReadyH.cons rfl (fun K hK => ?_) AllReadyH.nil
      go_simp
      refine hK.out _ _ (BS.out _ ((HZ8.out _ (by omega)).trans HWS.out.1) ((HZ8.out _ (by omega)).trans HWS.out.2.1)) (fun hHeld13 => ?_)
      clear hK
      refine wpAnyH_done (by kernel_rfl) ?_ _
      have i8R : (((wS.setCell ⟨g, k * 3, none⟩ (.int .i64 y)).setCell ⟨g, k * 3 + 1, none⟩ (.slice p1 m1 k1)).setCell ⟨g, k * 3 + 2, none⟩ (.slice sa zn sc)).heap[w.heap.size + 1]? = _ := (HZ8.out _ (by omega)).trans HWS.out.2.2
      have i8O : (((wS.setCell ⟨g, k * 3, none⟩ (.int .i64 y)).setCell ⟨g, k * 3 + 1, none⟩ (.slice p1 m1 k1)).setCell ⟨g, k * 3 + 2, none⟩ (.slice sa zn sc)).heap[w2.heap.size]? = _ := (HZ8.out _ (by omega)).trans HWS.out.1
      have z8 : w6.heap.size ≤ (((wS.setCell ⟨g, k * 3, none⟩ (.int .i64 y)).setCell ⟨g, k * 3 + 1, none⟩ (.slice p1 m1 k1)).setCell ⟨g, k * 3 + 2, none⟩ (.slice sa zn sc)).heap.size := by simp; omega
      have HR8 : Hid (_ ∧ _ ∧ _) := ⟨i8R, i8O, z8⟩
      clear i8R i8O z8 e0 f0' e1 f1' e2 f2'
      go_wp2
      go_roundw
      case rel => exact ⟨k + 1, _, by omega, by go_num, HA8.out, HR8.out.1, HR8.out.2.1, HK8.out, HR8.out.2.2, HB8.out.2, HB8.out.1⟩
      case measure => simp [intOf]; omega
    · have e : k = M := by omega
      subst e
      have zd1 := d1.size
      have yc0 : wr.cell? ⟨w2.heap.size, 0, none⟩ = some (.int .i64 x0) := box_cell iO rfl
      have yr0 : wr.cell? ⟨w.heap.size + 1, 0, none⟩ = some (.int .i64 0) := box_cell iR rfl
      have yg0 : wr.frozen? ⟨w.heap.size + 1, 0, none⟩ = false := box_frozen iR
      have yc1 : wr.cell? ⟨w2.heap.size, 1, none⟩ = some (.int .i64 x1) := box_cell iO rfl
      have yr1 : wr.cell? ⟨w.heap.size + 1, 1, none⟩ = some (.int .i64 0) := box_cell iR rfl
      have yg1 : wr.frozen? ⟨w.heap.size + 1, 1, none⟩ = false := box_frozen iR
      have yc2 : wr.cell? ⟨w2.heap.size, 2, none⟩ = some (.int .i64 x2) := box_cell iO rfl
      have yr2 : wr.cell? ⟨w.heap.size + 1, 2, none⟩ = some (.int .i64 0) := box_cell iR rfl
      have yg2 : wr.frozen? ⟨w.heap.size + 1, 2, none⟩ = false := box_frozen iR
      have yc3 : wr.cell? ⟨w2.heap.size, 3, none⟩ = some (.slice va k vc) := box_cell iO rfl
      have yr3 : wr.cell? ⟨w.heap.size + 1, 3, none⟩ = some (.slice none 0 0) := box_cell iR rfl
      have yg3 : wr.frozen? ⟨w.heap.size + 1, 3, none⟩ = false := box_frozen iR
      have yc4 : wr.cell? ⟨w2.heap.size, 4, none⟩ = some (.slice ka kn kc) := box_cell iO rfl
      have yr4 : wr.cell? ⟨w.heap.size + 1, 4, none⟩ = some (.slice none 0 0) := box_cell iR rfl
      have yg4 : wr.frozen? ⟨w.heap.size + 1, 4, none⟩ = false := box_frozen iR
      have yc5 : wr.cell? ⟨w2.heap.size, 5, none⟩ = some (.slice none 0 0) := box_cell iO rfl
      have yr5 : wr.cell? ⟨w.heap.size + 1, 5, none⟩ = some (.slice none 0 0) := box_cell iR rfl
      have yg5 : wr.frozen? ⟨w.heap.size + 1, 5, none⟩ = false := box_frozen iR
      have yz0 : ((wr).setCell ⟨w.heap.size + 1, 0, none⟩ (.int .i64 x0)).cell? ⟨w.heap.size + 1, 0, none⟩ = some (.int .i64 x0) := World.cell?_setCell_same _ _ _ (by exact yr0)
      have yz1 : (((wr).setCell ⟨w.heap.size + 1, 0, none⟩ (.int .i64 x0)).setCell ⟨w.heap.size + 1, 1, none⟩ (.int .i64 x1)).cell? ⟨w.heap.size + 1, 1, none⟩ = some (.int .i64 x1) := World.cell?_setCell_same _ _ _ (by rw [World.cell?_setCell_other _ _ _ _ (by simp)]; exact yr1)
      have yz2 : ((((wr).setCell ⟨w.heap.size + 1, 0, none⟩ (.int .i64 x0)).setCell ⟨w.heap.size + 1, 1, none⟩ (.int .i64 x1)).setCell ⟨w.heap.size + 1, 2, none⟩ (.int .i64 x2)).cell? ⟨w.heap.size + 1, 2, none⟩ = some (.int .i64 x2) := World.cell?_setCell_same _ _ _ (by rw [World.cell?_setCell_other _ _ _ _ (by simp), World.cell?_setCell_other _ _ _ _ (by simp)]; exact yr2)
      have yz3 : (((((wr).setCell ⟨w.heap.size + 1, 0, none⟩ (.int .i64 x0)).setCell ⟨w.heap.size + 1, 1, none⟩ (.int .i64 x1)).setCell ⟨w.heap.size + 1, 2, none⟩ (.int .i64 x2)).setCell ⟨w.heap.size + 1, 3, none⟩ (.slice va k vc)).cell? ⟨w.heap.size + 1, 3, none⟩ = some (.slice va k vc) := World.cell?_setCell_same _ _ _ (by rw [World.cell?_setCell_other _ _ _ _ (by simp), World.cell?_setCell_other _ _ _ _ (by simp), World.cell?_setCell_other _ _ _ _ (by simp)]; exact yr3)
      have yz4 : ((((((wr).setCell ⟨w.heap.size + 1, 0, none⟩ (.int .i64 x0)).setCell ⟨w.heap.size + 1, 1, none⟩ (.int .i64 x1)).setCell ⟨w.heap.size + 1, 2, none⟩ (.int .i64 x2)).setCell ⟨w.heap.size + 1, 3, none⟩ (.slice va k vc)).setCell ⟨w.heap.size + 1, 4, none⟩ (.slice ka kn kc)).cell? ⟨w.heap.size + 1, 4, none⟩ = some (.slice ka kn kc) := World.cell?_setCell_same _ _ _ (by rw [World.cell?_setCell_other _ _ _ _ (by simp), World.cell?_setCell_other _ _ _ _ (by simp), World.cell?_setCell_other _ _ _ _ (by simp), World.cell?_setCell_other _ _ _ _ (by simp)]; exact yr4)
      have yz5 : (((((((wr).setCell ⟨w.heap.size + 1, 0, none⟩ (.int .i64 x0)).setCell ⟨w.heap.size + 1, 1, none⟩ (.int .i64 x1)).setCell ⟨w.heap.size + 1, 2, none⟩ (.int .i64 x2)).setCell ⟨w.heap.size + 1, 3, none⟩ (.slice va k vc)).setCell ⟨w.heap.size + 1, 4, none⟩ (.slice ka kn kc)).setCell ⟨w.heap.size + 1, 5, none⟩ (.slice none 0 0)).cell? ⟨w.heap.size + 1, 5, none⟩ = some (.slice none 0 0) := World.cell?_setCell_same _ _ _ (by rw [World.cell?_setCell_other _ _ _ _ (by simp), World.cell?_setCell_other _ _ _ _ (by simp), World.cell?_setCell_other _ _ _ _ (by simp), World.cell?_setCell_other _ _ _ _ (by simp), World.cell?_setCell_other _ _ _ _ (by simp)]; exact yr5)
      obtain ⟨wF, hwF⟩ : ∃ wF, wF = ((((((wr).setCell ⟨w.heap.size + 1, 0, none⟩ (.int .i64 x0)).setCell ⟨w.heap.size + 1, 1, none⟩ (.int .i64 x1)).setCell ⟨w.heap.size + 1, 2, none⟩ (.int .i64 x2)).setCell ⟨w.heap.size + 1, 3, none⟩ (.slice va k vc)).setCell ⟨w.heap.size + 1, 4, none⟩ (.slice ka kn kc)).setCell ⟨w.heap.size + 1, 5, none⟩ (.slice none 0 0) := ⟨_, rfl⟩
      have keepF : ∀ q, q ≠ w.heap.size + 1 → wF.heap[q]? = wr.heap[q]? := fun q hq => by rw [hwF]; exact ((box_other _ hq).trans ((box_other _ hq).trans ((box_other _ hq).trans ((box_other _ hq).trans ((box_other _ hq).trans (box_other _ hq))))))
      have HF : Hid (Reads shDisk (((((((wr).setCell ⟨w.heap.size + 1, 0, none⟩ (.int .i64 x0)).setCell ⟨w.heap.size + 1, 1, none⟩ (.int .i64 x1)).setCell ⟨w.heap.size + 1, 2, none⟩ (.int .i64 x2)).setCell ⟨w.heap.size + 1, 3, none⟩ (.slice va k vc)).setCell ⟨w.heap.size + 1, 4, none⟩ (.slice ka kn kc)).setCell ⟨w.heap.size + 1, 5, none⟩ (.slice none 0 0)) [.int .i64 x0, .int .i64 x1, .int .i64 x2, .slice va k vc, .slice ka kn kc, .slice none 0 0] (calmD d) ∧ Below w.heap.size w (((((((wr).setCell ⟨w.heap.size + 1, 0, none⟩ (.int .i64 x0)).setCell ⟨w.heap.size + 1, 1, none⟩ (.int .i64 x1)).setCell ⟨w.heap.size + 1, 2, none⟩ (.int .i64 x2)).setCell ⟨w.heap.size + 1, 3, none⟩ (.slice va k vc)).setCell ⟨w.heap.size + 1, 4, none⟩ (.slice ka kn kc)).setCell ⟨w.heap.size + 1, 5, none⟩ (.slice none 0 0))) := by
        refine ⟨?_, ((((((hbel.setCell (p := ⟨w.heap.size + 1, 0, none⟩) (by simp <;> omega) (.int .i64 x0)).setCell (p := ⟨w.heap.size + 1, 1, none⟩) (by simp <;> omega) (.int .i64 x1)).setCell (p := ⟨w.heap.size + 1, 2, none⟩) (by simp <;> omega) (.int .i64 x2)).setCell (p := ⟨w.heap.size + 1, 3, none⟩) (by simp <;> omega) (.slice va k vc)).setCell (p := ⟨w.heap.size + 1, 4, none⟩) (by simp <;> omega) (.slice ka kn kc)).setCell (p := ⟨w.heap.size + 1, 5, none⟩) (by simp <;> omega) (.slice none 0 0))⟩
        rw [← hwF]
        have AF : CalmR wF w2 w1.heap.size w5.heap.size w6.heap.size (.slice va k vc) k k Cs Q := ⟨own_keepB hA.row fun q hq => keepF q (by have h1 := (hA.row.lt q hq).1; omega), hA.len3, hA.lenC, fun i c p hi hc hp => by
          obtain ⟨a1, n1, c1, v2, f1, f, e, r, o⟩ := hA.el i c p hi hc hp
          exact ⟨a1, n1, c1, v2, f1, f, e, r, o.keep fun q hq => keepF q (by have h1 := (o.lt q hq).1; omega)⟩, hA.old⟩
        have hbF : ∀ q, w1.heap.size ≤ q → q < w2.heap.size → wF.heap[q]? = w2.heap[q]? := fun q h1 h2 => (keepF q (by omega)).trans (hb2r.block q h2)
        exact HCD.out _ _ _ Q HQ.out.2.1 (AF.reads HQ.out.1 hbF) (hK.keep fun q hq => keepF q (by have h1 := (HFK.out q hq).1; omega)).reads
      clear hA iR iO hK hbel hwF keepF
      go_wp2
      (try simp only [Exit.inBlock, Exit.then])
      refine bodyPost_ret (by simp [results, Tryz.results29, go_sem, yz0, yz1, yz2, yz3, yz4, yz5]; try rfl) rfl ?_
      exact ⟨_, rfl, HF.out.1, HF.out.2⟩

end Go.Proofs.YtkjnbjohicgooaaGreat

/- LDiskCalm: The walk of the law FnExactDiskCalm over the contracts of its two functions. By program (lawgen3.py). -/
namespace Go.Proofs.YtkjnbjohicgooaaGreat
open Go.RowKit
set_option linter.unusedVariables false
set_option maxRecDepth 100000

set_option maxRecDepth 100000 in
set_option maxHeartbeats 8000000 in
theorem diskCalm_over (cs0 : List Value) (d0 : shDisk.D) (D0 : shDisk.D) (V1 : Bool) (w : World) (hr0 : Reads shDisk w cs0 d0) (hD0 : shDisk.sz D0 ≤ 1048576) (hC0 : shDisk.cntV D0 ≤ 1000000000)
    (hcd0 : shDisk.sz d0 ≤ 1048576 → shDisk.cntV d0 ≤ 1000000000)
    (hS : ∀ w' c0 G0, Own shDisk w' 0 c0 d0 G0 → shDisk.sz d0 ≤ 1048576 → Calls Tryz.prog 29 #[.agg c0.toArray] w' fun e w'' => ∃ o0, e = .returned (.tuple #[.agg o0.toArray, .bool V1]) ∧ Reads shDisk w'' o0 D0 ∧ Below w'.heap.size w' w'')
    (hI : ∀ w' c0 G0, Own shDisk w' 0 c0 d0 G0 → shDisk.sz d0 ≤ 1048576 → Calls Tryz.prog 30 #[.agg c0.toArray] w' fun e w'' => ∃ o0 F0, e = .returned (.tuple #[.agg o0.toArray, .bool V1]) ∧ Own shDisk w'' w'.heap.size o0 D0 F0 ∧ F0.Nodup ∧ Below w'.heap.size w' w'') :
    Calls Tryz.prog 6 #[.agg cs0.toArray] w fun e w' => e = .returned (.bool true) ∧ Below w.heap.size w w' := by
  have qsz0 : Hid (∀ w' left, Below w.heap.size w w' → 0 ≤ left → left ≤ 1048576 → Calls Tryz.prog 8 #[.agg cs0.toArray, .int .i64 left] w' fun e w'' => e = .returned (.int .i64 (szAns (shDisk.sz d0) left)) ∧ Below w'.heap.size w' w'') := fun w' left h' h1 h2 => szDisk_any cs0 d0 left w' (hr0.later h') h1 h2
  have qto0 : Hid (∀ w', Below w.heap.size w w' → shDisk.sz d0 ≤ 1048576 → Calls Tryz.prog 10 #[.agg cs0.toArray] w' fun e w'' => ∃ cs' F, e = .returned (.agg cs'.toArray) ∧ Own shDisk w'' w'.heap.size cs' d0 F ∧ F.Nodup ∧ Below w'.heap.size w' w'') := fun w' h' hs => toDisk_any cs0 d0 w' (hr0.later h') hs
  have qeq0 : Hid (∀ w' c1 c2, Reads shDisk w' c1 d0 → Reads shDisk w' c2 d0 → shDisk.sz d0 ≤ 1048576 → Calls Tryz.prog 13 #[.agg c1.toArray, .agg c2.toArray] w' fun e w'' => e = .returned (.bool true) ∧ Below w'.heap.size w' w'') := fun w' c1 c2 h1 h2 hs => eqDisk_any c1 c2 d0 w' h1 h2 hs
  have qS : Hid (∀ w' c0 G0, Own shDisk w' 0 c0 d0 G0 → shDisk.sz d0 ≤ 1048576 → Calls Tryz.prog 29 #[.agg c0.toArray] w' fun e w'' => ∃ o0, e = .returned (.tuple #[.agg o0.toArray, .bool V1]) ∧ Reads shDisk w'' o0 D0 ∧ Below w'.heap.size w' w'') := hS
  have qI : Hid (∀ w' c0 G0, Own shDisk w' 0 c0 d0 G0 → shDisk.sz d0 ≤ 1048576 → Calls Tryz.prog 30 #[.agg c0.toArray] w' fun e w'' => ∃ o0 F0, e = .returned (.tuple #[.agg o0.toArray, .bool V1]) ∧ Own shDisk w'' w'.heap.size o0 D0 F0 ∧ F0.Nodup ∧ Below w'.heap.size w' w'') := hI
  have qcd0 : Hid (shDisk.sz d0 ≤ 1048576 → shDisk.cntV d0 ≤ 1000000000) := hcd0
  have HD0 : Hid (_ ∧ _) := ⟨hD0, hC0⟩
  have hne1 : (V1 != V1) = false := by cases V1 <;> rfl
  obtain ⟨aA0_3, nA0_3, cA0_3, aA0_4, nA0_4, cA0_4, aA0_5, nA0_5, cA0_5, hcs0, _⟩ := open_Disk hr0
  obtain ⟨xL0_0, eL0_0⟩ : ∃ x : Int, x = d0.1 := ⟨_, rfl⟩
  obtain ⟨xL0_1, eL0_1⟩ : ∃ x : Int, x = d0.2.1 := ⟨_, rfl⟩
  obtain ⟨xL0_2, eL0_2⟩ : ∃ x : Int, x = d0.2.2.1 := ⟨_, rfl⟩
  have HEL0 : Hid (xL0_0 = d0.1 ∧ xL0_1 = d0.2.1 ∧ xL0_2 = d0.2.2.1 ∧ True ∧ True) := ⟨eL0_0, eL0_1, eL0_2, trivial, trivial⟩
  rw [← eL0_0, ← eL0_1, ← eL0_2] at hcs0
  subst hcs0
  obtain ⟨K0, hK0⟩ : ∃ K, K = shDisk.sz d0 := ⟨_, rfl⟩
  rw [← hK0] at qsz0
  obtain ⟨xO0_0, eO0_0⟩ : ∃ x : Int, x = D0.1 := ⟨_, rfl⟩
  obtain ⟨xO0_1, eO0_1⟩ : ∃ x : Int, x = D0.2.1 := ⟨_, rfl⟩
  obtain ⟨xO0_2, eO0_2⟩ : ∃ x : Int, x = D0.2.2.1 := ⟨_, rfl⟩
  have HEO0 : Hid (xO0_0 = D0.1 ∧ xO0_1 = D0.2.1 ∧ xO0_2 = D0.2.2.1 ∧ True ∧ True) := ⟨eO0_0, eO0_1, eO0_2, trivial, trivial⟩
  clear hS hI hr0 hcd0 hD0 hC0 eL0_0 eL0_1 eL0_2 eO0_0 eO0_1 eO0_2
  go_enter Tryz.func6, Tryz.ntmps6
  go_wp2_with fail
  obtain ⟨w1, hw1⟩ : ∃ W, W = w.alloc (.cells #[.int .i64 xL0_0, .int .i64 xL0_1, .int .i64 xL0_2, .slice aA0_3 nA0_3 cA0_3, .slice aA0_4 nA0_4 cA0_4, .slice aA0_5 nA0_5 cA0_5] 26) := ⟨_, rfl⟩
  have hbw1 : Below w.heap.size w w1 := by rw [hw1]; exact (Below.refl _ _).alloc (Nat.le_refl _) _
  have i_a0_w1 : Hid (w1.heap[w.heap.size]? = some (.cells #[.int .i64 xL0_0, .int .i64 xL0_1, .int .i64 xL0_2, .slice aA0_3 nA0_3 cA0_3, .slice aA0_4 nA0_4 cA0_4, .slice aA0_5 nA0_5 cA0_5] 26 (0, 0))) := by show _ = _; rw [hw1]; exact heap_alloc_new w _
  have zzw1 : w1.heap.size = w.heap.size + 1 := by rw [hw1]; simp
  rw [← hw1]
  clear hw1
  have zw1 : w.heap.size ≤ w1.heap.size := hbw1.size
  have bw1 := (Below.refl w.heap.size w).trans (hbw1.mono (Below.refl w.heap.size w).size)
  clear hbw1
  refine (qsz0.out _ (1048576) bw1 (by omega) (by omega)).mono ?_
  rintro e w2 ⟨rfl, hbw2⟩
  have zw2 : w1.heap.size ≤ w2.heap.size := hbw2.size
  have bw2 := bw1.trans (hbw2.mono bw1.size)
  clear bw1
  have i_a0_w2 : Hid (w2.heap[w.heap.size]? = some (.cells #[.int .i64 xL0_0, .int .i64 xL0_1, .int .i64 xL0_2, .slice aA0_3 nA0_3 cA0_3, .slice aA0_4 nA0_4 cA0_4, .slice aA0_5 nA0_5 cA0_5] 26 (0, 0))) := (hbw2.block _ (by omega)).trans i_a0_w1.out
  clear i_a0_w1
  clear hbw2
  by_cases hk0 : ((K0 : Nat) : Int) ≤ 1048576
  case neg =>
    rw [szAns_no hk0]
    go_wp2
    go_ret
    exact ⟨rfl, bw2⟩
  rw [szAns_yes hk0]
  have hl0 : ¬ (1048576 - ((K0 : Nat) : Int) < 0) := by omega
  have HZ0 : Hid (shDisk.sz d0 ≤ 1048576) := by show shDisk.sz d0 ≤ 1048576; omega
  have hcc0 := qcd0.out HZ0.out
  have zl_a0 : w.heap.size < w2.heap.size := by omega
  have y_a0_0 : w2.cell? ⟨w.heap.size, 0, none⟩ = some (.int .i64 xL0_0) := box_cell i_a0_w2.out rfl
  have y_a0_1 : w2.cell? ⟨w.heap.size, 1, none⟩ = some (.int .i64 xL0_1) := box_cell i_a0_w2.out rfl
  have y_a0_2 : w2.cell? ⟨w.heap.size, 2, none⟩ = some (.int .i64 xL0_2) := box_cell i_a0_w2.out rfl
  have y_a0_3 : w2.cell? ⟨w.heap.size, 3, none⟩ = some (.slice aA0_3 nA0_3 cA0_3) := box_cell i_a0_w2.out rfl
  have y_a0_4 : w2.cell? ⟨w.heap.size, 4, none⟩ = some (.slice aA0_4 nA0_4 cA0_4) := box_cell i_a0_w2.out rfl
  have y_a0_5 : w2.cell? ⟨w.heap.size, 5, none⟩ = some (.slice aA0_5 nA0_5 cA0_5) := box_cell i_a0_w2.out rfl
  go_wp2_with fail
  clear zl_a0 y_a0_0 y_a0_1 y_a0_2 y_a0_3 y_a0_4 y_a0_5
  refine (qto0.out _ bw2 HZ0.out).mono ?_
  rintro e w3 ⟨cs_y0, F_y0, he_y0, p_y0, nd_y0, hbw3⟩
  have zw3 : w2.heap.size ≤ w3.heap.size := hbw3.size
  have bw3 := bw2.trans (hbw3.mono bw2.size)
  clear bw2
  have i_a0_w3 : Hid (w3.heap[w.heap.size]? = some (.cells #[.int .i64 xL0_0, .int .i64 xL0_1, .int .i64 xL0_2, .slice aA0_3 nA0_3 cA0_3, .slice aA0_4 nA0_4 cA0_4, .slice aA0_5 nA0_5 cA0_5] 26 (0, 0))) := (hbw3.block _ (by omega)).trans i_a0_w2.out
  clear i_a0_w2
  clear hbw3
  have lt_y0 : Hid (∀ g ∈ F_y0, w2.heap.size ≤ g ∧ g < w3.heap.size) := p_y0.lt
  obtain ⟨ay0_3, ny0_3, cy0_3, ay0_4, ny0_4, cy0_4, ay0_5, ny0_5, cy0_5, hq_y0, _⟩ := open_Disk p_y0.reads
  rw [← HEL0.out.1, ← HEL0.out.2.1, ← HEL0.out.2.2.1] at hq_y0
  subst hq_y0
  subst he_y0
  go_wp2_with fail
  refine (qS.out _ _ _ (p_y0.base (Nat.zero_le _)) HZ0.out).mono ?_
  rintro e w4 ⟨W0, he_W, p_W0, hbw4⟩
  have RW0 : Hid (Reads shDisk w4 W0 D0) := p_W0
  have zw4 : w3.heap.size ≤ w4.heap.size := hbw4.size
  have bw4 := bw3.trans (hbw4.mono bw3.size)
  clear bw3
  have o_y0_w4 := p_y0.later hbw4
  clear p_y0
  have i_a0_w4 : Hid (w4.heap[w.heap.size]? = some (.cells #[.int .i64 xL0_0, .int .i64 xL0_1, .int .i64 xL0_2, .slice aA0_3 nA0_3 cA0_3, .slice aA0_4 nA0_4 cA0_4, .slice aA0_5 nA0_5 cA0_5] 26 (0, 0))) := (hbw4.block _ (by omega)).trans i_a0_w3.out
  clear i_a0_w3
  clear hbw4
  have sw4 : Below w4.heap.size w4 w4 := Below.refl _ _
  obtain ⟨aW0_3, nW0_3, cW0_3, aW0_4, nW0_4, cW0_4, aW0_5, nW0_5, cW0_5, hq_W0, _⟩ := open_Disk p_W0
  rw [← HEO0.out.1, ← HEO0.out.2.1, ← HEO0.out.2.2.1] at hq_W0
  subst hq_W0
  subst he_W
  clear p_W0
  clear o_y0_w4 nd_y0 lt_y0
  have zl_a0 : w.heap.size < w4.heap.size := by omega
  have y_a0_0 : w4.cell? ⟨w.heap.size, 0, none⟩ = some (.int .i64 xL0_0) := box_cell i_a0_w4.out rfl
  have y_a0_1 : w4.cell? ⟨w.heap.size, 1, none⟩ = some (.int .i64 xL0_1) := box_cell i_a0_w4.out rfl
  have y_a0_2 : w4.cell? ⟨w.heap.size, 2, none⟩ = some (.int .i64 xL0_2) := box_cell i_a0_w4.out rfl
  have y_a0_3 : w4.cell? ⟨w.heap.size, 3, none⟩ = some (.slice aA0_3 nA0_3 cA0_3) := box_cell i_a0_w4.out rfl
  have y_a0_4 : w4.cell? ⟨w.heap.size, 4, none⟩ = some (.slice aA0_4 nA0_4 cA0_4) := box_cell i_a0_w4.out rfl
  have y_a0_5 : w4.cell? ⟨w.heap.size, 5, none⟩ = some (.slice aA0_5 nA0_5 cA0_5) := box_cell i_a0_w4.out rfl
  go_wp2_with fail
  clear zl_a0 y_a0_0 y_a0_1 y_a0_2 y_a0_3 y_a0_4 y_a0_5
  obtain ⟨w5, hw5⟩ : ∃ W, W = w4.alloc (.cells #[.int .i64 xO0_0, .int .i64 xO0_1, .int .i64 xO0_2, .slice aW0_3 nW0_3 cW0_3, .slice aW0_4 nW0_4 cW0_4, .slice aW0_5 nW0_5 cW0_5] 33) := ⟨_, rfl⟩
  have hbw5 : Below w4.heap.size w4 w5 := by rw [hw5]; exact (Below.refl _ _).alloc (Nat.le_refl _) _
  have i_W0_w5 : Hid (w5.heap[w4.heap.size]? = some (.cells #[.int .i64 xO0_0, .int .i64 xO0_1, .int .i64 xO0_2, .slice aW0_3 nW0_3 cW0_3, .slice aW0_4 nW0_4 cW0_4, .slice aW0_5 nW0_5 cW0_5] 33 (0, 0))) := by show _ = _; rw [hw5]; exact heap_alloc_new w4 _
  have zzw5 : w5.heap.size = w4.heap.size + 1 := by rw [hw5]; simp
  rw [← hw5]
  clear hw5
  have zw5 : w4.heap.size ≤ w5.heap.size := hbw5.size
  have bw5 := bw4.trans (hbw5.mono bw4.size)
  clear bw4
  have sw5 := sw4.trans (hbw5.mono sw4.size)
  clear sw4
  have i_a0_w5 : Hid (w5.heap[w.heap.size]? = some (.cells #[.int .i64 xL0_0, .int .i64 xL0_1, .int .i64 xL0_2, .slice aA0_3 nA0_3 cA0_3, .slice aA0_4 nA0_4 cA0_4, .slice aA0_5 nA0_5 cA0_5] 26 (0, 0))) := (hbw5.block _ (by omega)).trans i_a0_w4.out
  clear i_a0_w4
  clear hbw5
  refine (qto0.out _ bw5 HZ0.out).mono ?_
  rintro e w6 ⟨cs_x0, F_x0, he_x0, p_x0, nd_x0, hbw6⟩
  have zw6 : w5.heap.size ≤ w6.heap.size := hbw6.size
  have bw6 := bw5.trans (hbw6.mono bw5.size)
  clear bw5
  have sw6 := sw5.trans (hbw6.mono sw5.size)
  clear sw5
  have i_a0_w6 : Hid (w6.heap[w.heap.size]? = some (.cells #[.int .i64 xL0_0, .int .i64 xL0_1, .int .i64 xL0_2, .slice aA0_3 nA0_3 cA0_3, .slice aA0_4 nA0_4 cA0_4, .slice aA0_5 nA0_5 cA0_5] 26 (0, 0))) := (hbw6.block _ (by omega)).trans i_a0_w5.out
  clear i_a0_w5
  have i_W0_w6 : Hid (w6.heap[w4.heap.size]? = some (.cells #[.int .i64 xO0_0, .int .i64 xO0_1, .int .i64 xO0_2, .slice aW0_3 nW0_3 cW0_3, .slice aW0_4 nW0_4 cW0_4, .slice aW0_5 nW0_5 cW0_5] 33 (0, 0))) := (hbw6.block _ (by omega)).trans i_W0_w5.out
  clear i_W0_w5
  clear hbw6
  have lt_x0 : Hid (∀ g ∈ F_x0, w5.heap.size ≤ g ∧ g < w6.heap.size) := p_x0.lt
  obtain ⟨ax0_3, nx0_3, cx0_3, ax0_4, nx0_4, cx0_4, ax0_5, nx0_5, cx0_5, hq_x0, _⟩ := open_Disk p_x0.reads
  rw [← HEL0.out.1, ← HEL0.out.2.1, ← HEL0.out.2.2.1] at hq_x0
  subst hq_x0
  subst he_x0
  go_wp2_with fail
  obtain ⟨w7, hw7⟩ : ∃ W, W = w6.alloc (.cells #[.int .i64 xL0_0, .int .i64 xL0_1, .int .i64 xL0_2, .slice ax0_3 nx0_3 cx0_3, .slice ax0_4 nx0_4 cx0_4, .slice ax0_5 nx0_5 cx0_5] 33) := ⟨_, rfl⟩
  have hbw7 : Below w6.heap.size w6 w7 := by rw [hw7]; exact (Below.refl _ _).alloc (Nat.le_refl _) _
  have i_x0_w7 : Hid (w7.heap[w6.heap.size]? = some (.cells #[.int .i64 xL0_0, .int .i64 xL0_1, .int .i64 xL0_2, .slice ax0_3 nx0_3 cx0_3, .slice ax0_4 nx0_4 cx0_4, .slice ax0_5 nx0_5 cx0_5] 33 (0, 0))) := by show _ = _; rw [hw7]; exact heap_alloc_new w6 _
  have zzw7 : w7.heap.size = w6.heap.size + 1 := by rw [hw7]; simp
  rw [← hw7]
  clear hw7
  have zw7 : w6.heap.size ≤ w7.heap.size := hbw7.size
  have bw7 := bw6.trans (hbw7.mono bw6.size)
  clear bw6
  have sw7 := sw6.trans (hbw7.mono sw6.size)
  clear sw6
  have o_x0_w7 := p_x0.later hbw7
  clear p_x0
  have i_a0_w7 : Hid (w7.heap[w.heap.size]? = some (.cells #[.int .i64 xL0_0, .int .i64 xL0_1, .int .i64 xL0_2, .slice aA0_3 nA0_3 cA0_3, .slice aA0_4 nA0_4 cA0_4, .slice aA0_5 nA0_5 cA0_5] 26 (0, 0))) := (hbw7.block _ (by omega)).trans i_a0_w6.out
  clear i_a0_w6
  have i_W0_w7 : Hid (w7.heap[w4.heap.size]? = some (.cells #[.int .i64 xO0_0, .int .i64 xO0_1, .int .i64 xO0_2, .slice aW0_3 nW0_3 cW0_3, .slice aW0_4 nW0_4 cW0_4, .slice aW0_5 nW0_5 cW0_5] 33 (0, 0))) := (hbw7.block _ (by omega)).trans i_W0_w6.out
  clear i_W0_w6
  clear hbw7
  refine (qI.out _ _ _ (o_x0_w7.base (Nat.zero_le _)) HZ0.out).mono ?_
  rintro e w8 ⟨g0, F_g0, he_g, p_g0, nd_g0, hbw8⟩
  have zw8 : w7.heap.size ≤ w8.heap.size := hbw8.size
  have bw8 := bw7.trans (hbw8.mono bw7.size)
  clear bw7
  have sw8 := sw7.trans (hbw8.mono sw7.size)
  clear sw7
  have o_x0_w8 := o_x0_w7.later hbw8
  clear o_x0_w7
  have i_a0_w8 : Hid (w8.heap[w.heap.size]? = some (.cells #[.int .i64 xL0_0, .int .i64 xL0_1, .int .i64 xL0_2, .slice aA0_3 nA0_3 cA0_3, .slice aA0_4 nA0_4 cA0_4, .slice aA0_5 nA0_5 cA0_5] 26 (0, 0))) := (hbw8.block _ (by omega)).trans i_a0_w7.out
  clear i_a0_w7
  have i_W0_w8 : Hid (w8.heap[w4.heap.size]? = some (.cells #[.int .i64 xO0_0, .int .i64 xO0_1, .int .i64 xO0_2, .slice aW0_3 nW0_3 cW0_3, .slice aW0_4 nW0_4 cW0_4, .slice aW0_5 nW0_5 cW0_5] 33 (0, 0))) := (hbw8.block _ (by omega)).trans i_W0_w7.out
  clear i_W0_w7
  have i_x0_w8 : Hid (w8.heap[w6.heap.size]? = some (.cells #[.int .i64 xL0_0, .int .i64 xL0_1, .int .i64 xL0_2, .slice ax0_3 nx0_3 cx0_3, .slice ax0_4 nx0_4 cx0_4, .slice ax0_5 nx0_5 cx0_5] 33 (0, 0))) := (hbw8.block _ (by omega)).trans i_x0_w7.out
  clear i_x0_w7
  clear hbw8
  have lt_g0 : Hid (∀ g ∈ F_g0, w7.heap.size ≤ g ∧ g < w8.heap.size) := p_g0.lt
  obtain ⟨ag0_3, ng0_3, cg0_3, ag0_4, ng0_4, cg0_4, ag0_5, ng0_5, cg0_5, hq_g0, _⟩ := open_Disk p_g0.reads
  rw [← HEO0.out.1, ← HEO0.out.2.1, ← HEO0.out.2.2.1] at hq_g0
  subst hq_g0
  subst he_g
  have zl_W0 : w4.heap.size < w8.heap.size := by omega
  have y_W0_0 : w8.cell? ⟨w4.heap.size, 0, none⟩ = some (.int .i64 xO0_0) := box_cell i_W0_w8.out rfl
  have y_W0_1 : w8.cell? ⟨w4.heap.size, 1, none⟩ = some (.int .i64 xO0_1) := box_cell i_W0_w8.out rfl
  have y_W0_2 : w8.cell? ⟨w4.heap.size, 2, none⟩ = some (.int .i64 xO0_2) := box_cell i_W0_w8.out rfl
  have y_W0_3 : w8.cell? ⟨w4.heap.size, 3, none⟩ = some (.slice aW0_3 nW0_3 cW0_3) := box_cell i_W0_w8.out rfl
  have y_W0_4 : w8.cell? ⟨w4.heap.size, 4, none⟩ = some (.slice aW0_4 nW0_4 cW0_4) := box_cell i_W0_w8.out rfl
  have y_W0_5 : w8.cell? ⟨w4.heap.size, 5, none⟩ = some (.slice aW0_5 nW0_5 cW0_5) := box_cell i_W0_w8.out rfl
  go_wp2_with fail
  clear zl_W0 y_W0_0 y_W0_1 y_W0_2 y_W0_3 y_W0_4 y_W0_5
  obtain ⟨w9, hw9⟩ : ∃ W, W = w8.alloc (.cells #[.int .i64 xO0_0, .int .i64 xO0_1, .int .i64 xO0_2, .slice ag0_3 ng0_3 cg0_3, .slice ag0_4 ng0_4 cg0_4, .slice ag0_5 ng0_5 cg0_5] 33) := ⟨_, rfl⟩
  have hbw9 : Below w8.heap.size w8 w9 := by rw [hw9]; exact (Below.refl _ _).alloc (Nat.le_refl _) _
  have i_g0_w9 : Hid (w9.heap[w8.heap.size]? = some (.cells #[.int .i64 xO0_0, .int .i64 xO0_1, .int .i64 xO0_2, .slice ag0_3 ng0_3 cg0_3, .slice ag0_4 ng0_4 cg0_4, .slice ag0_5 ng0_5 cg0_5] 33 (0, 0))) := by show _ = _; rw [hw9]; exact heap_alloc_new w8 _
  have zzw9 : w9.heap.size = w8.heap.size + 1 := by rw [hw9]; simp
  rw [← hw9]
  clear hw9
  have zw9 : w8.heap.size ≤ w9.heap.size := hbw9.size
  have bw9 := bw8.trans (hbw9.mono bw8.size)
  clear bw8
  have sw9 := sw8.trans (hbw9.mono sw8.size)
  clear sw8
  have o_x0_w9 := o_x0_w8.later hbw9
  clear o_x0_w8
  have o_g0_w9 := p_g0.later hbw9
  clear p_g0
  have i_a0_w9 : Hid (w9.heap[w.heap.size]? = some (.cells #[.int .i64 xL0_0, .int .i64 xL0_1, .int .i64 xL0_2, .slice aA0_3 nA0_3 cA0_3, .slice aA0_4 nA0_4 cA0_4, .slice aA0_5 nA0_5 cA0_5] 26 (0, 0))) := (hbw9.block _ (by omega)).trans i_a0_w8.out
  clear i_a0_w8
  have i_W0_w9 : Hid (w9.heap[w4.heap.size]? = some (.cells #[.int .i64 xO0_0, .int .i64 xO0_1, .int .i64 xO0_2, .slice aW0_3 nW0_3 cW0_3, .slice aW0_4 nW0_4 cW0_4, .slice aW0_5 nW0_5 cW0_5] 33 (0, 0))) := (hbw9.block _ (by omega)).trans i_W0_w8.out
  clear i_W0_w8
  have i_x0_w9 : Hid (w9.heap[w6.heap.size]? = some (.cells #[.int .i64 xL0_0, .int .i64 xL0_1, .int .i64 xL0_2, .slice ax0_3 nx0_3 cx0_3, .slice ax0_4 nx0_4 cx0_4, .slice ax0_5 nx0_5 cx0_5] 33 (0, 0))) := (hbw9.block _ (by omega)).trans i_x0_w8.out
  clear i_x0_w8
  clear hbw9
  refine (eqDisk_any _ _ D0 _ o_g0_w9.reads (RW0.out.later sw9) HD0.out.1).mono ?_
  rintro e w10 ⟨rfl, hbw10⟩
  have zw10 : w9.heap.size ≤ w10.heap.size := hbw10.size
  have bw10 := bw9.trans (hbw10.mono bw9.size)
  clear bw9
  have sw10 := sw9.trans (hbw10.mono sw9.size)
  clear sw9
  have o_x0_w10 := o_x0_w9.later hbw10
  clear o_x0_w9
  have o_g0_w10 := o_g0_w9.later hbw10
  clear o_g0_w9
  have i_a0_w10 : Hid (w10.heap[w.heap.size]? = some (.cells #[.int .i64 xL0_0, .int .i64 xL0_1, .int .i64 xL0_2, .slice aA0_3 nA0_3 cA0_3, .slice aA0_4 nA0_4 cA0_4, .slice aA0_5 nA0_5 cA0_5] 26 (0, 0))) := (hbw10.block _ (by omega)).trans i_a0_w9.out
  clear i_a0_w9
  have i_W0_w10 : Hid (w10.heap[w4.heap.size]? = some (.cells #[.int .i64 xO0_0, .int .i64 xO0_1, .int .i64 xO0_2, .slice aW0_3 nW0_3 cW0_3, .slice aW0_4 nW0_4 cW0_4, .slice aW0_5 nW0_5 cW0_5] 33 (0, 0))) := (hbw10.block _ (by omega)).trans i_W0_w9.out
  clear i_W0_w9
  have i_x0_w10 : Hid (w10.heap[w6.heap.size]? = some (.cells #[.int .i64 xL0_0, .int .i64 xL0_1, .int .i64 xL0_2, .slice ax0_3 nx0_3 cx0_3, .slice ax0_4 nx0_4 cx0_4, .slice ax0_5 nx0_5 cx0_5] 33 (0, 0))) := (hbw10.block _ (by omega)).trans i_x0_w9.out
  clear i_x0_w9
  have i_g0_w10 : Hid (w10.heap[w8.heap.size]? = some (.cells #[.int .i64 xO0_0, .int .i64 xO0_1, .int .i64 xO0_2, .slice ag0_3 ng0_3 cg0_3, .slice ag0_4 ng0_4 cg0_4, .slice ag0_5 ng0_5 cg0_5] 33 (0, 0))) := (hbw10.block _ (by omega)).trans i_g0_w9.out
  clear i_g0_w9
  clear hbw10
  have zlt : w.heap.size < w10.heap.size := by omega
  have zlt4 : w6.heap.size < w10.heap.size := by omega
  have hbb : Below w10.heap.size w10 w10 := Below.refl _ _
  have ya0 : w10.cell? ⟨w.heap.size, 0, none⟩ = some (.int .i64 xL0_0) := box_cell i_a0_w10.out rfl
  have ya1 : w10.cell? ⟨w.heap.size, 1, none⟩ = some (.int .i64 xL0_1) := box_cell i_a0_w10.out rfl
  have ya2 : w10.cell? ⟨w.heap.size, 2, none⟩ = some (.int .i64 xL0_2) := box_cell i_a0_w10.out rfl
  have ya3 : w10.cell? ⟨w.heap.size, 3, none⟩ = some (.slice aA0_3 nA0_3 cA0_3) := box_cell i_a0_w10.out rfl
  have ya4 : w10.cell? ⟨w.heap.size, 4, none⟩ = some (.slice aA0_4 nA0_4 cA0_4) := box_cell i_a0_w10.out rfl
  have ya5 : w10.cell? ⟨w.heap.size, 5, none⟩ = some (.slice aA0_5 nA0_5 cA0_5) := box_cell i_a0_w10.out rfl
  have yb0 : w10.cell? ⟨w6.heap.size, 0, none⟩ = some (.int .i64 xL0_0) := box_cell i_x0_w10.out rfl
  have yb1 : w10.cell? ⟨w6.heap.size, 1, none⟩ = some (.int .i64 xL0_1) := box_cell i_x0_w10.out rfl
  have yb2 : w10.cell? ⟨w6.heap.size, 2, none⟩ = some (.int .i64 xL0_2) := box_cell i_x0_w10.out rfl
  have yb3 : w10.cell? ⟨w6.heap.size, 3, none⟩ = some (.slice ax0_3 nx0_3 cx0_3) := box_cell i_x0_w10.out rfl
  have yb4 : w10.cell? ⟨w6.heap.size, 4, none⟩ = some (.slice ax0_4 nx0_4 cx0_4) := box_cell i_x0_w10.out rfl
  have yb5 : w10.cell? ⟨w6.heap.size, 5, none⟩ = some (.slice ax0_5 nx0_5 cx0_5) := box_cell i_x0_w10.out rfl
  go_wp2_with fail
  go_region_held (fun w' => w'.cell? ⟨w.heap.size, 0, none⟩ = some (.int .i64 xL0_0) ∧ w'.cell? ⟨w.heap.size, 1, none⟩ = some (.int .i64 xL0_1) ∧ w'.cell? ⟨w.heap.size, 2, none⟩ = some (.int .i64 xL0_2) ∧ w'.cell? ⟨w.heap.size, 3, none⟩ = some (.slice aA0_3 nA0_3 cA0_3) ∧ w'.cell? ⟨w.heap.size, 4, none⟩ = some (.slice aA0_4 nA0_4 cA0_4) ∧ w'.cell? ⟨w.heap.size, 5, none⟩ = some (.slice aA0_5 nA0_5 cA0_5) ∧ w'.cell? ⟨w6.heap.size, 0, none⟩ = some (.int .i64 xL0_0) ∧ w'.cell? ⟨w6.heap.size, 1, none⟩ = some (.int .i64 xL0_1) ∧ w'.cell? ⟨w6.heap.size, 2, none⟩ = some (.int .i64 xL0_2) ∧ w'.cell? ⟨w6.heap.size, 3, none⟩ = some (.slice ax0_3 nx0_3 cx0_3) ∧ w'.cell? ⟨w6.heap.size, 4, none⟩ = some (.slice ax0_4 nx0_4 cx0_4) ∧ w'.cell? ⟨w6.heap.size, 5, none⟩ = some (.slice ax0_5 nx0_5 cx0_5))
    (first | go_keep | (refine ⟨?_, ?_, ?_, ?_, ?_, ?_, ?_, ?_, ?_, ?_, ?_, ?_⟩ <;> first | (refine (hb7.cell ?_).trans ?_; (have h6 := hb6.size; simp at h6 ⊢; omega); assumption) | (refine (hb6.cell ?_).trans ?_; (simp; omega); assumption)))
    (first | ((go_at_call 10; refine (qto0.out _ (bw10.drew) HZ0.out).mono ?_; rintro e w11 ⟨cs6, F6, rfl, o6, nd6, hb6⟩; have za0 : w11.cell? ⟨w.heap.size, 0, none⟩ = some (.int .i64 xL0_0) := (hb6.cell (p := ⟨w.heap.size, 0, none⟩) (by simp; omega)).trans ya0; have za1 : w11.cell? ⟨w.heap.size, 1, none⟩ = some (.int .i64 xL0_1) := (hb6.cell (p := ⟨w.heap.size, 1, none⟩) (by simp; omega)).trans ya1; have za2 : w11.cell? ⟨w.heap.size, 2, none⟩ = some (.int .i64 xL0_2) := (hb6.cell (p := ⟨w.heap.size, 2, none⟩) (by simp; omega)).trans ya2; have za3 : w11.cell? ⟨w.heap.size, 3, none⟩ = some (.slice aA0_3 nA0_3 cA0_3) := (hb6.cell (p := ⟨w.heap.size, 3, none⟩) (by simp; omega)).trans ya3; have za4 : w11.cell? ⟨w.heap.size, 4, none⟩ = some (.slice aA0_4 nA0_4 cA0_4) := (hb6.cell (p := ⟨w.heap.size, 4, none⟩) (by simp; omega)).trans ya4; have za5 : w11.cell? ⟨w.heap.size, 5, none⟩ = some (.slice aA0_5 nA0_5 cA0_5) := (hb6.cell (p := ⟨w.heap.size, 5, none⟩) (by simp; omega)).trans ya5; have zb0 : w11.cell? ⟨w6.heap.size, 0, none⟩ = some (.int .i64 xL0_0) := (hb6.cell (p := ⟨w6.heap.size, 0, none⟩) (by simp; omega)).trans yb0; have zb1 : w11.cell? ⟨w6.heap.size, 1, none⟩ = some (.int .i64 xL0_1) := (hb6.cell (p := ⟨w6.heap.size, 1, none⟩) (by simp; omega)).trans yb1; have zb2 : w11.cell? ⟨w6.heap.size, 2, none⟩ = some (.int .i64 xL0_2) := (hb6.cell (p := ⟨w6.heap.size, 2, none⟩) (by simp; omega)).trans yb2; have zb3 : w11.cell? ⟨w6.heap.size, 3, none⟩ = some (.slice ax0_3 nx0_3 cx0_3) := (hb6.cell (p := ⟨w6.heap.size, 3, none⟩) (by simp; omega)).trans yb3; have zb4 : w11.cell? ⟨w6.heap.size, 4, none⟩ = some (.slice ax0_4 nx0_4 cx0_4) := (hb6.cell (p := ⟨w6.heap.size, 4, none⟩) (by simp; omega)).trans yb4; have zb5 : w11.cell? ⟨w6.heap.size, 5, none⟩ = some (.slice ax0_5 nx0_5 cx0_5) := (hb6.cell (p := ⟨w6.heap.size, 5, none⟩) (by simp; omega)).trans yb5)) | ((go_at_call 13; refine (qeq0.out _ _ cs6 (o_x0_w10.later ((Below.drew hbb).trans (hb6.mono (by simp)))).reads o6.reads HZ0.out).mono ?_; rintro e w12 ⟨rfl, hb7⟩)))
  have hbw12 : Below w10.heap.size w10 w12 := hbb.drew.trans ((hb6.trans (hb7.mono hb6.size)).mono hbb.drew.size)
  clear hb6 hb7 o6 nd6 hbb zlt zlt4 ya0 ya1 ya2 ya3 ya4 ya5 yb0 yb1 yb2 yb3 yb4 yb5 za0 za1 za2 za3 za4 za5 zb0 zb1 zb2 zb3 zb4 zb5
  have zw12 : w10.heap.size ≤ w12.heap.size := hbw12.size
  have bw12 := bw10.trans (hbw12.mono bw10.size)
  clear bw10
  have sw12 := sw10.trans (hbw12.mono sw10.size)
  clear sw10
  have o_x0_w12 := o_x0_w10.later hbw12
  clear o_x0_w10
  have o_g0_w12 := o_g0_w10.later hbw12
  clear o_g0_w10
  have i_a0_w12 : Hid (w12.heap[w.heap.size]? = some (.cells #[.int .i64 xL0_0, .int .i64 xL0_1, .int .i64 xL0_2, .slice aA0_3 nA0_3 cA0_3, .slice aA0_4 nA0_4 cA0_4, .slice aA0_5 nA0_5 cA0_5] 26 (0, 0))) := (hbw12.block _ (by omega)).trans i_a0_w10.out
  clear i_a0_w10
  have i_W0_w12 : Hid (w12.heap[w4.heap.size]? = some (.cells #[.int .i64 xO0_0, .int .i64 xO0_1, .int .i64 xO0_2, .slice aW0_3 nW0_3 cW0_3, .slice aW0_4 nW0_4 cW0_4, .slice aW0_5 nW0_5 cW0_5] 33 (0, 0))) := (hbw12.block _ (by omega)).trans i_W0_w10.out
  clear i_W0_w10
  have i_x0_w12 : Hid (w12.heap[w6.heap.size]? = some (.cells #[.int .i64 xL0_0, .int .i64 xL0_1, .int .i64 xL0_2, .slice ax0_3 nx0_3 cx0_3, .slice ax0_4 nx0_4 cx0_4, .slice ax0_5 nx0_5 cx0_5] 33 (0, 0))) := (hbw12.block _ (by omega)).trans i_x0_w10.out
  clear i_x0_w10
  have i_g0_w12 : Hid (w12.heap[w8.heap.size]? = some (.cells #[.int .i64 xO0_0, .int .i64 xO0_1, .int .i64 xO0_2, .slice ag0_3 ng0_3 cg0_3, .slice ag0_4 ng0_4 cg0_4, .slice ag0_5 ng0_5 cg0_5] 33 (0, 0))) := (hbw12.block _ (by omega)).trans i_g0_w10.out
  clear i_g0_w10
  clear hbw12
  have zl_x0 : w6.heap.size < w12.heap.size := by omega
  have y_x0_0 : w12.cell? ⟨w6.heap.size, 0, none⟩ = some (.int .i64 xL0_0) := box_cell i_x0_w12.out rfl
  have y_x0_1 : w12.cell? ⟨w6.heap.size, 1, none⟩ = some (.int .i64 xL0_1) := box_cell i_x0_w12.out rfl
  have y_x0_2 : w12.cell? ⟨w6.heap.size, 2, none⟩ = some (.int .i64 xL0_2) := box_cell i_x0_w12.out rfl
  have y_x0_3 : w12.cell? ⟨w6.heap.size, 3, none⟩ = some (.slice ax0_3 nx0_3 cx0_3) := box_cell i_x0_w12.out rfl
  have y_x0_4 : w12.cell? ⟨w6.heap.size, 4, none⟩ = some (.slice ax0_4 nx0_4 cx0_4) := box_cell i_x0_w12.out rfl
  have y_x0_5 : w12.cell? ⟨w6.heap.size, 5, none⟩ = some (.slice ax0_5 nx0_5 cx0_5) := box_cell i_x0_w12.out rfl
  go_wp2_with fail
  clear zl_x0 y_x0_0 y_x0_1 y_x0_2 y_x0_3 y_x0_4 y_x0_5
  refine (markDisk_own _ _ (1) d0 F_x0 _ o_x0_w12 nd_x0 (by omega) (by omega)).mono ?_
  rintro e w13 ⟨rfl, p2_x0, htw13⟩
  have zw13 : w12.heap.size ≤ w13.heap.size := htw13.size
  have bw13 := htw13.below bw12 bw12.size (fun g hg => by have h9 := (lt_x0.out g hg).1; omega)
  clear bw12
  have sw13 := htw13.below sw12 sw12.size (fun g hg => by have h9 := (lt_x0.out g hg).1; omega)
  clear sw12
  clear o_x0_w12
  have o_g0_w13 := htw13.own o_g0_w12 (fun g hg hf => by have h8 := lt_g0.out g hg; have h9 := lt_x0.out g hf; omega)
  clear o_g0_w12
  have i_a0_w13 : Hid (w13.heap[w.heap.size]? = some (.cells #[.int .i64 xL0_0, .int .i64 xL0_1, .int .i64 xL0_2, .slice aA0_3 nA0_3 cA0_3, .slice aA0_4 nA0_4 cA0_4, .slice aA0_5 nA0_5 cA0_5] 26 (0, 0))) := (htw13.block _ (by omega) (fun hm => by have h9 := lt_x0.out _ hm; omega)).trans i_a0_w12.out
  clear i_a0_w12
  have i_W0_w13 : Hid (w13.heap[w4.heap.size]? = some (.cells #[.int .i64 xO0_0, .int .i64 xO0_1, .int .i64 xO0_2, .slice aW0_3 nW0_3 cW0_3, .slice aW0_4 nW0_4 cW0_4, .slice aW0_5 nW0_5 cW0_5] 33 (0, 0))) := (htw13.block _ (by omega) (fun hm => by have h9 := lt_x0.out _ hm; omega)).trans i_W0_w12.out
  clear i_W0_w12
  have i_x0_w13 : Hid (w13.heap[w6.heap.size]? = some (.cells #[.int .i64 xL0_0, .int .i64 xL0_1, .int .i64 xL0_2, .slice ax0_3 nx0_3 cx0_3, .slice ax0_4 nx0_4 cx0_4, .slice ax0_5 nx0_5 cx0_5] 33 (0, 0))) := (htw13.block _ (by omega) (fun hm => by have h9 := lt_x0.out _ hm; omega)).trans i_x0_w12.out
  clear i_x0_w12
  have i_g0_w13 : Hid (w13.heap[w8.heap.size]? = some (.cells #[.int .i64 xO0_0, .int .i64 xO0_1, .int .i64 xO0_2, .slice ag0_3 ng0_3 cg0_3, .slice ag0_4 ng0_4 cg0_4, .slice ag0_5 ng0_5 cg0_5] 33 (0, 0))) := (htw13.block _ (by omega) (fun hm => by have h9 := lt_x0.out _ hm; omega)).trans i_g0_w12.out
  clear i_g0_w12
  clear htw13
  have hkk : ¬ (((1 + shDisk.cntV d0 : Nat) : Int) < 0) := by omega
  clear p2_x0 nd_x0 lt_x0
  have zl_g0 : w8.heap.size < w13.heap.size := by omega
  have y_g0_0 : w13.cell? ⟨w8.heap.size, 0, none⟩ = some (.int .i64 xO0_0) := box_cell i_g0_w13.out rfl
  have y_g0_1 : w13.cell? ⟨w8.heap.size, 1, none⟩ = some (.int .i64 xO0_1) := box_cell i_g0_w13.out rfl
  have y_g0_2 : w13.cell? ⟨w8.heap.size, 2, none⟩ = some (.int .i64 xO0_2) := box_cell i_g0_w13.out rfl
  have y_g0_3 : w13.cell? ⟨w8.heap.size, 3, none⟩ = some (.slice ag0_3 ng0_3 cg0_3) := box_cell i_g0_w13.out rfl
  have y_g0_4 : w13.cell? ⟨w8.heap.size, 4, none⟩ = some (.slice ag0_4 ng0_4 cg0_4) := box_cell i_g0_w13.out rfl
  have y_g0_5 : w13.cell? ⟨w8.heap.size, 5, none⟩ = some (.slice ag0_5 ng0_5 cg0_5) := box_cell i_g0_w13.out rfl
  have zl_W0 : w4.heap.size < w13.heap.size := by omega
  have y_W0_0 : w13.cell? ⟨w4.heap.size, 0, none⟩ = some (.int .i64 xO0_0) := box_cell i_W0_w13.out rfl
  have y_W0_1 : w13.cell? ⟨w4.heap.size, 1, none⟩ = some (.int .i64 xO0_1) := box_cell i_W0_w13.out rfl
  have y_W0_2 : w13.cell? ⟨w4.heap.size, 2, none⟩ = some (.int .i64 xO0_2) := box_cell i_W0_w13.out rfl
  have y_W0_3 : w13.cell? ⟨w4.heap.size, 3, none⟩ = some (.slice aW0_3 nW0_3 cW0_3) := box_cell i_W0_w13.out rfl
  have y_W0_4 : w13.cell? ⟨w4.heap.size, 4, none⟩ = some (.slice aW0_4 nW0_4 cW0_4) := box_cell i_W0_w13.out rfl
  have y_W0_5 : w13.cell? ⟨w4.heap.size, 5, none⟩ = some (.slice aW0_5 nW0_5 cW0_5) := box_cell i_W0_w13.out rfl
  go_wp2_with fail
  clear zl_g0 y_g0_0 y_g0_1 y_g0_2 y_g0_3 y_g0_4 y_g0_5 zl_W0 y_W0_0 y_W0_1 y_W0_2 y_W0_3 y_W0_4 y_W0_5
  refine (eqDisk_any _ _ D0 _ o_g0_w13.reads (RW0.out.later sw13) HD0.out.1).mono ?_
  rintro e w14 ⟨rfl, hbw14⟩
  have zw14 : w13.heap.size ≤ w14.heap.size := hbw14.size
  have bw14 := bw13.trans (hbw14.mono bw13.size)
  clear bw13
  have sw14 := sw13.trans (hbw14.mono sw13.size)
  clear sw13
  have o_g0_w14 := o_g0_w13.later hbw14
  clear o_g0_w13
  have i_a0_w14 : Hid (w14.heap[w.heap.size]? = some (.cells #[.int .i64 xL0_0, .int .i64 xL0_1, .int .i64 xL0_2, .slice aA0_3 nA0_3 cA0_3, .slice aA0_4 nA0_4 cA0_4, .slice aA0_5 nA0_5 cA0_5] 26 (0, 0))) := (hbw14.block _ (by omega)).trans i_a0_w13.out
  clear i_a0_w13
  have i_W0_w14 : Hid (w14.heap[w4.heap.size]? = some (.cells #[.int .i64 xO0_0, .int .i64 xO0_1, .int .i64 xO0_2, .slice aW0_3 nW0_3 cW0_3, .slice aW0_4 nW0_4 cW0_4, .slice aW0_5 nW0_5 cW0_5] 33 (0, 0))) := (hbw14.block _ (by omega)).trans i_W0_w13.out
  clear i_W0_w13
  have i_g0_w14 : Hid (w14.heap[w8.heap.size]? = some (.cells #[.int .i64 xO0_0, .int .i64 xO0_1, .int .i64 xO0_2, .slice ag0_3 ng0_3 cg0_3, .slice ag0_4 ng0_4 cg0_4, .slice ag0_5 ng0_5 cg0_5] 33 (0, 0))) := (hbw14.block _ (by omega)).trans i_g0_w13.out
  clear i_g0_w13
  clear hbw14
  clear hkk
  have hcj0 := HD0.out.2
  have zl_g0 : w8.heap.size < w14.heap.size := by omega
  have y_g0_0 : w14.cell? ⟨w8.heap.size, 0, none⟩ = some (.int .i64 xO0_0) := box_cell i_g0_w14.out rfl
  have y_g0_1 : w14.cell? ⟨w8.heap.size, 1, none⟩ = some (.int .i64 xO0_1) := box_cell i_g0_w14.out rfl
  have y_g0_2 : w14.cell? ⟨w8.heap.size, 2, none⟩ = some (.int .i64 xO0_2) := box_cell i_g0_w14.out rfl
  have y_g0_3 : w14.cell? ⟨w8.heap.size, 3, none⟩ = some (.slice ag0_3 ng0_3 cg0_3) := box_cell i_g0_w14.out rfl
  have y_g0_4 : w14.cell? ⟨w8.heap.size, 4, none⟩ = some (.slice ag0_4 ng0_4 cg0_4) := box_cell i_g0_w14.out rfl
  have y_g0_5 : w14.cell? ⟨w8.heap.size, 5, none⟩ = some (.slice ag0_5 ng0_5 cg0_5) := box_cell i_g0_w14.out rfl
  go_wp2_with fail
  clear zl_g0 y_g0_0 y_g0_1 y_g0_2 y_g0_3 y_g0_4 y_g0_5
  refine (markDisk_own _ _ (1) D0 F_g0 _ o_g0_w14 nd_g0 (by omega) (by omega)).mono ?_
  rintro e w15 ⟨rfl, p2_g0, htw15⟩
  have zw15 : w14.heap.size ≤ w15.heap.size := htw15.size
  have bw15 := htw15.below bw14 bw14.size (fun g hg => by have h9 := (lt_g0.out g hg).1; omega)
  clear bw14
  have sw15 := htw15.below sw14 sw14.size (fun g hg => by have h9 := (lt_g0.out g hg).1; omega)
  clear sw14
  clear o_g0_w14
  have i_a0_w15 : Hid (w15.heap[w.heap.size]? = some (.cells #[.int .i64 xL0_0, .int .i64 xL0_1, .int .i64 xL0_2, .slice aA0_3 nA0_3 cA0_3, .slice aA0_4 nA0_4 cA0_4, .slice aA0_5 nA0_5 cA0_5] 26 (0, 0))) := (htw15.block _ (by omega) (fun hm => by have h9 := lt_g0.out _ hm; omega)).trans i_a0_w14.out
  clear i_a0_w14
  have i_W0_w15 : Hid (w15.heap[w4.heap.size]? = some (.cells #[.int .i64 xO0_0, .int .i64 xO0_1, .int .i64 xO0_2, .slice aW0_3 nW0_3 cW0_3, .slice aW0_4 nW0_4 cW0_4, .slice aW0_5 nW0_5 cW0_5] 33 (0, 0))) := (htw15.block _ (by omega) (fun hm => by have h9 := lt_g0.out _ hm; omega)).trans i_W0_w14.out
  clear i_W0_w14
  have i_g0_w15 : Hid (w15.heap[w8.heap.size]? = some (.cells #[.int .i64 xO0_0, .int .i64 xO0_1, .int .i64 xO0_2, .slice ag0_3 ng0_3 cg0_3, .slice ag0_4 ng0_4 cg0_4, .slice ag0_5 ng0_5 cg0_5] 33 (0, 0))) := (htw15.block _ (by omega) (fun hm => by have h9 := lt_g0.out _ hm; omega)).trans i_g0_w14.out
  clear i_g0_w14
  clear htw15
  have hqq : ¬ (((1 + shDisk.cntV D0 : Nat) : Int) < 0) := by omega
  have hmm : ((((1 + shDisk.cntV D0 : Nat) : Int)) != (((1 + shDisk.cntV D0 : Nat) : Int))) = false := by simp
  have zl_g0 : w8.heap.size < w15.heap.size := by omega
  have y_g0_0 : w15.cell? ⟨w8.heap.size, 0, none⟩ = some (.int .i64 xO0_0) := box_cell i_g0_w15.out rfl
  have y_g0_1 : w15.cell? ⟨w8.heap.size, 1, none⟩ = some (.int .i64 xO0_1) := box_cell i_g0_w15.out rfl
  have y_g0_2 : w15.cell? ⟨w8.heap.size, 2, none⟩ = some (.int .i64 xO0_2) := box_cell i_g0_w15.out rfl
  have y_g0_3 : w15.cell? ⟨w8.heap.size, 3, none⟩ = some (.slice ag0_3 ng0_3 cg0_3) := box_cell i_g0_w15.out rfl
  have y_g0_4 : w15.cell? ⟨w8.heap.size, 4, none⟩ = some (.slice ag0_4 ng0_4 cg0_4) := box_cell i_g0_w15.out rfl
  have y_g0_5 : w15.cell? ⟨w8.heap.size, 5, none⟩ = some (.slice ag0_5 ng0_5 cg0_5) := box_cell i_g0_w15.out rfl
  go_wp2_with fail
  clear zl_g0 y_g0_0 y_g0_1 y_g0_2 y_g0_3 y_g0_4 y_g0_5
  refine (heldDisk_own _ _ (1) D0 F_g0 _ p2_g0 nd_g0 (by omega) (by omega)).mono ?_
  rintro e w16 ⟨rfl, hbw16⟩
  have zw16 : w15.heap.size ≤ w16.heap.size := hbw16.size
  have bw16 := bw15.trans (hbw16.mono bw15.size)
  clear bw15
  have sw16 := sw15.trans (hbw16.mono sw15.size)
  clear sw15
  have o_g0_w16 := p2_g0.later hbw16
  clear p2_g0
  have i_a0_w16 : Hid (w16.heap[w.heap.size]? = some (.cells #[.int .i64 xL0_0, .int .i64 xL0_1, .int .i64 xL0_2, .slice aA0_3 nA0_3 cA0_3, .slice aA0_4 nA0_4 cA0_4, .slice aA0_5 nA0_5 cA0_5] 26 (0, 0))) := (hbw16.block _ (by omega)).trans i_a0_w15.out
  clear i_a0_w15
  have i_W0_w16 : Hid (w16.heap[w4.heap.size]? = some (.cells #[.int .i64 xO0_0, .int .i64 xO0_1, .int .i64 xO0_2, .slice aW0_3 nW0_3 cW0_3, .slice aW0_4 nW0_4 cW0_4, .slice aW0_5 nW0_5 cW0_5] 33 (0, 0))) := (hbw16.block _ (by omega)).trans i_W0_w15.out
  clear i_W0_w15
  have i_g0_w16 : Hid (w16.heap[w8.heap.size]? = some (.cells #[.int .i64 xO0_0, .int .i64 xO0_1, .int .i64 xO0_2, .slice ag0_3 ng0_3 cg0_3, .slice ag0_4 ng0_4 cg0_4, .slice ag0_5 ng0_5 cg0_5] 33 (0, 0))) := (hbw16.block _ (by omega)).trans i_g0_w15.out
  clear i_g0_w15
  clear hbw16
  have zl_a0 : w.heap.size < w16.heap.size := by omega
  have y_a0_0 : w16.cell? ⟨w.heap.size, 0, none⟩ = some (.int .i64 xL0_0) := box_cell i_a0_w16.out rfl
  have y_a0_1 : w16.cell? ⟨w.heap.size, 1, none⟩ = some (.int .i64 xL0_1) := box_cell i_a0_w16.out rfl
  have y_a0_2 : w16.cell? ⟨w.heap.size, 2, none⟩ = some (.int .i64 xL0_2) := box_cell i_a0_w16.out rfl
  have y_a0_3 : w16.cell? ⟨w.heap.size, 3, none⟩ = some (.slice aA0_3 nA0_3 cA0_3) := box_cell i_a0_w16.out rfl
  have y_a0_4 : w16.cell? ⟨w.heap.size, 4, none⟩ = some (.slice aA0_4 nA0_4 cA0_4) := box_cell i_a0_w16.out rfl
  have y_a0_5 : w16.cell? ⟨w.heap.size, 5, none⟩ = some (.slice aA0_5 nA0_5 cA0_5) := box_cell i_a0_w16.out rfl
  go_wp2_with fail
  clear zl_a0 y_a0_0 y_a0_1 y_a0_2 y_a0_3 y_a0_4 y_a0_5
  refine (qto0.out _ bw16 HZ0.out).mono ?_
  rintro e w17 ⟨cs_h0, F_h0, he_h0, p_h0, nd_h0, hbw17⟩
  have zw17 : w16.heap.size ≤ w17.heap.size := hbw17.size
  have bw17 := bw16.trans (hbw17.mono bw16.size)
  clear bw16
  have sw17 := sw16.trans (hbw17.mono sw16.size)
  clear sw16
  have o_g0_w17 := o_g0_w16.later hbw17
  clear o_g0_w16
  have i_a0_w17 : Hid (w17.heap[w.heap.size]? = some (.cells #[.int .i64 xL0_0, .int .i64 xL0_1, .int .i64 xL0_2, .slice aA0_3 nA0_3 cA0_3, .slice aA0_4 nA0_4 cA0_4, .slice aA0_5 nA0_5 cA0_5] 26 (0, 0))) := (hbw17.block _ (by omega)).trans i_a0_w16.out
  clear i_a0_w16
  have i_W0_w17 : Hid (w17.heap[w4.heap.size]? = some (.cells #[.int .i64 xO0_0, .int .i64 xO0_1, .int .i64 xO0_2, .slice aW0_3 nW0_3 cW0_3, .slice aW0_4 nW0_4 cW0_4, .slice aW0_5 nW0_5 cW0_5] 33 (0, 0))) := (hbw17.block _ (by omega)).trans i_W0_w16.out
  clear i_W0_w16
  have i_g0_w17 : Hid (w17.heap[w8.heap.size]? = some (.cells #[.int .i64 xO0_0, .int .i64 xO0_1, .int .i64 xO0_2, .slice ag0_3 ng0_3 cg0_3, .slice ag0_4 ng0_4 cg0_4, .slice ag0_5 ng0_5 cg0_5] 33 (0, 0))) := (hbw17.block _ (by omega)).trans i_g0_w16.out
  clear i_g0_w16
  clear hbw17
  have lt_h0 : Hid (∀ g ∈ F_h0, w16.heap.size ≤ g ∧ g < w17.heap.size) := p_h0.lt
  obtain ⟨ah0_3, nh0_3, ch0_3, ah0_4, nh0_4, ch0_4, ah0_5, nh0_5, ch0_5, hq_h0, _⟩ := open_Disk p_h0.reads
  rw [← HEL0.out.1, ← HEL0.out.2.1, ← HEL0.out.2.2.1] at hq_h0
  subst hq_h0
  subst he_h0
  go_wp2_with fail
  refine (qI.out _ _ _ (p_h0.base (Nat.zero_le _)) HZ0.out).mono ?_
  rintro e w18 ⟨k0, F_k0, he_k, p_k0, nd_k0, hbw18⟩
  have zw18 : w17.heap.size ≤ w18.heap.size := hbw18.size
  have bw18 := bw17.trans (hbw18.mono bw17.size)
  clear bw17
  have sw18 := sw17.trans (hbw18.mono sw17.size)
  clear sw17
  have o_g0_w18 := o_g0_w17.later hbw18
  clear o_g0_w17
  have o_h0_w18 := p_h0.later hbw18
  clear p_h0
  have i_a0_w18 : Hid (w18.heap[w.heap.size]? = some (.cells #[.int .i64 xL0_0, .int .i64 xL0_1, .int .i64 xL0_2, .slice aA0_3 nA0_3 cA0_3, .slice aA0_4 nA0_4 cA0_4, .slice aA0_5 nA0_5 cA0_5] 26 (0, 0))) := (hbw18.block _ (by omega)).trans i_a0_w17.out
  clear i_a0_w17
  have i_W0_w18 : Hid (w18.heap[w4.heap.size]? = some (.cells #[.int .i64 xO0_0, .int .i64 xO0_1, .int .i64 xO0_2, .slice aW0_3 nW0_3 cW0_3, .slice aW0_4 nW0_4 cW0_4, .slice aW0_5 nW0_5 cW0_5] 33 (0, 0))) := (hbw18.block _ (by omega)).trans i_W0_w17.out
  clear i_W0_w17
  have i_g0_w18 : Hid (w18.heap[w8.heap.size]? = some (.cells #[.int .i64 xO0_0, .int .i64 xO0_1, .int .i64 xO0_2, .slice ag0_3 ng0_3 cg0_3, .slice ag0_4 ng0_4 cg0_4, .slice ag0_5 ng0_5 cg0_5] 33 (0, 0))) := (hbw18.block _ (by omega)).trans i_g0_w17.out
  clear i_g0_w17
  clear hbw18
  have lt_k0 : Hid (∀ g ∈ F_k0, w17.heap.size ≤ g ∧ g < w18.heap.size) := p_k0.lt
  obtain ⟨ak0_3, nk0_3, ck0_3, ak0_4, nk0_4, ck0_4, ak0_5, nk0_5, ck0_5, hq_k0, _⟩ := open_Disk p_k0.reads
  rw [← HEO0.out.1, ← HEO0.out.2.1, ← HEO0.out.2.2.1] at hq_k0
  subst hq_k0
  subst he_k
  have zl_W0 : w4.heap.size < w18.heap.size := by omega
  have y_W0_0 : w18.cell? ⟨w4.heap.size, 0, none⟩ = some (.int .i64 xO0_0) := box_cell i_W0_w18.out rfl
  have y_W0_1 : w18.cell? ⟨w4.heap.size, 1, none⟩ = some (.int .i64 xO0_1) := box_cell i_W0_w18.out rfl
  have y_W0_2 : w18.cell? ⟨w4.heap.size, 2, none⟩ = some (.int .i64 xO0_2) := box_cell i_W0_w18.out rfl
  have y_W0_3 : w18.cell? ⟨w4.heap.size, 3, none⟩ = some (.slice aW0_3 nW0_3 cW0_3) := box_cell i_W0_w18.out rfl
  have y_W0_4 : w18.cell? ⟨w4.heap.size, 4, none⟩ = some (.slice aW0_4 nW0_4 cW0_4) := box_cell i_W0_w18.out rfl
  have y_W0_5 : w18.cell? ⟨w4.heap.size, 5, none⟩ = some (.slice aW0_5 nW0_5 cW0_5) := box_cell i_W0_w18.out rfl
  go_wp2_with fail
  clear zl_W0 y_W0_0 y_W0_1 y_W0_2 y_W0_3 y_W0_4 y_W0_5
  obtain ⟨w19, hw19⟩ : ∃ W, W = w18.alloc (.cells #[.int .i64 xO0_0, .int .i64 xO0_1, .int .i64 xO0_2, .slice ak0_3 nk0_3 ck0_3, .slice ak0_4 nk0_4 ck0_4, .slice ak0_5 nk0_5 ck0_5] 33) := ⟨_, rfl⟩
  have hbw19 : Below w18.heap.size w18 w19 := by rw [hw19]; exact (Below.refl _ _).alloc (Nat.le_refl _) _
  have i_k0_w19 : Hid (w19.heap[w18.heap.size]? = some (.cells #[.int .i64 xO0_0, .int .i64 xO0_1, .int .i64 xO0_2, .slice ak0_3 nk0_3 ck0_3, .slice ak0_4 nk0_4 ck0_4, .slice ak0_5 nk0_5 ck0_5] 33 (0, 0))) := by show _ = _; rw [hw19]; exact heap_alloc_new w18 _
  have zzw19 : w19.heap.size = w18.heap.size + 1 := by rw [hw19]; simp
  rw [← hw19]
  clear hw19
  have zw19 : w18.heap.size ≤ w19.heap.size := hbw19.size
  have bw19 := bw18.trans (hbw19.mono bw18.size)
  clear bw18
  have sw19 := sw18.trans (hbw19.mono sw18.size)
  clear sw18
  have o_g0_w19 := o_g0_w18.later hbw19
  clear o_g0_w18
  have o_h0_w19 := o_h0_w18.later hbw19
  clear o_h0_w18
  have o_k0_w19 := p_k0.later hbw19
  clear p_k0
  have i_a0_w19 : Hid (w19.heap[w.heap.size]? = some (.cells #[.int .i64 xL0_0, .int .i64 xL0_1, .int .i64 xL0_2, .slice aA0_3 nA0_3 cA0_3, .slice aA0_4 nA0_4 cA0_4, .slice aA0_5 nA0_5 cA0_5] 26 (0, 0))) := (hbw19.block _ (by omega)).trans i_a0_w18.out
  clear i_a0_w18
  have i_W0_w19 : Hid (w19.heap[w4.heap.size]? = some (.cells #[.int .i64 xO0_0, .int .i64 xO0_1, .int .i64 xO0_2, .slice aW0_3 nW0_3 cW0_3, .slice aW0_4 nW0_4 cW0_4, .slice aW0_5 nW0_5 cW0_5] 33 (0, 0))) := (hbw19.block _ (by omega)).trans i_W0_w18.out
  clear i_W0_w18
  have i_g0_w19 : Hid (w19.heap[w8.heap.size]? = some (.cells #[.int .i64 xO0_0, .int .i64 xO0_1, .int .i64 xO0_2, .slice ag0_3 ng0_3 cg0_3, .slice ag0_4 ng0_4 cg0_4, .slice ag0_5 ng0_5 cg0_5] 33 (0, 0))) := (hbw19.block _ (by omega)).trans i_g0_w18.out
  clear i_g0_w18
  clear hbw19
  refine (eqDisk_any _ _ D0 _ o_k0_w19.reads (RW0.out.later sw19) HD0.out.1).mono ?_
  rintro e w20 ⟨rfl, hbw20⟩
  have zw20 : w19.heap.size ≤ w20.heap.size := hbw20.size
  have bw20 := bw19.trans (hbw20.mono bw19.size)
  clear bw19
  have sw20 := sw19.trans (hbw20.mono sw19.size)
  clear sw19
  have o_g0_w20 := o_g0_w19.later hbw20
  clear o_g0_w19
  have o_h0_w20 := o_h0_w19.later hbw20
  clear o_h0_w19
  have o_k0_w20 := o_k0_w19.later hbw20
  clear o_k0_w19
  have i_a0_w20 : Hid (w20.heap[w.heap.size]? = some (.cells #[.int .i64 xL0_0, .int .i64 xL0_1, .int .i64 xL0_2, .slice aA0_3 nA0_3 cA0_3, .slice aA0_4 nA0_4 cA0_4, .slice aA0_5 nA0_5 cA0_5] 26 (0, 0))) := (hbw20.block _ (by omega)).trans i_a0_w19.out
  clear i_a0_w19
  have i_W0_w20 : Hid (w20.heap[w4.heap.size]? = some (.cells #[.int .i64 xO0_0, .int .i64 xO0_1, .int .i64 xO0_2, .slice aW0_3 nW0_3 cW0_3, .slice aW0_4 nW0_4 cW0_4, .slice aW0_5 nW0_5 cW0_5] 33 (0, 0))) := (hbw20.block _ (by omega)).trans i_W0_w19.out
  clear i_W0_w19
  have i_g0_w20 : Hid (w20.heap[w8.heap.size]? = some (.cells #[.int .i64 xO0_0, .int .i64 xO0_1, .int .i64 xO0_2, .slice ag0_3 ng0_3 cg0_3, .slice ag0_4 ng0_4 cg0_4, .slice ag0_5 ng0_5 cg0_5] 33 (0, 0))) := (hbw20.block _ (by omega)).trans i_g0_w19.out
  clear i_g0_w19
  have i_k0_w20 : Hid (w20.heap[w18.heap.size]? = some (.cells #[.int .i64 xO0_0, .int .i64 xO0_1, .int .i64 xO0_2, .slice ak0_3 nk0_3 ck0_3, .slice ak0_4 nk0_4 ck0_4, .slice ak0_5 nk0_5 ck0_5] 33 (0, 0))) := (hbw20.block _ (by omega)).trans i_k0_w19.out
  clear i_k0_w19
  clear hbw20
  have zl_g0 : w8.heap.size < w20.heap.size := by omega
  have y_g0_0 : w20.cell? ⟨w8.heap.size, 0, none⟩ = some (.int .i64 xO0_0) := box_cell i_g0_w20.out rfl
  have y_g0_1 : w20.cell? ⟨w8.heap.size, 1, none⟩ = some (.int .i64 xO0_1) := box_cell i_g0_w20.out rfl
  have y_g0_2 : w20.cell? ⟨w8.heap.size, 2, none⟩ = some (.int .i64 xO0_2) := box_cell i_g0_w20.out rfl
  have y_g0_3 : w20.cell? ⟨w8.heap.size, 3, none⟩ = some (.slice ag0_3 ng0_3 cg0_3) := box_cell i_g0_w20.out rfl
  have y_g0_4 : w20.cell? ⟨w8.heap.size, 4, none⟩ = some (.slice ag0_4 ng0_4 cg0_4) := box_cell i_g0_w20.out rfl
  have y_g0_5 : w20.cell? ⟨w8.heap.size, 5, none⟩ = some (.slice ag0_5 ng0_5 cg0_5) := box_cell i_g0_w20.out rfl
  go_wp2_with fail
  clear zl_g0 y_g0_0 y_g0_1 y_g0_2 y_g0_3 y_g0_4 y_g0_5
  refine (heldDisk_own _ _ (1) D0 F_g0 _ o_g0_w20 nd_g0 (by omega) (by omega)).mono ?_
  rintro e w21 ⟨rfl, hbw21⟩
  have zw21 : w20.heap.size ≤ w21.heap.size := hbw21.size
  have bw21 := bw20.trans (hbw21.mono bw20.size)
  clear bw20
  have sw21 := sw20.trans (hbw21.mono sw20.size)
  clear sw20
  have o_g0_w21 := o_g0_w20.later hbw21
  clear o_g0_w20
  have o_h0_w21 := o_h0_w20.later hbw21
  clear o_h0_w20
  have o_k0_w21 := o_k0_w20.later hbw21
  clear o_k0_w20
  have i_a0_w21 : Hid (w21.heap[w.heap.size]? = some (.cells #[.int .i64 xL0_0, .int .i64 xL0_1, .int .i64 xL0_2, .slice aA0_3 nA0_3 cA0_3, .slice aA0_4 nA0_4 cA0_4, .slice aA0_5 nA0_5 cA0_5] 26 (0, 0))) := (hbw21.block _ (by omega)).trans i_a0_w20.out
  clear i_a0_w20
  have i_W0_w21 : Hid (w21.heap[w4.heap.size]? = some (.cells #[.int .i64 xO0_0, .int .i64 xO0_1, .int .i64 xO0_2, .slice aW0_3 nW0_3 cW0_3, .slice aW0_4 nW0_4 cW0_4, .slice aW0_5 nW0_5 cW0_5] 33 (0, 0))) := (hbw21.block _ (by omega)).trans i_W0_w20.out
  clear i_W0_w20
  have i_g0_w21 : Hid (w21.heap[w8.heap.size]? = some (.cells #[.int .i64 xO0_0, .int .i64 xO0_1, .int .i64 xO0_2, .slice ag0_3 ng0_3 cg0_3, .slice ag0_4 ng0_4 cg0_4, .slice ag0_5 ng0_5 cg0_5] 33 (0, 0))) := (hbw21.block _ (by omega)).trans i_g0_w20.out
  clear i_g0_w20
  have i_k0_w21 : Hid (w21.heap[w18.heap.size]? = some (.cells #[.int .i64 xO0_0, .int .i64 xO0_1, .int .i64 xO0_2, .slice ak0_3 nk0_3 ck0_3, .slice ak0_4 nk0_4 ck0_4, .slice ak0_5 nk0_5 ck0_5] 33 (0, 0))) := (hbw21.block _ (by omega)).trans i_k0_w20.out
  clear i_k0_w20
  clear hbw21
  go_wp2
  go_ret
  exact ⟨rfl, bw21⟩

end Go.Proofs.YtkjnbjohicgooaaGreat

/- WDiskCalm: The law FnExactDiskCalm over the contracts of its two functions. -/
namespace Go.Proofs.YtkjnbjohicgooaaGreat
open Go.RowKit
set_option linter.unusedVariables false
set_option maxRecDepth 100000

theorem wd_DiskC : shDisk.wd = 12 := rfl
theorem cntV_DiskC (d : shDisk.D) (h : shDisk.sz d ≤ 1048576) : shDisk.cntV d ≤ 1000000000 := by
  have h1 := shDisk.cnt_le d
  have h2 := shDisk.cntV_le d
  rw [wd_DiskC] at h1
  omega

def zeroC : shDisk.D := ((0 : Int), (0 : Int), (0 : Int), [], [], [], ())
theorem own_zeroC (w : World) (B : Nat) : Own shDisk w B [.int .i64 0, .int .i64 0, .int .i64 0, .slice none 0 0, .slice none 0 0, .slice none 0 0] zeroC [] :=
  own_Disk (d := zeroC) (F3 := []) (F4 := []) (F5 := []) (.inl ⟨rfl, rfl, rfl⟩) (.inl ⟨rfl, rfl, rfl⟩) (.inl ⟨rfl, rfl, rfl⟩)
theorem sz_zeroC : shDisk.sz zeroC = 0 := rfl

theorem diskCalm_law (cs : List Value) (d : shDisk.D) (w : World) (hr : Reads shDisk w cs d) :
    Calls Tryz.prog 6 #[.agg cs.toArray] w fun e w' => e = .returned (.bool true) ∧ Below w.heap.size w w' := by
  have hz : shDisk.sz zeroC ≤ 1048576 := by rw [sz_zeroC]; omega
  by_cases hs : shDisk.sz d ≤ 1048576
  · cases hok : implOkB d with
    | false =>
      refine diskCalm_over cs d zeroC false w hr hz (cntV_DiskC _ hz) (cntV_DiskC d) ?_ ?_
      · intro w' c G ho _
        refine (specCalm_bad c d w' ho.reads hs hok).mono ?_
        rintro e w'' ⟨rfl, hb⟩
        exact ⟨_, rfl, (own_zeroC w'' 0).reads, hb⟩
      · intro w' c G ho _
        refine (implCalm_bad c d w' ho.reads hs hok).mono ?_
        rintro e w'' ⟨rfl, hb⟩
        exact ⟨_, [], rfl, own_zeroC w'' _, by simp, hb⟩
    | true =>
      have hp : specOkP d := (ok_same d).2 hok
      have hc := calm_sz hp
      refine diskCalm_over cs d (calmD d) true w hr hc (cntV_DiskC _ hc) (cntV_DiskC d) ?_ ?_
      · intro w' c G ho _
        exact specCalm_good c d 0 G w' ho hs hok
      · intro w' c G ho _
        exact implCalm_good c d w' ho.reads hs hok
  · exact diskCalm_over cs d zeroC false w hr hz (cntV_DiskC _ hz) (fun h => absurd h hs) (fun _ _ _ _ h => absurd h hs) (fun _ _ _ _ h => absurd h hs)

end Go.Proofs.YtkjnbjohicgooaaGreat
