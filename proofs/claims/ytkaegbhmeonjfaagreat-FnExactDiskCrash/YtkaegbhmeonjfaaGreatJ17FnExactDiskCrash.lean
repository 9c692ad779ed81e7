/-
  Joined: CrashI, OnlyS.
-/
import Derived.Test.YtkaegbhmeonjfaaGreatJ16FnExactDiskCrash
import Derived.Test.YtkaegbhmeonjfaaGreatJ10FnExactDiskCrash
import Derived.Test.YtkaegbhmeonjfaaGreatJ3FnExactDiskCrash
import Derived.Test.YtkaegbhmeonjfaaGreatJ6FnExactDiskCrash
import Derived.Test.YtkaegbhmeonjfaaGreatJ9FnExactDiskCrash
import Derived.Deep.RegionHeld3
/- CrashI: DiskCrash of the program. By program (crashgen2.py). -/
namespace Go.Proofs.YtkaegbhmeonjfaaGreat
open Go.RowKit
set_option linter.unusedVariables false
set_option maxRecDepth 100000
set_option linter.unusedSimpArgs false

set_option maxRecDepth 100000 in
set_option maxHeartbeats 2000000 in
theorem implCrash_bad (cs : List Value) (tn : Int) (vc6 : Value) (d : shDisk.D) (w : World) (hr : Reads shDisk w cs d) (hs : shDisk.sz d ≤ 1048576) (hok : implOkB d = false) :
    Calls Tryz.prog 10 #[.agg cs.toArray, .int .i64 tn, vc6] w fun e w' => e = .returned (.tuple #[.agg #[.int .i64 0, .int .i64 0, .int .i64 0, .slice none 0 0, .slice none 0 0, .slice none 0 0], .bool false]) ∧ Below w.heap.size w w' := by
  obtain ⟨a3, n3, c3, a4, n4, c4, a5, n5, c5, rfl, r3, r4, r5⟩ := open_Disk hr
  obtain ⟨x0, e0⟩ : ∃ x : Int, x = d.1 := ⟨_, rfl⟩
  obtain ⟨x1, e1⟩ : ∃ x : Int, x = d.2.1 := ⟨_, rfl⟩
  obtain ⟨x2, e2⟩ : ∃ x : Int, x = d.2.2.1 := ⟨_, rfl⟩
  have qok : Hid (∀ w', Below w.heap.size w w' → Calls Tryz.prog 39 #[.agg #[.int .i64 x0, .int .i64 x1, .int .i64 x2, .slice a3 n3 c3, .slice a4 n4 c4, .slice a5 n5 c5]] w' fun e w'' => e = .returned (.bool false) ∧ Below w'.heap.size w' w'') := fun w' h' => by
    rw [e0, e1, e2, ← hok]; exact implOk_ok _ d w' (hr.later h') hs
  rw [← e0, ← e1, ← e2]
  obtain ⟨W0, hW0⟩ : ∃ W0, W0 = (w.alloc (.cells #[.int .i64 x0, .int .i64 x1, .int .i64 x2, .slice a3 n3 c3, .slice a4 n4 c4, .slice a5 n5 c5] 33)).alloc (.cells #[.int .i64 0, .int .i64 0, .int .i64 0, .slice none 0 0, .slice none 0 0, .slice none 0 0] 33) := ⟨_, rfl⟩
  have bW0 : Below w.heap.size w W0 := by rw [hW0]; exact ((Below.refl _ _).alloc (Nat.le_refl _) _).alloc (by simp) _
  have hB : W0.heap[w.heap.size + 1]? = some (.cells #[.int .i64 0, .int .i64 0, .int .i64 0, .slice none 0 0, .slice none 0 0, .slice none 0 0] 33 (0, 0)) := by rw [hW0]; have := heap_alloc_new (w.alloc (.cells #[.int .i64 x0, .int .i64 x1, .int .i64 x2, .slice a3 n3 c3, .slice a4 n4 c4, .slice a5 n5 c5] 33)) (.cells #[.int .i64 0, .int .i64 0, .int .i64 0, .slice none 0 0, .slice none 0 0, .slice none 0 0] 33); simpa using this
  have zW0 : W0.heap.size = w.heap.size + 1 + 1 := by rw [hW0]; simp
  have HW0 : Hid (W0 = _) := hW0
  have HB : Hid _ := hB
  clear hr hs r3 r4 r5 e0 e1 e2 hok hW0 hB
  go_enter Tryz.func10, Tryz.ntmps10
  go_wp2_with fail
  rw [← HW0.out]
  refine (qok.out _ bW0).mono ?_
  rintro e w1 ⟨rfl, hb1⟩
  have b1 := bW0.trans (hb1.mono bW0.size)
  have i1 : w1.heap[w.heap.size + 1]? = some (.cells #[.int .i64 0, .int .i64 0, .int .i64 0, .slice none 0 0, .slice none 0 0, .slice none 0 0] 33 (0, 0)) := (hb1.block _ (by omega)).trans HB.out
  have yr0 : w1.cell? ⟨w.heap.size + 1, 0, none⟩ = some (.int .i64 0) := box_cell i1 rfl
  have yg0 : w1.frozen? ⟨w.heap.size + 1, 0, none⟩ = false := box_frozen i1
  have yr1 : w1.cell? ⟨w.heap.size + 1, 1, none⟩ = some (.int .i64 0) := box_cell i1 rfl
  have yg1 : w1.frozen? ⟨w.heap.size + 1, 1, none⟩ = false := box_frozen i1
  have yr2 : w1.cell? ⟨w.heap.size + 1, 2, none⟩ = some (.int .i64 0) := box_cell i1 rfl
  have yg2 : w1.frozen? ⟨w.heap.size + 1, 2, none⟩ = false := box_frozen i1
  have yr3 : w1.cell? ⟨w.heap.size + 1, 3, none⟩ = some (.slice none 0 0) := box_cell i1 rfl
  have yg3 : w1.frozen? ⟨w.heap.size + 1, 3, none⟩ = false := box_frozen i1
  have yr4 : w1.cell? ⟨w.heap.size + 1, 4, none⟩ = some (.slice none 0 0) := box_cell i1 rfl
  have yg4 : w1.frozen? ⟨w.heap.size + 1, 4, none⟩ = false := box_frozen i1
  have yr5 : w1.cell? ⟨w.heap.size + 1, 5, none⟩ = some (.slice none 0 0) := box_cell i1 rfl
  have yg5 : w1.frozen? ⟨w.heap.size + 1, 5, none⟩ = false := box_frozen i1
  have yz0 : ((w1).setCell ⟨w.heap.size + 1, 0, none⟩ (.int .i64 0)).cell? ⟨w.heap.size + 1, 0, none⟩ = some (.int .i64 0) := World.cell?_setCell_same _ _ _ (by exact yr0)
  have yz1 : (((w1).setCell ⟨w.heap.size + 1, 0, none⟩ (.int .i64 0)).setCell ⟨w.heap.size + 1, 1, none⟩ (.int .i64 0)).cell? ⟨w.heap.size + 1, 1, none⟩ = some (.int .i64 0) := World.cell?_setCell_same _ _ _ (by rw [World.cell?_setCell_other _ _ _ _ (by simp)]; exact yr1)
  have yz2 : ((((w1).setCell ⟨w.heap.size + 1, 0, none⟩ (.int .i64 0)).setCell ⟨w.heap.size + 1, 1, none⟩ (.int .i64 0)).setCell ⟨w.heap.size + 1, 2, none⟩ (.int .i64 0)).cell? ⟨w.heap.size + 1, 2, none⟩ = some (.int .i64 0) := World.cell?_setCell_same _ _ _ (by rw [World.cell?_setCell_other _ _ _ _ (by simp), World.cell?_setCell_other _ _ _ _ (by simp)]; exact yr2)
  have yz3 : (((((w1).setCell ⟨w.heap.size + 1, 0, none⟩ (.int .i64 0)).setCell ⟨w.heap.size + 1, 1, none⟩ (.int .i64 0)).setCell ⟨w.heap.size + 1, 2, none⟩ (.int .i64 0)).setCell ⟨w.heap.size + 1, 3, none⟩ (.slice none 0 0)).cell? ⟨w.heap.size + 1, 3, none⟩ = some (.slice none 0 0) := World.cell?_setCell_same _ _ _ (by rw [World.cell?_setCell_other _ _ _ _ (by simp), World.cell?_setCell_other _ _ _ _ (by simp), World.cell?_setCell_other _ _ _ _ (by simp)]; exact yr3)
  have yz4 : ((((((w1).setCell ⟨w.heap.size + 1, 0, none⟩ (.int .i64 0)).setCell ⟨w.heap.size + 1, 1, none⟩ (.int .i64 0)).setCell ⟨w.heap.size + 1, 2, none⟩ (.int .i64 0)).setCell ⟨w.heap.size + 1, 3, none⟩ (.slice none 0 0)).setCell ⟨w.heap.size + 1, 4, none⟩ (.slice none 0 0)).cell? ⟨w.heap.size + 1, 4, none⟩ = some (.slice none 0 0) := World.cell?_setCell_same _ _ _ (by rw [World.cell?_setCell_other _ _ _ _ (by simp), World.cell?_setCell_other _ _ _ _ (by simp), World.cell?_setCell_other _ _ _ _ (by simp), World.cell?_setCell_other _ _ _ _ (by simp)]; exact yr4)
  have yz5 : (((((((w1).setCell ⟨w.heap.size + 1, 0, none⟩ (.int .i64 0)).setCell ⟨w.heap.size + 1, 1, none⟩ (.int .i64 0)).setCell ⟨w.heap.size + 1, 2, none⟩ (.int .i64 0)).setCell ⟨w.heap.size + 1, 3, none⟩ (.slice none 0 0)).setCell ⟨w.heap.size + 1, 4, none⟩ (.slice none 0 0)).setCell ⟨w.heap.size + 1, 5, none⟩ (.slice none 0 0)).cell? ⟨w.heap.size + 1, 5, none⟩ = some (.slice none 0 0) := World.cell?_setCell_same _ _ _ (by rw [World.cell?_setCell_other _ _ _ _ (by simp), World.cell?_setCell_other _ _ _ _ (by simp), World.cell?_setCell_other _ _ _ _ (by simp), World.cell?_setCell_other _ _ _ _ (by simp), World.cell?_setCell_other _ _ _ _ (by simp)]; exact yr5)
  have HB1 : Hid (Below w.heap.size w w1) := b1
  clear i1 hb1 b1
  go_wp2
  (try simp only [Exit.inBlock, Exit.then])
  refine bodyPost_ret (by simp [results, Tryz.results10, go_sem, yz0, yz1, yz2, yz3, yz4, yz5]; try rfl) rfl ?_
  exact ⟨rfl, ((((((HB1.out.setCell (p := ⟨w.heap.size + 1, 0, none⟩) (by simp <;> omega) _).setCell (p := ⟨w.heap.size + 1, 1, none⟩) (by simp <;> omega) _).setCell (p := ⟨w.heap.size + 1, 2, none⟩) (by simp <;> omega) _).setCell (p := ⟨w.heap.size + 1, 3, none⟩) (by simp <;> omega) _).setCell (p := ⟨w.heap.size + 1, 4, none⟩) (by simp <;> omega) _).setCell (p := ⟨w.heap.size + 1, 5, none⟩) (by simp <;> omega) _)⟩

theorem node_len2 {d : shDisk.D} (h : shDisk.sz d ≤ 1048576) {nd : List NodeD} (hnd : nd = d.2.2.2.1) {x : NodeD} (hx : x ∈ nd) : List.length (α := Int) x.2.2.1 ≤ 1048576 := by
  obtain ⟨i, hi, rfl⟩ := List.mem_iff_getElem.1 hx
  rw [sz_Disk, ← hnd] at h
  have h2 := sz_elem shNode nd i _ (List.getElem?_eq_getElem hi)
  have h3 := node_szN (nd[i])
  have h6 : safeLen (nd[i]) = List.length (α := Int) (nd[i]).2.2.1 := rfl
  have h4 : Sh.sz (.sl shNode) nd = List.length (α := NodeD) nd + (List.map shNode.sz nd).sum := rfl
  have h5 : shNode.sz (nd[i]) ≤ (List.map shNode.sz nd).sum := h2
  omega

set_option maxRecDepth 100000 in
set_option maxHeartbeats 16000000 in
theorem implCrash_good (cs : List Value) (d : shDisk.D) (tn : Int) (a6 : Option Addr) (n6 c6 : Nat) (cuts : List Int) (B0 : Nat) (G0 : List Nat) (w : World) (hcu : Reads (.sl .int) w [.slice a6 n6 c6] cuts) (hcn : n6 ≤ 1048576) (hwf : ∀ i : Nat, -9223372036854775808 ≤ cuts[i]?.getD 0 ∧ cuts[i]?.getD 0 ≤ 9223372036854775807) (ht1 : -9223372036854775808 ≤ tn) (ht2 : tn ≤ 9223372036854775807) (ho : Own shDisk w B0 cs d G0) (hs : shDisk.sz d ≤ 1048576) (hok : implOkB d = true) :
    Calls Tryz.prog 10 #[.agg cs.toArray, .int .i64 tn, .slice a6 n6 c6] w fun e w' => ∃ cs' F, e = .returned (.tuple #[.agg cs'.toArray, .bool true]) ∧ Own shDisk w' w.heap.size cs' (crashD d tn cuts) F ∧ F.Nodup ∧ Below w.heap.size w w' := by
  have hp : specOkP d := (ok_same d).2 hok
  obtain ⟨a3, n3, c3, F3o, a4, n4, c4, F4o, a5, n5, c5, F5o, rfl, _, o3, o4, o5⟩ := openO_Disk ho
  have hr := ho.reads
  have r3 := o3.reads
  have r4 := o4.reads
  have r5 := o5.reads
  have hn5 : a5 = none → c5 = 0 := fun e => by subst e; exact (own_nil o5).2.1
  obtain ⟨KT, hK⟩ : ∃ z, z = turnsN tn (List.length (α := TurnD) d.2.2.2.2.2.1) := ⟨_, rfl⟩
  obtain ⟨x0, e0⟩ : ∃ x : Int, x = d.1 := ⟨_, rfl⟩
  obtain ⟨x1, e1⟩ : ∃ x : Int, x = d.2.1 := ⟨_, rfl⟩
  obtain ⟨x2, e2⟩ : ∃ x : Int, x = d.2.2.1 := ⟨_, rfl⟩
  obtain ⟨DL, hDL⟩ : ∃ l : List LinkD, l = dirL d.2.2.2.2.1 (List.take (α := TurnD) KT d.2.2.2.2.2.1) := ⟨_, rfl⟩
  obtain ⟨P, hPs, hPr, hPe⟩ := rowP_own o3
  have hPl : P.length = n3 := by
    have h1 := congrArg List.length hPs
    rw [List.length_map] at h1
    exact h1.trans (reads_len r3).1
  obtain ⟨Q, hQ⟩ : ∃ Q, Q = keepP DL P := ⟨_, rfl⟩
  obtain ⟨M, hM⟩ : ∃ M, M = Q.length := ⟨_, rfl⟩
  have l3 : List.length (α := NodeD) d.2.2.2.1 = n3 := (reads_len r3).1
  have l4 : List.length (α := LinkD) d.2.2.2.2.1 = n4 := (reads_len r4).1
  have l5 : List.length (α := TurnD) d.2.2.2.2.2.1 = n5 := (reads_len r5).1
  have lims := hp.1
  have h8' : List.length (α := NodeD) d.2.2.2.1 ≤ 8 := lims.2.2.2.2.2.2.1
  have h9' : List.length (α := LinkD) d.2.2.2.2.1 ≤ 8 := lims.2.2.2.2.2.2.2.1
  have h40' : List.length (α := TurnD) d.2.2.2.2.2.1 ≤ 40 := lims.2.2.2.2.2.2.2.2
  have s45 : n4 + n5 ≤ 48 := by omega
  have s3 : n3 ≤ 8 := by omega
  have hM8 : M ≤ 8 := by
    have := keepP_len DL P
    rw [hM, hQ]; omega
  have hKn : KT ≤ n5 := by rw [hK, l5]; exact turnsN_le _ _
  have hMM : min (max tn 0) (n5 : Int) = (KT : Int) := by
    rw [hK, l5]; unfold turnsN
    split
    · omega
    · split <;> omega
  have hc5 : n5 ≤ c5 ∧ c5 ≤ maxLen := (reads_len r5).2
  unfold maxLen at hc5
  have rK : Reads (.sl shTurn) w [.slice a5 KT c5] (List.take (α := TurnD) KT d.2.2.2.2.2.1) := reads_take r5 hKn
  have hQmem : ∀ p ∈ Q, (∃ f, Own shNode w B0 p.1 p.2 f) ∧ List.length (α := Int) p.2.2.1 ≤ 1048576 ∧ List.length (α := Int) p.2.2.2.1 ≤ 1048576 := fun p hp' => by
    rw [hQ] at hp'
    have hpP : p ∈ P := (List.mem_filter.1 hp').1
    exact ⟨hPe p hpP, node_len hs hPs (List.mem_map.2 ⟨p, hpP, rfl⟩), node_len2 hs hPs (List.mem_map.2 ⟨p, hpP, rfl⟩)⟩
  have hQd : crashFrom cuts 0 (Q.map Prod.snd) = crashFrom cuts 0 (keepN DL d.2.2.2.1) := by
    have h1 := keepP_snd DL P
    rw [hPs] at h1
    rw [← h1, hQ]
  have hDSl : (crashFrom cuts 0 (Q.map Prod.snd)).length = M := by rw [crash_len, List.length_map, hM]
  have qok : Hid (∀ w', Below w.heap.size w w' → Calls Tryz.prog 39 #[.agg #[.int .i64 x0, .int .i64 x1, .int .i64 x2, .slice a3 n3 c3, .slice a4 n4 c4, .slice a5 n5 c5]] w' fun e w'' => e = .returned (.bool true) ∧ Below w'.heap.size w' w'') := fun w' h' => by
    rw [e0, e1, e2, ← hok]; exact implOk_ok _ d w' (hr.later h') hs
  have qdir : Hid (∀ w', Below w.heap.size w w' → Calls Tryz.prog 42 #[.slice a4 n4 c4, .slice a5 KT c5] w' fun e w'' => e = .returned (.map (some w'.heap.size)) ∧ MapIs w'' w'.heap.size (n4 + KT) (dirF (List.reverse (α := LinkD) d.2.2.2.2.1) (List.take (α := TurnD) KT d.2.2.2.2.2.1)) ∧ Below w'.heap.size w' w'') := fun w' h' => directory_ok a4 n4 c4 _ a5 KT c5 _ w' (r4.later h') (rK.later h') (by omega)
  have qlk : Hid (∀ w' b, MapIs w' b (n4 + KT) (dirF (List.reverse (α := LinkD) d.2.2.2.2.1) (List.take (α := TurnD) KT d.2.2.2.2.2.1)) → Calls Tryz.prog 41 #[.map (some b)] w' fun e w'' => ∃ ka kn kc F, e = .returned (.slice ka kn kc) ∧ Own (.sl shLink) w'' w'.heap.size [.slice ka kn kc] DL F ∧ F.Nodup ∧ Below w'.heap.size w' w'') := fun w' b hm => by
    have h9 := links_dir hp KT b (n4 + KT) w'
    rw [hDL]
    refine (h9 hm (by omega)).mono ?_
    rintro e w'' ⟨v, F, rfl, ho, hnd, hb⟩
    obtain ⟨a, c, rfl, _⟩ := own_val ho
    exact ⟨a, _, c, F, rfl, ho, hnd, hb⟩
  have qko : Hid (∀ w' ka kn kc, Below w.heap.size w w' → Reads (.sl shLink) w' [.slice ka kn kc] DL → Calls Tryz.prog 40 #[.agg #[.int .i64 x0, .int .i64 x1, .int .i64 x2, .slice a3 n3 c3, .slice a4 n4 c4, .slice a5 n5 c5], .slice ka kn kc] w' fun e w'' => ∃ va vc, e = .returned (.agg #[.int .i64 x0, .int .i64 x1, .int .i64 x2, .slice va M vc, .slice ka kn kc, .slice none 0 0]) ∧ w''.ownsRow w'.heap.size 70 3 (.slice va M vc) M (Q.map Prod.fst).flatten ∧ Below w'.heap.size w' w'') := fun w' ka kn kc h' hk => by
    have hP' : RowP w' a3 P := fun k hk' => by
      obtain ⟨b, off, p1, m1, k1, p2, m2, k2, ha, hb, hc, c0, c1, c2⟩ := hPr k hk'
      exact ⟨b, off, p1, m1, k1, p2, m2, k2, ha, Nat.lt_of_lt_of_le hb h'.size, hc, (h'.cell hb).trans c0, (h'.cell hb).trans c1, (h'.cell hb).trans c2⟩
    refine (keepOnly_ok x0 x1 x2 a3 n3 c3 a4 n4 c4 a5 n5 c5 ka kn kc DL P w' hPl (by omega) hP' hk).mono ?_
    rintro e w'' ⟨v, rfl, ho, hb⟩
    have ho' : w''.ownsRow w'.heap.size 70 3 v M (Q.map Prod.fst).flatten := by rw [hM, hQ]; exact ho
    obtain ⟨va, vc, rfl⟩ : ∃ a c, v = .slice a M c := by
      rcases ho'.2 with ⟨h1, h2⟩ | ⟨g, cap, cur, hv, _⟩
      · exact ⟨none, 0, by rw [h1, h2]⟩
      · exact ⟨_, _, hv⟩
    exact ⟨va, vc, rfl, ho', hb⟩
  have HQ : Hid (Q.length = M ∧ (∀ p ∈ Q, (∃ f, Own shNode w B0 p.1 p.2 f) ∧ List.length (α := Int) p.2.2.1 ≤ 1048576 ∧ List.length (α := Int) p.2.2.2.1 ≤ 1048576)) := ⟨hM.symm, hQmem⟩
  have HDS : Hid ((crashFrom cuts 0 (Q.map Prod.snd)).length = M) := hDSl
  have HCU : Hid (Reads (.sl .int) w [.slice a6 n6 c6] cuts) := hcu
  have HWF : Hid (∀ i : Nat, -9223372036854775808 ≤ cuts[i]?.getD 0 ∧ cuts[i]?.getD 0 ≤ 9223372036854775807) := hwf
  have HCD : Hid (∀ v vk w' B F3 F4, Own (.sl shNode) w' B [v] (crashFrom cuts 0 (Q.map Prod.snd)) F3 → Own (.sl shLink) w' B [vk] DL F4 → Own shDisk w' B [.int .i64 x0, .int .i64 (-1), .int .i64 x2, v, vk, .slice none 0 0] (crashD d tn cuts) (F3 ++ (F4 ++ ([] ++ [])))) := fun v vk w' B F3 F4 h3 h4 => by
    rw [e0, e2]
    rw [hQd, hDL, hK] at h3
    rw [hDL, hK] at h4
    exact own_Disk (d := crashD d tn cuts) h3 h4 (.inl ⟨rfl, rfl, rfl⟩)
  rw [← e0, ← e1, ← e2]
  obtain ⟨W0, hW0⟩ : ∃ W0, W0 = (w.alloc (.cells #[.int .i64 x0, .int .i64 x1, .int .i64 x2, .slice a3 n3 c3, .slice a4 n4 c4, .slice a5 n5 c5] 33)).alloc (.cells #[.int .i64 0, .int .i64 0, .int .i64 0, .slice none 0 0, .slice none 0 0, .slice none 0 0] 33) := ⟨_, rfl⟩
  have bW0 : Below w.heap.size w W0 := by rw [hW0]; exact ((Below.refl _ _).alloc (Nat.le_refl _) _).alloc (by simp) _
  have hA : W0.heap[w.heap.size]? = some (.cells #[.int .i64 x0, .int .i64 x1, .int .i64 x2, .slice a3 n3 c3, .slice a4 n4 c4, .slice a5 n5 c5] 33 (0, 0)) := by rw [hW0, heap_alloc_old _ _ (by simp)]; exact heap_alloc_new w _
  have hB : W0.heap[w.heap.size + 1]? = some (.cells #[.int .i64 0, .int .i64 0, .int .i64 0, .slice none 0 0, .slice none 0 0, .slice none 0 0] 33 (0, 0)) := by rw [hW0]; have := heap_alloc_new (w.alloc (.cells #[.int .i64 x0, .int .i64 x1, .int .i64 x2, .slice a3 n3 c3, .slice a4 n4 c4, .slice a5 n5 c5] 33)) (.cells #[.int .i64 0, .int .i64 0, .int .i64 0, .slice none 0 0, .slice none 0 0, .slice none 0 0] 33); simpa using this
  have zW0 : W0.heap.size = w.heap.size + 1 + 1 := by rw [hW0]; simp
  have HW0 : Hid (W0 = _) := hW0
  have BX : Hid (∀ w', Below W0.heap.size W0 w' → w'.cell? ⟨w.heap.size, 0, none⟩ = some (.int .i64 x0) ∧ w'.cell? ⟨w.heap.size, 1, none⟩ = some (.int .i64 x1) ∧ w'.cell? ⟨w.heap.size, 2, none⟩ = some (.int .i64 x2) ∧ w'.cell? ⟨w.heap.size, 3, none⟩ = some (.slice a3 n3 c3) ∧ w'.cell? ⟨w.heap.size, 4, none⟩ = some (.slice a4 n4 c4) ∧ w'.cell? ⟨w.heap.size, 5, none⟩ = some (.slice a5 n5 c5)) := fun w' h' => by
    have i := (h'.block w.heap.size (by omega)).trans hA
    exact ⟨box_cell i rfl, box_cell i rfl, box_cell i rfl, box_cell i rfl, box_cell i rfl, box_cell i rfl⟩
  have BR : Hid (∀ w', Below W0.heap.size W0 w' → w'.heap[w.heap.size + 1]? = some (.cells #[.int .i64 0, .int .i64 0, .int .i64 0, .slice none 0 0, .slice none 0 0, .slice none 0 0] 33 (0, 0))) := fun w' h' => (h'.block _ (by omega)).trans hB
  have h5c : (KT : Int) ≤ (c5 : Int) := by omega
  have h5n : n5 ≤ 48 := by omega
  clear ho o3 o4 o5 rK hr hs r3 r4 r5 e0 e1 e2 hok hp lims hW0 hA hB hDL hPs hPr hPe hPl hQ hM hK hcu hwf l3 l4 l5 h8' h9' h40' hQmem hQd hDSl
  go_enter Tryz.func10, Tryz.ntmps10
  go_wp2_with fail
  rw [← HW0.out]
  refine (qok.out _ bW0).mono ?_
  rintro e w1 ⟨rfl, hb1⟩
  have b1 := bW0.trans (hb1.mono bW0.size)
  have d1 : Below W0.heap.size W0 w1 := hb1
  have bD : Below W0.heap.size W0 w1.drew := d1.drew
  obtain ⟨q0, q1, q2, q3, q4, q5⟩ := BX.out w1 d1
  clear hb1
  go_wp2_with fail
  refine Code.wp_mono (Q := fun e a w' => e = .normal ∧ ∃ (vmx : Value) (b5 : Nat) (ka : Option Addr) (kn kc : Nat) (va : Option Addr) (vc B2 R2 R3 : Nat) (FK : List Nat), a = ⟨#[.agg #[.int .i64 x0, .int .i64 x1, .int .i64 x2, .slice a3 n3 c3, .slice a4 n4 c4, .slice a5 n5 c5], .int .i64 tn, .slice a6 n6 c6, .pointer (some ⟨w.heap.size, 0, none⟩), undef, undef, .pointer (some ⟨w.heap.size + 1, 0, none⟩), .bool false, .slice a5 KT c5, .pointer (some ⟨B2, 0, none⟩), undef, undef, undef, .agg #[.int .i64 x0, .int .i64 x1, .int .i64 x2, .slice a3 n3 c3, .slice a4 n4 c4, .slice a5 n5 c5], .bool true, .bool false, undef, .pointer (some ⟨w.heap.size, 5, none⟩), .slice a5 n5 c5, .int .i64 tn, vmx, .pointer (some ⟨w.heap.size, 5, none⟩), .slice a5 n5 c5, .int .i64 n5, .int .i64 KT, .slice a5 KT c5, .agg #[.int .i64 x0, .int .i64 x1, .int .i64 x2, .slice a3 n3 c3, .slice a4 n4 c4, .slice a5 n5 c5], .pointer (some ⟨w.heap.size, 4, none⟩), .slice a4 n4 c4, .slice a5 KT c5, .map (some b5), .slice ka kn kc, .agg #[.int .i64 x0, .int .i64 x1, .int .i64 x2, .slice va M vc, .slice ka kn kc, .slice none 0 0], undef, undef, undef, undef, undef, undef, undef, undef, undef, undef, undef, undef, undef, undef, undef, undef, undef, undef, undef, undef, undef, undef], []⟩ ∧ w'.heap[B2]? = some (.cells #[.int .i64 x0, .int .i64 x1, .int .i64 x2, .slice va M vc, .slice ka kn kc, .slice none 0 0] 33 (0, 0)) ∧ Own (.sl shLink) w' R2 [.slice ka kn kc] DL FK ∧ FK.Nodup ∧ (∀ y ∈ FK, R2 ≤ y ∧ y < R3 ∧ y ≠ B2) ∧ w'.ownsRow R3 70 3 (.slice va M vc) M (Q.map Prod.fst).flatten ∧ (∀ y, (Value.slice va M vc).ownBlock = some y → y ≠ B2) ∧ W0.heap.size ≤ R2 ∧ R2 ≤ R3 ∧ B2 < w'.heap.size ∧ W0.heap.size ≤ B2 ∧ w'.heap[w.heap.size + 1]? = some (.cells #[.int .i64 0, .int .i64 0, .int .i64 0, .slice none 0 0, .slice none 0 0, .slice none 0 0] 33 (0, 0)) ∧ Below w.heap.size w w') ?tail ?reg
  case reg =>
    refine wp_region_held_drew (S := fun w' => w'.cell? ⟨w.heap.size, 0, none⟩ = some (.int .i64 x0) ∧ w'.cell? ⟨w.heap.size, 1, none⟩ = some (.int .i64 x1) ∧ w'.cell? ⟨w.heap.size, 2, none⟩ = some (.int .i64 x2) ∧ w'.cell? ⟨w.heap.size, 3, none⟩ = some (.slice a3 n3 c3) ∧ w'.cell? ⟨w.heap.size, 4, none⟩ = some (.slice a4 n4 c4) ∧ w'.cell? ⟨w.heap.size, 5, none⟩ = some (.slice a5 n5 c5)) (by kernel_rfl) (BX.out _ bD) (fun hHeld => ?_)
    refine wpAnyH_take (i := 0) (v := .agg #[.int .i64 x0, .int .i64 x1, .int .i64 x2, .slice a3 n3 c3, .slice a4 n4 c4, .slice a5 n5 c5]) rfl (by kernel_rfl) (by kernel_rfl) (by kernel_rfl) (fun _ _ _ h => by cases h.1) (Or.inl ⟨by kernel_rfl, ?_⟩) (by assumption) ?_
    · intro w9 hSw; (try dsimp only at hSw); go_simp
    simp only [Act.put, List.getElem_toArray, List.getElem_cons_succ, List.getElem_cons_zero, List.setIfInBounds_toArray, List.set_cons_zero, List.set_cons_succ]
    refine wpAnyH_take (i := 1) (v := .pointer (some ⟨w.heap.size, 4, none⟩)) rfl (by kernel_rfl) (by kernel_rfl) (by kernel_rfl) (fun _ _ _ h => by cases h.1) (Or.inl ⟨by kernel_rfl, ?_⟩) (by assumption) ?_
    · intro w9 hSw; (try dsimp only at hSw); go_simp
    simp only [Act.put, List.getElem_toArray, List.getElem_cons_succ, List.getElem_cons_zero, List.setIfInBounds_toArray, List.set_cons_zero, List.set_cons_succ]
    refine wpAnyH_take (i := 2) (v := .slice a4 n4 c4) rfl (by kernel_rfl) (by kernel_rfl) (by kernel_rfl) (fun _ _ _ h => by cases h.1) (Or.inl ⟨by kernel_rfl, ?_⟩) (by assumption) ?_
    · intro w9 hSw; (try dsimp only at hSw); go_simp
    simp only [Act.put, List.getElem_toArray, List.getElem_cons_succ, List.getElem_cons_zero, List.setIfInBounds_toArray, List.set_cons_zero, List.set_cons_succ]
    refine wpAnyH_take (i := 3) (v := .slice a5 KT c5) rfl (by kernel_rfl) (by kernel_rfl) (by kernel_rfl) (fun _ _ _ h => by cases h.1) (Or.inl ⟨by kernel_rfl, ?_⟩) (by assumption) ?_
    · intro w9 hSw; (try dsimp only at hSw); go_simp
    simp only [Act.put, List.getElem_toArray, List.getElem_cons_succ, List.getElem_cons_zero, List.setIfInBounds_toArray, List.set_cons_zero, List.set_cons_succ]
    refine wpAnyH_ready (rs := [4, 7]) (by kernel_rfl) (by simp) ?_
    refine AllReadyH.cons rfl (fun K hK => ?_) (AllReadyH.cons rfl (fun K hK => ?_) AllReadyH.nil)
    · go_simp
      refine (qdir.out _ (bW0.trans (bD.mono bW0.size))).mono ?_
      rintro e w2 ⟨rfl, hm2, hb2⟩
      have d2 : Below W0.heap.size W0 w2 := bD.trans (hb2.mono bD.size)
      have HM2 : Hid (MapIs w2 w1.drew.heap.size (n4 + KT) (dirF (List.reverse (α := LinkD) d.2.2.2.2.1) (List.take (α := TurnD) KT d.2.2.2.2.2.1))) := hm2
      clear hm2
      go_wp2_with fail
      refine hK.out _ _ (BX.out w2 d2) (fun hH5 => ?_)
      clear hK
      refine wpAnyH_ready (rs := [5, 7]) (by kernel_rfl) (by simp) ?_
      refine AllReadyH.cons rfl (fun K hK => ?_) (AllReadyH.cons rfl (fun K hK => ?_) AllReadyH.nil)
      · go_simp
        refine (qlk.out _ _ HM2.out).mono ?_
        rintro e w3 ⟨ka, kn, kc, FK, rfl, hok3, hnd3, hb3⟩
        have d3 : Below W0.heap.size W0 w3 := d2.trans (hb3.mono d2.size)
        have HK3 : Hid (Own (.sl shLink) w3 w2.heap.size [.slice ka kn kc] DL FK) := hok3
        have HFL : Hid (∀ y ∈ FK, w2.heap.size ≤ y ∧ y < w3.heap.size) := hok3.lt
        clear hok3
        go_wp2_with fail
        refine hK.out _ _ (BX.out w3 d3) (fun hH6 => ?_)
        clear hK
        refine wpAnyH_ready (rs := [6, 7]) (by kernel_rfl) (by simp) ?_
        refine AllReadyH.cons rfl (fun K hK => ?_) (AllReadyH.cons rfl (fun K hK => ?_) AllReadyH.nil)
        · go_simp
          refine (qko.out _ ka kn kc (bW0.trans (d3.mono bW0.size)) HK3.out.reads).mono ?_
          rintro e w4 ⟨va, vc, rfl, ho4, hb4⟩
          have d4 : Below W0.heap.size W0 w4 := d3.trans (hb4.mono d3.size)
          have HO4 : Hid (w4.ownsRow w3.heap.size 70 3 (.slice va M vc) M (Q.map Prod.fst).flatten) := ho4
          have HRB : Hid (∀ y, (Value.slice va M vc).ownBlock = some y → w3.heap.size ≤ y ∧ y < w4.heap.size) := ho4.lt
          clear ho4
          go_wp2_with fail
          refine hK.out _ _ (BX.out w4 d4) (fun hH7 => ?_)
          clear hK
          refine wpAnyH_ready (rs := [7]) (by kernel_rfl) (by simp) ?_
          refine AllReadyH.cons rfl (fun K hK => ?_) AllReadyH.nil
          go_simp
          obtain ⟨wA, hwA⟩ : ∃ wA, wA = w4.alloc (.cells #[.int .i64 0, .int .i64 0, .int .i64 0, .slice none 0 0, .slice none 0 0, .slice none 0 0] 33) := ⟨_, rfl⟩
          have dA : Below W0.heap.size W0 wA := by rw [hwA]; exact d4.alloc d4.size _
          have iA : wA.heap[w4.heap.size]? = some (.cells #[.int .i64 0, .int .i64 0, .int .i64 0, .slice none 0 0, .slice none 0 0, .slice none 0 0] 33 (0, 0)) := by rw [hwA]; exact heap_alloc_new w4 _
          have ZA : Hid (wA.heap.size = w4.heap.size + 1) := by show _ = _; rw [hwA]; simp
          have bA : Below w4.heap.size w4 wA := by rw [hwA]; exact (Below.refl _ _).alloc (Nat.le_refl _) _
          have zc : W0.heap.size ≤ w4.heap.size := d4.size
          rw [← hwA]
          clear hwA
          refine hK.out _ _ (BX.out _ dA) (fun hHA => ?_)
          clear hK
          refine wpAnyH_ready (rs := [8]) (by kernel_rfl) (by simp) ?_
          refine AllReadyH.cons rfl (fun K hK => ?_) AllReadyH.nil
          have zA := ZA.out
          have z2 := hb2.size
          have z3 := hb3.size
          have z4 := hb4.size
          have zd2 := d2.size
          have zd3 := d3.size
          (try simp at z2)
          have iE := iA
          have p0 : wA.cell? ⟨w4.heap.size, 0, none⟩ = some (.int .i64 0) := box_cell iE rfl
          have r0 : wA.frozen? ⟨w4.heap.size, 0, none⟩ = false := box_frozen iE
          have p1 : wA.cell? ⟨w4.heap.size, 1, none⟩ = some (.int .i64 0) := box_cell iE rfl
          have r1 : wA.frozen? ⟨w4.heap.size, 1, none⟩ = false := box_frozen iE
          have p2 : wA.cell? ⟨w4.heap.size, 2, none⟩ = some (.int .i64 0) := box_cell iE rfl
          have r2 : wA.frozen? ⟨w4.heap.size, 2, none⟩ = false := box_frozen iE
          have p3 : wA.cell? ⟨w4.heap.size, 3, none⟩ = some (.slice none 0 0) := box_cell iE rfl
          have r3 : wA.frozen? ⟨w4.heap.size, 3, none⟩ = false := box_frozen iE
          have p4 : wA.cell? ⟨w4.heap.size, 4, none⟩ = some (.slice none 0 0) := box_cell iE rfl
          have r4 : wA.frozen? ⟨w4.heap.size, 4, none⟩ = false := box_frozen iE
          have p5 : wA.cell? ⟨w4.heap.size, 5, none⟩ = some (.slice none 0 0) := box_cell iE rfl
          have r5 : wA.frozen? ⟨w4.heap.size, 5, none⟩ = false := box_frozen iE
          have bE := bW0.trans (dA.mono bW0.size)
          have hzE := dA.size
          have HZ : Hid (∀ q, q ≠ w4.heap.size → (((((((wA).setCell ⟨w4.heap.size, 0, none⟩ (.int .i64 x0)).setCell ⟨w4.heap.size, 1, none⟩ (.int .i64 x1)).setCell ⟨w4.heap.size, 2, none⟩ (.int .i64 x2)).setCell ⟨w4.heap.size, 3, none⟩ (.slice va M vc)).setCell ⟨w4.heap.size, 4, none⟩ (.slice ka kn kc)).setCell ⟨w4.heap.size, 5, none⟩ (.slice none 0 0)).heap[q]? = wA.heap[q]?) := fun q hq => ((box_other _ hq).trans ((box_other _ hq).trans ((box_other _ hq).trans ((box_other _ hq).trans ((box_other _ hq).trans (box_other _ hq))))))
          have HBE : Hid (Below w.heap.size w (((((((wA).setCell ⟨w4.heap.size, 0, none⟩ (.int .i64 x0)).setCell ⟨w4.heap.size, 1, none⟩ (.int .i64 x1)).setCell ⟨w4.heap.size, 2, none⟩ (.int .i64 x2)).setCell ⟨w4.heap.size, 3, none⟩ (.slice va M vc)).setCell ⟨w4.heap.size, 4, none⟩ (.slice ka kn kc)).setCell ⟨w4.heap.size, 5, none⟩ (.slice none 0 0))) := ((((((bE.setCell (p := ⟨w4.heap.size, 0, none⟩) (by simp <;> omega) (.int .i64 x0)).setCell (p := ⟨w4.heap.size, 1, none⟩) (by simp <;> omega) (.int .i64 x1)).setCell (p := ⟨w4.heap.size, 2, none⟩) (by simp <;> omega) (.int .i64 x2)).setCell (p := ⟨w4.heap.size, 3, none⟩) (by simp <;> omega) (.slice va M vc)).setCell (p := ⟨w4.heap.size, 4, none⟩) (by simp <;> omega) (.slice ka kn kc)).setCell (p := ⟨w4.heap.size, 5, none⟩) (by simp <;> omega) (.slice none 0 0))
          have HIE : Hid ((((((((wA).setCell ⟨w4.heap.size, 0, none⟩ (.int .i64 x0)).setCell ⟨w4.heap.size, 1, none⟩ (.int .i64 x1)).setCell ⟨w4.heap.size, 2, none⟩ (.int .i64 x2)).setCell ⟨w4.heap.size, 3, none⟩ (.slice va M vc)).setCell ⟨w4.heap.size, 4, none⟩ (.slice ka kn kc)).setCell ⟨w4.heap.size, 5, none⟩ (.slice none 0 0)).heap[w4.heap.size]? = some (.cells #[.int .i64 x0, .int .i64 x1, .int .i64 x2, .slice va M vc, .slice ka kn kc, .slice none 0 0] 33 (0, 0))) := box_set _ (box_set _ (box_set _ (box_set _ (box_set _ (box_set _ iE)))))
          have HKE : Hid (Own (.sl shLink) wA w2.heap.size [.slice ka kn kc] DL FK) := ((HK3.out.later hb4).later bA)
          have HOE : Hid (wA.ownsRow w3.heap.size 70 3 (.slice va M vc) M (Q.map Prod.fst).flatten) := (own_later HO4.out bA)
          go_simp
          refine hK.out _ _ (BX.out _ ?_) (fun hHS => ?_)
          · exact ((((((dA.setCell (p := ⟨w4.heap.size, 0, none⟩) (by simp <;> omega) (.int .i64 x0)).setCell (p := ⟨w4.heap.size, 1, none⟩) (by simp <;> omega) (.int .i64 x1)).setCell (p := ⟨w4.heap.size, 2, none⟩) (by simp <;> omega) (.int .i64 x2)).setCell (p := ⟨w4.heap.size, 3, none⟩) (by simp <;> omega) (.slice va M vc)).setCell (p := ⟨w4.heap.size, 4, none⟩) (by simp <;> omega) (.slice ka kn kc)).setCell (p := ⟨w4.heap.size, 5, none⟩) (by simp <;> omega) (.slice none 0 0))
          clear hK
          refine wpAnyH_done (by kernel_rfl) ?_ _
          refine ⟨rfl, _, _, ka, kn, kc, va, vc, w4.heap.size, w2.heap.size, w3.heap.size, FK, rfl, HIE.out, HKE.out.keep (fun y hy => HZ.out y (by have h1 := HFL.out y hy; omega)), hnd3, (fun y hy => by have h1 := HFL.out y hy; omega), ?_, ?_, by omega, by omega, ?_, by omega, ?_, HBE.out⟩
          · exact own_keepB HOE.out (fun y hy => HZ.out y (by have h1 := HOE.out.lt y hy; have h2 := HRB.out y hy; omega))
          · intro y hy; have h2 := HRB.out y hy; omega
          · simp; omega
          · exact (HZ.out _ (by omega)).trans (BR.out _ dA)
        · go_simp
          obtain ⟨wA, hwA⟩ : ∃ wA, wA = w3.alloc (.cells #[.int .i64 0, .int .i64 0, .int .i64 0, .slice none 0 0, .slice none 0 0, .slice none 0 0] 33) := ⟨_, rfl⟩
          have dA : Below W0.heap.size W0 wA := by rw [hwA]; exact d3.alloc d3.size _
          have iA : wA.heap[w3.heap.size]? = some (.cells #[.int .i64 0, .int .i64 0, .int .i64 0, .slice none 0 0, .slice none 0 0, .slice none 0 0] 33 (0, 0)) := by rw [hwA]; exact heap_alloc_new w3 _
          have ZA : Hid (wA.heap.size = w3.heap.size + 1) := by show _ = _; rw [hwA]; simp
          have bA : Below w3.heap.size w3 wA := by rw [hwA]; exact (Below.refl _ _).alloc (Nat.le_refl _) _
          have zc : W0.heap.size ≤ w3.heap.size := d3.size
          rw [← hwA]
          clear hwA
          refine hK.out _ _ (BX.out _ dA) (fun hHA => ?_)
          clear hK
          refine wpAnyH_ready (rs := [6]) (by kernel_rfl) (by simp) ?_
          refine AllReadyH.cons rfl (fun K hK => ?_) AllReadyH.nil
          go_simp
          refine (qko.out _ ka kn kc (bW0.trans (dA.mono bW0.size)) (HK3.out.later bA).reads).mono ?_
          rintro e w4 ⟨va, vc, rfl, ho4, hb4⟩
          have d4 : Below W0.heap.size W0 w4 := dA.trans (hb4.mono dA.size)
          have HO4 : Hid (w4.ownsRow wA.heap.size 70 3 (.slice va M vc) M (Q.map Prod.fst).flatten) := ho4
          have HRB : Hid (∀ y, (Value.slice va M vc).ownBlock = some y → wA.heap.size ≤ y ∧ y < w4.heap.size) := ho4.lt
          clear ho4
          go_wp2_with fail
          refine hK.out _ _ (BX.out w4 d4) (fun hH7 => ?_)
          clear hK
          refine wpAnyH_ready (rs := [8]) (by kernel_rfl) (by simp) ?_
          refine AllReadyH.cons rfl (fun K hK => ?_) AllReadyH.nil
          have zA := ZA.out
          have z2 := hb2.size
          have z3 := hb3.size
          have z4 := hb4.size
          have zd2 := d2.size
          have zd3 := d3.size
          (try simp at z2)
          have iE : w4.heap[w3.heap.size]? = some (.cells #[.int .i64 0, .int .i64 0, .int .i64 0, .slice none 0 0, .slice none 0 0, .slice none 0 0] 33 (0, 0)) := ((hb4.block _ (by omega)).trans iA)
          have p0 : w4.cell? ⟨w3.heap.size, 0, none⟩ = some (.int .i64 0) := box_cell iE rfl
          have r0 : w4.frozen? ⟨w3.heap.size, 0, none⟩ = false := box_frozen iE
          have p1 : w4.cell? ⟨w3.heap.size, 1, none⟩ = some (.int .i64 0) := box_cell iE rfl
          have r1 : w4.frozen? ⟨w3.heap.size, 1, none⟩ = false := box_frozen iE
          have p2 : w4.cell? ⟨w3.heap.size, 2, none⟩ = some (.int .i64 0) := box_cell iE rfl
          have r2 : w4.frozen? ⟨w3.heap.size, 2, none⟩ = false := box_frozen iE
          have p3 : w4.cell? ⟨w3.heap.size, 3, none⟩ = some (.slice none 0 0) := box_cell iE rfl
          have r3 : w4.frozen? ⟨w3.heap.size, 3, none⟩ = false := box_frozen iE
          have p4 : w4.cell? ⟨w3.heap.size, 4, none⟩ = some (.slice none 0 0) := box_cell iE rfl
          have r4 : w4.frozen? ⟨w3.heap.size, 4, none⟩ = false := box_frozen iE
          have p5 : w4.cell? ⟨w3.heap.size, 5, none⟩ = some (.slice none 0 0) := box_cell iE rfl
          have r5 : w4.frozen? ⟨w3.heap.size, 5, none⟩ = false := box_frozen iE
          have bE := bW0.trans (d4.mono bW0.size)
          have hzE := d4.size
          have HZ : Hid (∀ q, q ≠ w3.heap.size → (((((((w4).setCell ⟨w3.heap.size, 0, none⟩ (.int .i64 x0)).setCell ⟨w3.heap.size, 1, none⟩ (.int .i64 x1)).setCell ⟨w3.heap.size, 2, none⟩ (.int .i64 x2)).setCell ⟨w3.heap.size, 3, none⟩ (.slice va M vc)).setCell ⟨w3.heap.size, 4, none⟩ (.slice ka kn kc)).setCell ⟨w3.heap.size, 5, none⟩ (.slice none 0 0)).heap[q]? = w4.heap[q]?) := fun q hq => ((box_other _ hq).trans ((box_other _ hq).trans ((box_other _ hq).trans ((box_other _ hq).trans ((box_other _ hq).trans (box_other _ hq))))))
          have HBE : Hid (Below w.heap.size w (((((((w4).setCell ⟨w3.heap.size, 0, none⟩ (.int .i64 x0)).setCell ⟨w3.heap.size, 1, none⟩ (.int .i64 x1)).setCell ⟨w3.heap.size, 2, none⟩ (.int .i64 x2)).setCell ⟨w3.heap.size, 3, none⟩ (.slice va M vc)).setCell ⟨w3.heap.size, 4, none⟩ (.slice ka kn kc)).setCell ⟨w3.heap.size, 5, none⟩ (.slice none 0 0))) := ((((((bE.setCell (p := ⟨w3.heap.size, 0, none⟩) (by simp <;> omega) (.int .i64 x0)).setCell (p := ⟨w3.heap.size, 1, none⟩) (by simp <;> omega) (.int .i64 x1)).setCell (p := ⟨w3.heap.size, 2, none⟩) (by simp <;> omega) (.int .i64 x2)).setCell (p := ⟨w3.heap.size, 3, none⟩) (by simp <;> omega) (.slice va M vc)).setCell (p := ⟨w3.heap.size, 4, none⟩) (by simp <;> omega) (.slice ka kn kc)).setCell (p := ⟨w3.heap.size, 5, none⟩) (by simp <;> omega) (.slice none 0 0))
          have HIE : Hid ((((((((w4).setCell ⟨w3.heap.size, 0, none⟩ (.int .i64 x0)).setCell ⟨w3.heap.size, 1, none⟩ (.int .i64 x1)).setCell ⟨w3.heap.size, 2, none⟩ (.int .i64 x2)).setCell ⟨w3.heap.size, 3, none⟩ (.slice va M vc)).setCell ⟨w3.heap.size, 4, none⟩ (.slice ka kn kc)).setCell ⟨w3.heap.size, 5, none⟩ (.slice none 0 0)).heap[w3.heap.size]? = some (.cells #[.int .i64 x0, .int .i64 x1, .int .i64 x2, .slice va M vc, .slice ka kn kc, .slice none 0 0] 33 (0, 0))) := box_set _ (box_set _ (box_set _ (box_set _ (box_set _ (box_set _ iE)))))
          have HKE : Hid (Own (.sl shLink) w4 w2.heap.size [.slice ka kn kc] DL FK) := ((HK3.out.later bA).later hb4)
          have HOE : Hid (w4.ownsRow wA.heap.size 70 3 (.slice va M vc) M (Q.map Prod.fst).flatten) := HO4.out
          go_simp
          refine hK.out _ _ (BX.out _ ?_) (fun hHS => ?_)
          · exact ((((((d4.setCell (p := ⟨w3.heap.size, 0, none⟩) (by simp <;> omega) (.int .i64 x0)).setCell (p := ⟨w3.heap.size, 1, none⟩) (by simp <;> omega) (.int .i64 x1)).setCell (p := ⟨w3.heap.size, 2, none⟩) (by simp <;> omega) (.int .i64 x2)).setCell (p := ⟨w3.heap.size, 3, none⟩) (by simp <;> omega) (.slice va M vc)).setCell (p := ⟨w3.heap.size, 4, none⟩) (by simp <;> omega) (.slice ka kn kc)).setCell (p := ⟨w3.heap.size, 5, none⟩) (by simp <;> omega) (.slice none 0 0))
          clear hK
          refine wpAnyH_done (by kernel_rfl) ?_ _
          refine ⟨rfl, _, _, ka, kn, kc, va, vc, w3.heap.size, w2.heap.size, wA.heap.size, FK, rfl, HIE.out, HKE.out.keep (fun y hy => HZ.out y (by have h1 := HFL.out y hy; omega)), hnd3, (fun y hy => by have h1 := HFL.out y hy; omega), ?_, ?_, by omega, by omega, ?_, by omega, ?_, HBE.out⟩
          · exact own_keepB HOE.out (fun y hy => HZ.out y (by have h1 := HOE.out.lt y hy; have h2 := HRB.out y hy; omega))
          · intro y hy; have h2 := HRB.out y hy; omega
          · simp; omega
          · exact (HZ.out _ (by omega)).trans (BR.out _ d4)
      · go_simp
        obtain ⟨wA, hwA⟩ : ∃ wA, wA = w2.alloc (.cells #[.int .i64 0, .int .i64 0, .int .i64 0, .slice none 0 0, .slice none 0 0, .slice none 0 0] 33) := ⟨_, rfl⟩
        have dA : Below W0.heap.size W0 wA := by rw [hwA]; exact d2.alloc d2.size _
        have iA : wA.heap[w2.heap.size]? = some (.cells #[.int .i64 0, .int .i64 0, .int .i64 0, .slice none 0 0, .slice none 0 0, .slice none 0 0] 33 (0, 0)) := by rw [hwA]; exact heap_alloc_new w2 _
        have ZA : Hid (wA.heap.size = w2.heap.size + 1) := by show _ = _; rw [hwA]; simp
        have bA : Below w2.heap.size w2 wA := by rw [hwA]; exact (Below.refl _ _).alloc (Nat.le_refl _) _
        have zc : W0.heap.size ≤ w2.heap.size := d2.size
        rw [← hwA]
        clear hwA
        refine hK.out _ _ (BX.out _ dA) (fun hHA => ?_)
        clear hK
        refine wpAnyH_ready (rs := [5]) (by kernel_rfl) (by simp) ?_
        refine AllReadyH.cons rfl (fun K hK => ?_) AllReadyH.nil
        go_simp
        refine (qlk.out _ _ (HM2.out.later bA)).mono ?_
        rintro e w3 ⟨ka, kn, kc, FK, rfl, hok3, hnd3, hb3⟩
        have d3 : Below W0.heap.size W0 w3 := dA.trans (hb3.mono dA.size)
        have HK3 : Hid (Own (.sl shLink) w3 wA.heap.size [.slice ka kn kc] DL FK) := hok3
        have HFL : Hid (∀ y ∈ FK, wA.heap.size ≤ y ∧ y < w3.heap.size) := hok3.lt
        clear hok3
        go_wp2_with fail
        refine hK.out _ _ (BX.out w3 d3) (fun hH6 => ?_)
        clear hK
        refine wpAnyH_ready (rs := [6]) (by kernel_rfl) (by simp) ?_
        refine AllReadyH.cons rfl (fun K hK => ?_) AllReadyH.nil
        go_simp
        refine (qko.out _ ka kn kc (bW0.trans (d3.mono bW0.size)) HK3.out.reads).mono ?_
        rintro e w4 ⟨va, vc, rfl, ho4, hb4⟩
        have d4 : Below W0.heap.size W0 w4 := d3.trans (hb4.mono d3.size)
        have HO4 : Hid (w4.ownsRow w3.heap.size 70 3 (.slice va M vc) M (Q.map Prod.fst).flatten) := ho4
        have HRB : Hid (∀ y, (Value.slice va M vc).ownBlock = some y → w3.heap.size ≤ y ∧ y < w4.heap.size) := ho4.lt
        clear ho4
        go_wp2_with fail
        refine hK.out _ _ (BX.out w4 d4) (fun hH7 => ?_)
        clear hK
        refine wpAnyH_ready (rs := [8]) (by kernel_rfl) (by simp) ?_
        refine AllReadyH.cons rfl (fun K hK => ?_) AllReadyH.nil
        have zA := ZA.out
        have z2 := hb2.size
        have z3 := hb3.size
        have z4 := hb4.size
        have zd2 := d2.size
        have zd3 := d3.size
        (try simp at z2)
        have iE : w4.heap[w2.heap.size]? = some (.cells #[.int .i64 0, .int .i64 0, .int .i64 0, .slice none 0 0, .slice none 0 0, .slice none 0 0] 33 (0, 0)) := ((hb4.block _ (by omega)).trans ((hb3.block _ (by omega)).trans iA))
        have p0 : w4.cell? ⟨w2.heap.size, 0, none⟩ = some (.int .i64 0) := box_cell iE rfl
        have r0 : w4.frozen? ⟨w2.heap.size, 0, none⟩ = false := box_frozen iE
        have p1 : w4.cell? ⟨w2.heap.size, 1, none⟩ = some (.int .i64 0) := box_cell iE rfl
        have r1 : w4.frozen? ⟨w2.heap.size, 1, none⟩ = false := box_frozen iE
        have p2 : w4.cell? ⟨w2.heap.size, 2, none⟩ = some (.int .i64 0) := box_cell iE rfl
        have r2 : w4.frozen? ⟨w2.heap.size, 2, none⟩ = false := box_frozen iE
        have p3 : w4.cell? ⟨w2.heap.size, 3, none⟩ = some (.slice none 0 0) := box_cell iE rfl
        have r3 : w4.frozen? ⟨w2.heap.size, 3, none⟩ = false := box_frozen iE
        have p4 : w4.cell? ⟨w2.heap.size, 4, none⟩ = some (.slice none 0 0) := box_cell iE rfl
        have r4 : w4.frozen? ⟨w2.heap.size, 4, none⟩ = false := box_frozen iE
        have p5 : w4.cell? ⟨w2.heap.size, 5, none⟩ = some (.slice none 0 0) := box_cell iE rfl
        have r5 : w4.frozen? ⟨w2.heap.size, 5, none⟩ = false := box_frozen iE
        have bE := bW0.trans (d4.mono bW0.size)
        have hzE := d4.size
        have HZ : Hid (∀ q, q ≠ w2.heap.size → (((((((w4).setCell ⟨w2.heap.size, 0, none⟩ (.int .i64 x0)).setCell ⟨w2.heap.size, 1, none⟩ (.int .i64 x1)).setCell ⟨w2.heap.size, 2, none⟩ (.int .i64 x2)).setCell ⟨w2.heap.size, 3, none⟩ (.slice va M vc)).setCell ⟨w2.heap.size, 4, none⟩ (.slice ka kn kc)).setCell ⟨w2.heap.size, 5, none⟩ (.slice none 0 0)).heap[q]? = w4.heap[q]?) := fun q hq => ((box_other _ hq).trans ((box_other _ hq).trans ((box_other _ hq).trans ((box_other _ hq).trans ((box_other _ hq).trans (box_other _ hq))))))
        have HBE : Hid (Below w.heap.size w (((((((w4).setCell ⟨w2.heap.size, 0, none⟩ (.int .i64 x0)).setCell ⟨w2.heap.size, 1, none⟩ (.int .i64 x1)).setCell ⟨w2.heap.size, 2, none⟩ (.int .i64 x2)).setCell ⟨w2.heap.size, 3, none⟩ (.slice va M vc)).setCell ⟨w2.heap.size, 4, none⟩ (.slice ka kn kc)).setCell ⟨w2.heap.size, 5, none⟩ (.slice none 0 0))) := ((((((bE.setCell (p := ⟨w2.heap.size, 0, none⟩) (by simp <;> omega) (.int .i64 x0)).setCell (p := ⟨w2.heap.size, 1, none⟩) (by simp <;> omega) (.int .i64 x1)).setCell (p := ⟨w2.heap.size, 2, none⟩) (by simp <;> omega) (.int .i64 x2)).setCell (p := ⟨w2.heap.size, 3, none⟩) (by simp <;> omega) (.slice va M vc)).setCell (p := ⟨w2.heap.size, 4, none⟩) (by simp <;> omega) (.slice ka kn kc)).setCell (p := ⟨w2.heap.size, 5, none⟩) (by simp <;> omega) (.slice none 0 0))
        have HIE : Hid ((((((((w4).setCell ⟨w2.heap.size, 0, none⟩ (.int .i64 x0)).setCell ⟨w2.heap.size, 1, none⟩ (.int .i64 x1)).setCell ⟨w2.heap.size, 2, none⟩ (.int .i64 x2)).setCell ⟨w2.heap.size, 3, none⟩ (.slice va M vc)).setCell ⟨w2.heap.size, 4, none⟩ (.slice ka kn kc)).setCell ⟨w2.heap.size, 5, none⟩ (.slice none 0 0)).heap[w2.heap.size]? = some (.cells #[.int .i64 x0, .int .i64 x1, .int .i64 x2, .slice va M vc, .slice ka kn kc, .slice none 0 0] 33 (0, 0))) := box_set _ (box_set _ (box_set _ (box_set _ (box_set _ (box_set _ iE)))))
        have HKE : Hid (Own (.sl shLink) w4 wA.heap.size [.slice ka kn kc] DL FK) := HK3.out.later hb4
        have HOE : Hid (w4.ownsRow w3.heap.size 70 3 (.slice va M vc) M (Q.map Prod.fst).flatten) := HO4.out
        go_simp
        refine hK.out _ _ (BX.out _ ?_) (fun hHS => ?_)
        · exact ((((((d4.setCell (p := ⟨w2.heap.size, 0, none⟩) (by simp <;> omega) (.int .i64 x0)).setCell (p := ⟨w2.heap.size, 1, none⟩) (by simp <;> omega) (.int .i64 x1)).setCell (p := ⟨w2.heap.size, 2, none⟩) (by simp <;> omega) (.int .i64 x2)).setCell (p := ⟨w2.heap.size, 3, none⟩) (by simp <;> omega) (.slice va M vc)).setCell (p := ⟨w2.heap.size, 4, none⟩) (by simp <;> omega) (.slice ka kn kc)).setCell (p := ⟨w2.heap.size, 5, none⟩) (by simp <;> omega) (.slice none 0 0))
        clear hK
        refine wpAnyH_done (by kernel_rfl) ?_ _
        refine ⟨rfl, _, _, ka, kn, kc, va, vc, w2.heap.size, wA.heap.size, w3.heap.size, FK, rfl, HIE.out, HKE.out.keep (fun y hy => HZ.out y (by have h1 := HFL.out y hy; omega)), hnd3, (fun y hy => by have h1 := HFL.out y hy; omega), ?_, ?_, by omega, by omega, ?_, by omega, ?_, HBE.out⟩
        · exact own_keepB HOE.out (fun y hy => HZ.out y (by have h1 := HOE.out.lt y hy; have h2 := HRB.out y hy; omega))
        · intro y hy; have h2 := HRB.out y hy; omega
        · simp; omega
        · exact (HZ.out _ (by omega)).trans (BR.out _ d4)
    · go_simp
      rw [← World.alloc_drew]
      obtain ⟨wA, hwA⟩ : ∃ wA, wA = w1.drew.alloc (.cells #[.int .i64 0, .int .i64 0, .int .i64 0, .slice none 0 0, .slice none 0 0, .slice none 0 0] 33) := ⟨_, rfl⟩
      have dA : Below W0.heap.size W0 wA := by rw [hwA]; exact bD.alloc bD.size _
      have iA : wA.heap[w1.heap.size]? = some (.cells #[.int .i64 0, .int .i64 0, .int .i64 0, .slice none 0 0, .slice none 0 0, .slice none 0 0] 33 (0, 0)) := by rw [hwA]; exact heap_alloc_new w1.drew _
      have ZA : Hid (wA.heap.size = w1.heap.size + 1) := by show _ = _; rw [hwA]; simp
      have bA : Below w1.drew.heap.size w1.drew wA := by rw [hwA]; exact (Below.refl _ _).alloc (Nat.le_refl _) _
      have zc : W0.heap.size ≤ w1.heap.size := bD.size
      rw [← hwA]
      clear hwA
      refine hK.out _ _ (BX.out _ dA) (fun hHA => ?_)
      clear hK
      refine wpAnyH_ready (rs := [4]) (by kernel_rfl) (by simp) ?_
      refine AllReadyH.cons rfl (fun K hK => ?_) AllReadyH.nil
      go_simp
      refine (qdir.out _ (bW0.trans (dA.mono bW0.size))).mono ?_
      rintro e w2 ⟨rfl, hm2, hb2⟩
      have d2 : Below W0.heap.size W0 w2 := dA.trans (hb2.mono dA.size)
      have HM2 : Hid (MapIs w2 wA.heap.size (n4 + KT) (dirF (List.reverse (α := LinkD) d.2.2.2.2.1) (List.take (α := TurnD) KT d.2.2.2.2.2.1))) := hm2
      clear hm2
      go_wp2_with fail
      refine hK.out _ _ (BX.out w2 d2) (fun hH5 => ?_)
      clear hK
      refine wpAnyH_ready (rs := [5]) (by kernel_rfl) (by simp) ?_
      refine AllReadyH.cons rfl (fun K hK => ?_) AllReadyH.nil
      go_simp
      refine (qlk.out _ _ HM2.out).mono ?_
      rintro e w3 ⟨ka, kn, kc, FK, rfl, hok3, hnd3, hb3⟩
      have d3 : Below W0.heap.size W0 w3 := d2.trans (hb3.mono d2.size)
      have HK3 : Hid (Own (.sl shLink) w3 w2.heap.size [.slice ka kn kc] DL FK) := hok3
      have HFL : Hid (∀ y ∈ FK, w2.heap.size ≤ y ∧ y < w3.heap.size) := hok3.lt
      clear hok3
      go_wp2_with fail
      refine hK.out _ _ (BX.out w3 d3) (fun hH6 => ?_)
      clear hK
      refine wpAnyH_ready (rs := [6]) (by kernel_rfl) (by simp) ?_
      refine AllReadyH.cons rfl (fun K hK => ?_) AllReadyH.nil
      go_simp
      refine (qko.out _ ka kn kc (bW0.trans (d3.mono bW0.size)) HK3.out.reads).mono ?_
      rintro e w4 ⟨va, vc, rfl, ho4, hb4⟩
      have d4 : Below W0.heap.size W0 w4 := d3.trans (hb4.mono d3.size)
      have HO4 : Hid (w4.ownsRow w3.heap.size 70 3 (.slice va M vc) M (Q.map Prod.fst).flatten) := ho4
      have HRB : Hid (∀ y, (Value.slice va M vc).ownBlock = some y → w3.heap.size ≤ y ∧ y < w4.heap.size) := ho4.lt
      clear ho4
      go_wp2_with fail
      refine hK.out _ _ (BX.out w4 d4) (fun hH7 => ?_)
      clear hK
      refine wpAnyH_ready (rs := [8]) (by kernel_rfl) (by simp) ?_
      refine AllReadyH.cons rfl (fun K hK => ?_) AllReadyH.nil
      have zA := ZA.out
      have z2 := hb2.size
      have z3 := hb3.size
      have z4 := hb4.size
      have zd2 := d2.size
      have zd3 := d3.size
      (try simp at z2)
      have iE : w4.heap[w1.heap.size]? = some (.cells #[.int .i64 0, .int .i64 0, .int .i64 0, .slice none 0 0, .slice none 0 0, .slice none 0 0] 33 (0, 0)) := ((hb4.block _ (by omega)).trans ((hb3.block _ (by omega)).trans ((hb2.block _ (by omega)).trans iA)))
      have p0 : w4.cell? ⟨w1.heap.size, 0, none⟩ = some (.int .i64 0) := box_cell iE rfl
      have r0 : w4.frozen? ⟨w1.heap.size, 0, none⟩ = false := box_frozen iE
      have p1 : w4.cell? ⟨w1.heap.size, 1, none⟩ = some (.int .i64 0) := box_cell iE rfl
      have r1 : w4.frozen? ⟨w1.heap.size, 1, none⟩ = false := box_frozen iE
      have p2 : w4.cell? ⟨w1.heap.size, 2, none⟩ = some (.int .i64 0) := box_cell iE rfl
      have r2 : w4.frozen? ⟨w1.heap.size, 2, none⟩ = false := box_frozen iE
      have p3 : w4.cell? ⟨w1.heap.size, 3, none⟩ = some (.slice none 0 0) := box_cell iE rfl
      have r3 : w4.frozen? ⟨w1.heap.size, 3, none⟩ = false := box_frozen iE
      have p4 : w4.cell? ⟨w1.heap.size, 4, none⟩ = some (.slice none 0 0) := box_cell iE rfl
      have r4 : w4.frozen? ⟨w1.heap.size, 4, none⟩ = false := box_frozen iE
      have p5 : w4.cell? ⟨w1.heap.size, 5, none⟩ = some (.slice none 0 0) := box_cell iE rfl
      have r5 : w4.frozen? ⟨w1.heap.size, 5, none⟩ = false := box_frozen iE
      have bE := bW0.trans (d4.mono bW0.size)
      have hzE := d4.size
      have HZ : Hid (∀ q, q ≠ w1.heap.size → (((((((w4).setCell ⟨w1.heap.size, 0, none⟩ (.int .i64 x0)).setCell ⟨w1.heap.size, 1, none⟩ (.int .i64 x1)).setCell ⟨w1.heap.size, 2, none⟩ (.int .i64 x2)).setCell ⟨w1.heap.size, 3, none⟩ (.slice va M vc)).setCell ⟨w1.heap.size, 4, none⟩ (.slice ka kn kc)).setCell ⟨w1.heap.size, 5, none⟩ (.slice none 0 0)).heap[q]? = w4.heap[q]?) := fun q hq => ((box_other _ hq).trans ((box_other _ hq).trans ((box_other _ hq).trans ((box_other _ hq).trans ((box_other _ hq).trans (box_other _ hq))))))
      have HBE : Hid (Below w.heap.size w (((((((w4).setCell ⟨w1.heap.size, 0, none⟩ (.int .i64 x0)).setCell ⟨w1.heap.size, 1, none⟩ (.int .i64 x1)).setCell ⟨w1.heap.size, 2, none⟩ (.int .i64 x2)).setCell ⟨w1.heap.size, 3, none⟩ (.slice va M vc)).setCell ⟨w1.heap.size, 4, none⟩ (.slice ka kn kc)).setCell ⟨w1.heap.size, 5, none⟩ (.slice none 0 0))) := ((((((bE.setCell (p := ⟨w1.heap.size, 0, none⟩) (by simp <;> omega) (.int .i64 x0)).setCell (p := ⟨w1.heap.size, 1, none⟩) (by simp <;> omega) (.int .i64 x1)).setCell (p := ⟨w1.heap.size, 2, none⟩) (by simp <;> omega) (.int .i64 x2)).setCell (p := ⟨w1.heap.size, 3, none⟩) (by simp <;> omega) (.slice va M vc)).setCell (p := ⟨w1.heap.size, 4, none⟩) (by simp <;> omega) (.slice ka kn kc)).setCell (p := ⟨w1.heap.size, 5, none⟩) (by simp <;> omega) (.slice none 0 0))
      have HIE : Hid ((((((((w4).setCell ⟨w1.heap.size, 0, none⟩ (.int .i64 x0)).setCell ⟨w1.heap.size, 1, none⟩ (.int .i64 x1)).setCell ⟨w1.heap.size, 2, none⟩ (.int .i64 x2)).setCell ⟨w1.heap.size, 3, none⟩ (.slice va M vc)).setCell ⟨w1.heap.size, 4, none⟩ (.slice ka kn kc)).setCell ⟨w1.heap.size, 5, none⟩ (.slice none 0 0)).heap[w1.heap.size]? = some (.cells #[.int .i64 x0, .int .i64 x1, .int .i64 x2, .slice va M vc, .slice ka kn kc, .slice none 0 0] 33 (0, 0))) := box_set _ (box_set _ (box_set _ (box_set _ (box_set _ (box_set _ iE)))))
      have HKE : Hid (Own (.sl shLink) w4 w2.heap.size [.slice ka kn kc] DL FK) := HK3.out.later hb4
      have HOE : Hid (w4.ownsRow w3.heap.size 70 3 (.slice va M vc) M (Q.map Prod.fst).flatten) := HO4.out
      go_simp
      refine hK.out _ _ (BX.out _ ?_) (fun hHS => ?_)
      · exact ((((((d4.setCell (p := ⟨w1.heap.size, 0, none⟩) (by simp <;> omega) (.int .i64 x0)).setCell (p := ⟨w1.heap.size, 1, none⟩) (by simp <;> omega) (.int .i64 x1)).setCell (p := ⟨w1.heap.size, 2, none⟩) (by simp <;> omega) (.int .i64 x2)).setCell (p := ⟨w1.heap.size, 3, none⟩) (by simp <;> omega) (.slice va M vc)).setCell (p := ⟨w1.heap.size, 4, none⟩) (by simp <;> omega) (.slice ka kn kc)).setCell (p := ⟨w1.heap.size, 5, none⟩) (by simp <;> omega) (.slice none 0 0))
      clear hK
      refine wpAnyH_done (by kernel_rfl) ?_ _
      refine ⟨rfl, _, _, ka, kn, kc, va, vc, w1.heap.size, w2.heap.size, w3.heap.size, FK, rfl, HIE.out, HKE.out.keep (fun y hy => HZ.out y (by have h1 := HFL.out y hy; omega)), hnd3, (fun y hy => by have h1 := HFL.out y hy; omega), ?_, ?_, by omega, by omega, ?_, by omega, ?_, HBE.out⟩
      · exact own_keepB HOE.out (fun y hy => HZ.out y (by have h1 := HOE.out.lt y hy; have h2 := HRB.out y hy; omega))
      · intro y hy; have h2 := HRB.out y hy; omega
      · simp; omega
      · exact (HZ.out _ (by omega)).trans (BR.out _ d4)
  case tail =>
  rintro e a w5 ⟨rfl, vmx, b5, ka, kn, kc, va, vc, B2, R2, R3, FK, rfl, hbx, K5, hnd3, hFK, hRow, hgB, hz02, hz23, hB5, hB0, hr5, b5'⟩
  have HFK : Hid (∀ y ∈ FK, R2 ≤ y ∧ y < R3 ∧ y ≠ B2) := hFK
  have HGB : Hid (∀ y, (Value.slice va M vc).ownBlock = some y → y ≠ B2) := hgB
  have hB2 : w.heap.size + 1 + 1 ≤ B2 := by omega
  have hne1 : w.heap.size + 1 ≠ B2 := by omega
  obtain ⟨w6, hw6⟩ : ∃ w6, w6 = w5.setCell ⟨B2, 1, none⟩ (.int .i64 (-1)) := ⟨_, rfl⟩
  have hbx6 : w6.heap[B2]? = some (.cells #[.int .i64 x0, .int .i64 (-1), .int .i64 x2, .slice va M vc, .slice ka kn kc, .slice none 0 0] 33 (0, 0)) := by rw [hw6]; exact box_set _ hbx
  have kp6 : ∀ q, q ≠ B2 → w6.heap[q]? = w5.heap[q]? := fun q hq => by rw [hw6]; exact box_other _ hq
  have z6 : w6.heap.size = w5.heap.size := by rw [hw6]; simp
  have c51 : w5.cell? ⟨B2, 1, none⟩ = some (.int .i64 x1) := box_cell hbx rfl
  have f51 : w5.frozen? ⟨B2, 1, none⟩ = false := box_frozen hbx
  have c53 : w5.cell? ⟨B2, 3, none⟩ = some (.slice va M vc) := box_cell hbx rfl
  have b6' : Below w.heap.size w w6 := by rw [hw6]; exact b5'.setCell (by show w.heap.size ≤ B2; omega) _
  have hlen3 : ∀ x ∈ Q.map Prod.fst, x.length = 3 := fun x hx => by
    obtain ⟨p, hp, rfl⟩ := List.mem_map.1 hx
    obtain ⟨f, hf⟩ := (HQ.out.2 p hp).1
    exact hf.length
  have hRow6 := own_keepB hRow (fun y hy => kp6 y (HGB.out y hy))
  have K6 := K5.keep (fun y hy => kp6 y (hFK y hy).2.2)
  have A0 : Anew w6 R3 (.slice va M vc) M 0 (Q.map Prod.fst) (Q.map Prod.fst) (crashFrom cuts 0 (Q.map Prod.snd)) [] := Anew.start hRow6 hlen3 (by rw [List.length_map]; exact HQ.out.1) HDS.out
  have HA0 : Hid _ := A0
  have hr6 := (kp6 (w.heap.size + 1) hne1).trans hr5
  have HR6 : Hid (_ ∧ _ ∧ _) := ⟨hr6, hbx6, K6⟩
  have hB6 : B2 < w6.heap.size := by omega
  have HW6 : Hid (w6 = _) := hw6
  clear hbx hr5 A0 K5 hlen3 hRow hFK hgB hbx6 kp6 hRow6 K6 hr6 hw6 b5'
  (try simp only [Exit.inBlock, Exit.then])
  go_wp2
  rw [← HW6.out]
  go_loopw [37] (fun i wr => ∃ (k : Nat) (Cs : List (List Value)) (Fs : List (List Nat)), k ≤ M ∧ i = .int .i64 k ∧ Anew wr R3 (.slice va M vc) M k Cs (Q.map Prod.fst) (crashFrom cuts 0 (Q.map Prod.snd)) Fs ∧ wr.heap[w.heap.size + 1]? = some (.cells #[.int .i64 0, .int .i64 0, .int .i64 0, .slice none 0 0, .slice none 0 0, .slice none 0 0] 33 (0, 0)) ∧ wr.heap[B2]? = some (.cells #[.int .i64 x0, .int .i64 (-1), .int .i64 x2, .slice va M vc, .slice ka kn kc, .slice none 0 0] 33 (0, 0)) ∧ Own (.sl shLink) wr R2 [.slice ka kn kc] DL FK ∧ B2 < wr.heap.size ∧ Below w.heap.size w wr) (fun i _ => M - (intOf i).toNat)
  case atStart => exact ⟨0, _, [], Nat.zero_le _, rfl, HA0.out, HR6.out.1, HR6.out.2.1, HR6.out.2.2, hB6, b6'⟩
  case round =>
    obtain ⟨k, Cs, Fs, hkM, rfl, hA, iR, iO, hK, hsz, hbel⟩ := hrel
    have hbs := hbel.size
    by_cases hlt : k < M
    · obtain ⟨g, rfl⟩ : ∃ g, va = some ⟨g, 0, none⟩ := by
        rcases hA.row.2 with ⟨h1, h2⟩ | ⟨g, cap, cur, hv, _⟩
        · omega
        · simp only [Value.slice.injEq] at hv
          exact ⟨g, hv.1⟩
      have hg := hA.row.lt g rfl
      have hgb : g ≠ B2 := HGB.out g rfl
      have hkQ : k < Q.length := by rw [HQ.out.1]; exact hlt
      obtain ⟨p, hp⟩ : ∃ p, p = Q[k] := ⟨_, rfl⟩
      have hpm : p ∈ Q := by rw [hp]; exact List.getElem_mem hkQ
      obtain ⟨⟨f0, hof⟩, hzl1, hzl2⟩ := HQ.out.2 p hpm
      obtain ⟨p1, m1, k1, F1, p2, m2, k2, F2, hpc, _, ob, os⟩ := openO_Node hof
      have hCk : Cs[k]? = some p.1 := by rw [hA.old k (Nat.le_refl _), List.getElem?_map, List.getElem?_eq_getElem hkQ, ← hp]; rfl
      rw [hpc] at hCk
      obtain ⟨ct, hct⟩ : ∃ z, z = cutAt cuts k := ⟨_, rfl⟩
      obtain ⟨y, hy⟩ : ∃ y, y = p.2.1 := ⟨_, rfl⟩
      obtain ⟨zb, hzb⟩ : ∃ z : List Int, z = p.2.2.1 := ⟨_, rfl⟩
      obtain ⟨zs, hzs⟩ : ∃ z : List Int, z = p.2.2.2.1 := ⟨_, rfl⟩
      obtain ⟨Z, hZ⟩ : ∃ Z, Z = tear zs zb ct := ⟨_, rfl⟩
      rw [← hy] at hCk
      have hm1 : m1 ≤ 1048576 := by rw [← (reads_len ob.reads).1]; exact hzl1
      have hm2 : m2 ≤ 1048576 := by rw [← (reads_len os.reads).1]; exact hzl2
      have hcr : -9223372036854775808 ≤ ct ∧ ct ≤ 9223372036854775807 := by
        rw [hct]; unfold cutAt
        split
        · omega
        · exact HWF.out _
      have OBS : Hid (Own (.sl .u8) w B0 [.slice p1 m1 k1] zb F1 ∧ Own (.sl .u8) w B0 [.slice p2 m2 k2] zs F2) := ⟨by rw [hzb]; exact ob, by rw [hzs]; exact os⟩
      have HDk : Hid ((crashFrom cuts 0 (Q.map Prod.snd))[k]? = some ((y, Z, Z, ()) : NodeD)) := by
        show _ = _
        rw [crash_at, List.getElem?_map, List.getElem?_eq_getElem hkQ, ← hp, Nat.zero_add, ← hct, hy, hZ, hzs, hzb]
        rfl
      have qcut : Hid (∀ w', Below w.heap.size w w' → Calls Tryz.prog 44 #[.slice a6 n6 c6, .int .i64 k] w' fun e w'' => e = .returned (.int .i64 ct) ∧ Below w'.heap.size w' w'') := fun w' h' => by
        rw [hct]; exact cutOf_ok a6 n6 c6 cuts k w' (HCU.out.later h') hcn (by omega)
      have qtorn : Hid (∀ w' b, Below w.heap.size w w' → w'.heap[b]? = some (.cells #[.int .i64 y, .slice p1 m1 k1, .slice p2 m2 k2] 70 (0, 0)) → Calls Tryz.prog 97 #[.int .i64 ct, .pointer (some ⟨b, 0, none⟩)] w' fun e w'' => ∃ a1 n1 c1 a2 n2 c2 F, e = .returned (.agg #[.int .i64 y, .slice a1 n1 c1, .slice a2 n2 c2]) ∧ Own shNode w'' w'.heap.size [.int .i64 y, .slice a1 n1 c1, .slice a2 n2 c2] ((y, Z, Z, ()) : NodeD) F ∧ F.Nodup ∧ Below w'.heap.size w' w'') := fun w' b h' hb => by
        rw [hZ]; exact torn_ok y ct p1 m1 k1 p2 m2 k2 zb zs b B0 B0 F1 F2 w' (OBS.out.1.later h') (OBS.out.2.later h') hm1 hm2 hcr.1 hcr.2 hb
      have g0 : wr.cell? ⟨g, k * 3, none⟩ = some (.int .i64 y) := (row_cells hA.row hA.len3 hCk hA.lenC 0 (by decide)).1
      have g1 : wr.cell? ⟨g, k * 3 + 1, none⟩ = some (.slice p1 m1 k1) := (row_cells hA.row hA.len3 hCk hA.lenC 1 (by decide)).1
      have g2 : wr.cell? ⟨g, k * 3 + 2, none⟩ = some (.slice p2 m2 k2) := (row_cells hA.row hA.len3 hCk hA.lenC 2 (by decide)).1
      have HCk : Hid (Cs[k]? = some [.int .i64 y, .slice p1 m1 k1, .slice p2 m2 k2]) := hCk
      have hkn : (k : Int) < (M : Int) := by omega
      obtain ⟨WN, hWN⟩ : ∃ W, W = wr.alloc (.cells #[.int .i64 y, .slice p1 m1 k1, .slice p2 m2 k2] 70) := ⟨_, rfl⟩
      have bN : Below wr.heap.size wr WN := by rw [hWN]; exact (Below.refl _ _).alloc (Nat.le_refl _) _
      have hnb : WN.heap[wr.heap.size]? = some (.cells #[.int .i64 y, .slice p1 m1 k1, .slice p2 m2 k2] 70 (0, 0)) := by rw [hWN]; exact heap_alloc_new wr _
      have zN : wr.heap.size ≤ WN.heap.size := bN.size
      have HWN : Hid (WN = _) := hWN
      obtain ⟨tb, htb⟩ : ∃ b, b = WN.heap.size := ⟨_, rfl⟩
      have qtear : Hid (Calls Tryz.prog 43 #[.agg #[.int .i64 y, .slice p1 m1 k1, .slice p2 m2 k2]] WN fun e w' => e = .returned (.func (.func 97) #[] #[.pointer (some ⟨tb, 0, none⟩)]) ∧ w'.heap[tb]? = some (.cells #[.int .i64 y, .slice p1 m1 k1, .slice p2 m2 k2] 70 (0, 0)) ∧ Below tb WN w') := by
        rw [htb]; exact tearing_ok y p1 m1 k1 p2 m2 k2 WN
      have HTE : Hid (tb = WN.heap.size) := htb
      clear htb
      have n0 : WN.cell? ⟨wr.heap.size, 0, none⟩ = some (.int .i64 y) := box_cell hnb rfl
      have n1 : WN.cell? ⟨wr.heap.size, 1, none⟩ = some (.slice p1 m1 k1) := box_cell hnb rfl
      have n2 : WN.cell? ⟨wr.heap.size, 2, none⟩ = some (.slice p2 m2 k2) := box_cell hnb rfl
      have BW : Hid (∀ w', Below WN.heap.size WN w' → w'.heap[B2]? = some (.cells #[.int .i64 x0, .int .i64 (-1), .int .i64 x2, .slice (some ⟨g, 0, none⟩) M vc, .slice ka kn kc, .slice none 0 0] 33 (0, 0)) ∧ w'.heap[w.heap.size + 1]? = some (.cells #[.int .i64 0, .int .i64 0, .int .i64 0, .slice none 0 0, .slice none 0 0, .slice none 0 0] 33 (0, 0))) := fun w' h' => ⟨(h'.block _ (by omega)).trans ((bN.block _ (by omega)).trans iO), (h'.block _ (by omega)).trans ((bN.block _ (by omega)).trans iR)⟩
      have BS : Hid (∀ w' : World, w'.heap[B2]? = some (.cells #[.int .i64 x0, .int .i64 (-1), .int .i64 x2, .slice (some ⟨g, 0, none⟩) M vc, .slice ka kn kc, .slice none 0 0] 33 (0, 0)) → w'.cell? ⟨B2, 3, none⟩ = some (.slice (some ⟨g, 0, none⟩) M vc)) := fun w' h1 => box_cell h1 rfl
      have HAN : Hid (Anew wr R3 (.slice (some ⟨g, 0, none⟩) M vc) M k Cs (Q.map Prod.fst) (crashFrom cuts 0 (Q.map Prod.snd)) Fs) := hA
      have HKK : Hid (Own (.sl shLink) wr R2 [.slice ka kn kc] DL FK) := hK
      have HNB : Hid _ := hnb
      clear hWN hCk hpc hA iR iO hK hy hzb hzs hZ hct hp hpm hof ob os hnb
      go_wp2_with fail
      rw [← HWN.out]
      refine qtear.out.mono ?_
      rintro e w7 ⟨rfl, itb, hb7⟩
      have d7 : Below WN.heap.size WN w7 := by rw [← HTE.out]; exact hb7
      have bD7 : Below WN.heap.size WN w7.drew := d7.drew
      have HTB : Hid (∀ w', Below w7.heap.size w7 w' → w'.heap[tb]? = some (.cells #[.int .i64 y, .slice p1 m1 k1, .slice p2 m2 k2] 70 (0, 0))) := fun w' h' => (h'.block _ (lt_heap itb)).trans itb
      have z7 := d7.size
      have b7 := hbel.trans ((bN.trans (d7.mono bN.size)).mono hbs)
      clear itb hb7 g0 g1 g2 n0 n1 n2
      go_wp2_with fail
      refine wp_region_held_drew (S := fun w' => w'.cell? ⟨B2, 3, none⟩ = some (.slice (some ⟨g, 0, none⟩) M vc)) (by kernel_rfl) (BS.out _ (BW.out _ bD7).1) (fun hHeld => ?_)
      refine wpAnyH_take (i := 0) (v := .pointer (some ⟨B2, 3, none⟩)) rfl (by kernel_rfl) (by kernel_rfl) (by kernel_rfl) (fun _ _ _ h => h) (Or.inl ⟨by kernel_rfl, ?_⟩) (by assumption) ?_
      · intro w9 hSw; (try dsimp only at hSw); go_simp
      simp only [Act.put, List.getElem_toArray, List.getElem_cons_succ, List.getElem_cons_zero, List.setIfInBounds_toArray, List.set_cons_zero, List.set_cons_succ]
      refine wpAnyH_take (i := 1) (v := .slice (some ⟨g, 0, none⟩) M vc) rfl (by kernel_rfl) (by kernel_rfl) (by kernel_rfl) (fun _ _ _ h => h) (Or.inl ⟨by kernel_rfl, ?_⟩) (by assumption) ?_
      · intro w9 hSw; (try dsimp only at hSw); go_simp
      simp only [Act.put, List.getElem_toArray, List.getElem_cons_succ, List.getElem_cons_zero, List.setIfInBounds_toArray, List.set_cons_zero, List.set_cons_succ]
      refine wpAnyH_take (i := 2) (v := .int .i64 (k : Int)) rfl (by kernel_rfl) (by kernel_rfl) (by kernel_rfl) (fun _ _ _ h => h) (Or.inl ⟨by kernel_rfl, ?_⟩) (by assumption) ?_
      · intro w9 hSw; (try dsimp only at hSw); go_simp
      simp only [Act.put, List.getElem_toArray, List.getElem_cons_succ, List.getElem_cons_zero, List.setIfInBounds_toArray, List.set_cons_zero, List.set_cons_succ]
      refine wpAnyH_take (i := 3) (v := .func (.func 97) #[] #[.pointer (some ⟨tb, 0, none⟩)]) rfl (by kernel_rfl) (by kernel_rfl) (by kernel_rfl) (fun _ _ _ h => h) (Or.inl ⟨by kernel_rfl, ?_⟩) (by assumption) ?_
      · intro w9 hSw; (try dsimp only at hSw); go_simp
      simp only [Act.put, List.getElem_toArray, List.getElem_cons_succ, List.getElem_cons_zero, List.setIfInBounds_toArray, List.set_cons_zero, List.set_cons_succ]
      refine wpAnyH_take (i := 4) (v := .slice a6 n6 c6) rfl (by kernel_rfl) (by kernel_rfl) (by kernel_rfl) (fun _ _ _ h => h) (Or.inl ⟨by kernel_rfl, ?_⟩) (by assumption) ?_
      · intro w9 hSw; (try dsimp only at hSw); go_simp
      simp only [Act.put, List.getElem_toArray, List.getElem_cons_succ, List.getElem_cons_zero, List.setIfInBounds_toArray, List.set_cons_zero, List.set_cons_succ]
      refine wpAnyH_take (i := 5) (v := .int .i64 (k : Int)) rfl (by kernel_rfl) (by kernel_rfl) (by kernel_rfl) (fun _ _ _ h => h) (Or.inl ⟨by kernel_rfl, ?_⟩) (by assumption) ?_
      · intro w9 hSw; (try dsimp only at hSw); go_simp
      simp only [Act.put, List.getElem_toArray, List.getElem_cons_succ, List.getElem_cons_zero, List.setIfInBounds_toArray, List.set_cons_zero, List.set_cons_succ]
      refine wpAnyH_ready (rs := [6]) (by kernel_rfl) (by simp) ?_
      refine AllReadyH.cons rfl (fun K hK => ?_) AllReadyH.nil
      go_simp
      refine (qcut.out _ b7.drew).mono ?_
      rintro e w8 ⟨rfl, hb8⟩
      have d8 : Below WN.heap.size WN w8 := bD7.trans (hb8.mono bD7.size)
      have b8 := b7.trans (((Below.refl w7.heap.size w7).drew.trans hb8).mono b7.size)
      have i8b := HTB.out w8 ((Below.refl w7.heap.size w7).drew.trans hb8)
      have z8 := d8.size
      clear hb8
      refine hK.out _ _ (BS.out w8 (BW.out w8 d8).1) (fun hHeld6 => ?_)
      clear hK
      refine wpAnyH_ready (rs := [7]) (by kernel_rfl) (by simp) ?_
      refine AllReadyH.cons rfl (fun K hK => ?_) AllReadyH.nil
      go_simp
      refine (qtorn.out _ tb b8 i8b).mono ?_
      rintro e w9 ⟨u1, l1, t1, u2, l2, t2, f, rfl, ho9, hf9, hb9⟩
      have d9 : Below WN.heap.size WN w9 := d8.trans (hb9.mono d8.size)
      have br9 := bN.trans (d9.mono bN.size)
      have A9 := HAN.out.later br9
      have rc0 := row_cells A9.row A9.len3 HCk.out A9.lenC 0 (by decide)
      have rc1 := row_cells A9.row A9.len3 HCk.out A9.lenC 1 (by decide)
      have rc2 := row_cells A9.row A9.len3 HCk.out A9.lenC 2 (by decide)
      have e0 : w9.cell? ⟨g, k * 3, none⟩ = some (.int .i64 y) := rc0.1
      have f0 : w9.frozen? ⟨g, k * 3, none⟩ = false := rc0.2
      have e1 : w9.cell? ⟨g, k * 3 + 1, none⟩ = some (.slice p1 m1 k1) := rc1.1
      have f1 : w9.frozen? ⟨g, k * 3 + 1, none⟩ = false := rc1.2
      have e2 : w9.cell? ⟨g, k * 3 + 2, none⟩ = some (.slice p2 m2 k2) := rc2.1
      have f2 : w9.frozen? ⟨g, k * 3 + 2, none⟩ = false := rc2.2
      have HL9 : Hid (∀ y ∈ f, w8.heap.size ≤ y) := fun y hy => (ho9.lt y hy).1
      have hR3 : R3 ≤ w8.heap.size := by omega
      have HA8 : Hid (Anew (((w9.setCell ⟨g, k * 3, none⟩ (.int .i64 y)).setCell ⟨g, k * 3 + 1, none⟩ (.slice u1 l1 t1)).setCell ⟨g, k * 3 + 2, none⟩ (.slice u2 l2 t2)) R3 (.slice (some ⟨g, 0, none⟩) M vc) M (k + 1) (Cs.set k [.int .i64 y, .slice u1 l1 t1, .slice u2 l2 t2]) (Q.map Prod.fst) (crashFrom cuts 0 (Q.map Prod.snd)) (Fs ++ [f])) := A9.step hlt HDk.out (ho9.base hR3) hf9 (fun y hy hm => by have h1 := HL9.out y hy; have h2 := (HAN.out.lt y (by simpa [Value.ownBlock] using hm)).2; omega)
      have HK8 : Hid (Own (.sl shLink) (((w9.setCell ⟨g, k * 3, none⟩ (.int .i64 y)).setCell ⟨g, k * 3 + 1, none⟩ (.slice u1 l1 t1)).setCell ⟨g, k * 3 + 2, none⟩ (.slice u2 l2 t2)) R2 [.slice ka kn kc] DL FK) := (HKK.out.later br9).keep fun y hy => by have h1 := (HFK.out y hy).2.1; exact (box_other _ (by omega)).trans ((box_other _ (by omega)).trans (box_other _ (by omega)))
      have HB8 : Hid (Below w.heap.size w (((w9.setCell ⟨g, k * 3, none⟩ (.int .i64 y)).setCell ⟨g, k * 3 + 1, none⟩ (.slice u1 l1 t1)).setCell ⟨g, k * 3 + 2, none⟩ (.slice u2 l2 t2))) := (((hbel.trans (br9.mono hbs)).setCell (p := ⟨g, k * 3, none⟩) (by simp; omega) _).setCell (p := ⟨g, k * 3 + 1, none⟩) (by simp; omega) _).setCell (p := ⟨g, k * 3 + 2, none⟩) (by simp; omega) _
      have HZ8 : Hid (∀ q, q ≠ g → (((w9.setCell ⟨g, k * 3, none⟩ (.int .i64 y)).setCell ⟨g, k * 3 + 1, none⟩ (.slice u1 l1 t1)).setCell ⟨g, k * 3 + 2, none⟩ (.slice u2 l2 t2)).heap[q]? = w9.heap[q]?) := fun q hq => (box_other _ hq).trans ((box_other _ hq).trans (box_other _ hq))
      have HW9 : Hid _ := BW.out w9 d9
      have zr9 := br9.size
      clear A9 rc0 rc1 rc2 ho9 hb9 hf9
      go_wp2_with fail
      refine hK.out _ _ (BS.out w9 HW9.out.1) (fun hHeld7 => ?_)
      clear hK
      refine wpAnyH_take (i := 8) (v := .pointer (some ⟨g, k * 3, none⟩)) rfl (by kernel_rfl) (by kernel_rfl) (by kernel_rfl) (fun _ _ _ h => h) (Or.inl ⟨by kernel_rfl, ?_⟩) (by assumption) ?_
      · intro w9 hSw; (try dsimp only at hSw); go_simp
      simp only [Act.put, List.getElem_toArray, List.getElem_cons_succ, List.getElem_cons_zero, List.setIfInBounds_toArray, List.set_cons_zero, List.set_cons_succ]
      refine wpAnyH_ready (rs := [9]) (by kernel_rfl) (by simp) ?_
      refine AllReadyH.cons rfl (fun K hK => ?_) AllReadyH.nil
      go_simp
      refine hK.out _ _ (BS.out _ ((HZ8.out _ (Ne.symm hgb)).trans HW9.out.1)) (fun hHeld9 => ?_)
      clear hK
      refine wpAnyH_done (by kernel_rfl) ?_ _
      have i8R : (((w9.setCell ⟨g, k * 3, none⟩ (.int .i64 y)).setCell ⟨g, k * 3 + 1, none⟩ (.slice u1 l1 t1)).setCell ⟨g, k * 3 + 2, none⟩ (.slice u2 l2 t2)).heap[w.heap.size + 1]? = _ := (HZ8.out _ (by omega)).trans HW9.out.2
      have i8O : (((w9.setCell ⟨g, k * 3, none⟩ (.int .i64 y)).setCell ⟨g, k * 3 + 1, none⟩ (.slice u1 l1 t1)).setCell ⟨g, k * 3 + 2, none⟩ (.slice u2 l2 t2)).heap[B2]? = _ := (HZ8.out _ (Ne.symm hgb)).trans HW9.out.1
      have z8' : B2 < (((w9.setCell ⟨g, k * 3, none⟩ (.int .i64 y)).setCell ⟨g, k * 3 + 1, none⟩ (.slice u1 l1 t1)).setCell ⟨g, k * 3 + 2, none⟩ (.slice u2 l2 t2)).heap.size := by simp; omega
      have HR8 : Hid (_ ∧ _ ∧ _) := ⟨i8R, i8O, z8'⟩
      clear i8R i8O z8' e0 f0 e1 f1 e2 f2
      go_wp2
      go_roundw
      case rel => exact ⟨k + 1, _, _, by omega, by go_num, HA8.out, HR8.out.1, HR8.out.2.1, HK8.out, HR8.out.2.2, HB8.out⟩
      case measure => simp [intOf]; omega
    · have e : k = M := by omega
      subst e
      obtain ⟨F3, o3, nd3, hF3⟩ := hA.own
      have L3 : ∀ y ∈ F3, R3 ≤ y := fun y hy => (hA.lt y (hF3 y hy)).1
      have yc0 : wr.cell? ⟨B2, 0, none⟩ = some (.int .i64 x0) := box_cell iO rfl
      have yc1 : wr.cell? ⟨B2, 1, none⟩ = some (.int .i64 (-1)) := box_cell iO rfl
      have yc2 : wr.cell? ⟨B2, 2, none⟩ = some (.int .i64 x2) := box_cell iO rfl
      have yc3 : wr.cell? ⟨B2, 3, none⟩ = some (.slice va k vc) := box_cell iO rfl
      have yc4 : wr.cell? ⟨B2, 4, none⟩ = some (.slice ka kn kc) := box_cell iO rfl
      have yc5 : wr.cell? ⟨B2, 5, none⟩ = some (.slice none 0 0) := box_cell iO rfl
      have yr0 : wr.cell? ⟨w.heap.size + 1, 0, none⟩ = some (.int .i64 0) := box_cell iR rfl
      have yg0 : wr.frozen? ⟨w.heap.size + 1, 0, none⟩ = false := box_frozen iR
      have yr1 : wr.cell? ⟨w.heap.size + 1, 1, none⟩ = some (.int .i64 0) := box_cell iR rfl
      have yg1 : wr.frozen? ⟨w.heap.size + 1, 1, none⟩ = false := box_frozen iR
      have yr2 : wr.cell? ⟨w.heap.size + 1, 2, none⟩ = some (.int .i64 0) := box_cell iR rfl
      have yg2 : wr.frozen? ⟨w.heap.size + 1, 2, none⟩ = false := box_frozen iR
      have yr3 : wr.cell? ⟨w.heap.size + 1, 3, none⟩ = some (.slice none 0 0) := box_cell iR rfl
      have yg3 : wr.frozen? ⟨w.heap.size + 1, 3, none⟩ = false := box_frozen iR
      have yr4 : wr.cell? ⟨w.heap.size + 1, 4, none⟩ = some (.slice none 0 0) := box_cell iR rfl
      have yg4 : wr.frozen? ⟨w.heap.size + 1, 4, none⟩ = false := box_frozen iR
      have yr5 : wr.cell? ⟨w.heap.size + 1, 5, none⟩ = some (.slice none 0 0) := box_cell iR rfl
      have yg5 : wr.frozen? ⟨w.heap.size + 1, 5, none⟩ = false := box_frozen iR
      have yz0 : ((wr).setCell ⟨w.heap.size + 1, 0, none⟩ (.int .i64 x0)).cell? ⟨w.heap.size + 1, 0, none⟩ = some (.int .i64 x0) := World.cell?_setCell_same _ _ _ (by exact yr0)
      have yz1 : (((wr).setCell ⟨w.heap.size + 1, 0, none⟩ (.int .i64 x0)).setCell ⟨w.heap.size + 1, 1, none⟩ (.int .i64 (-1))).cell? ⟨w.heap.size + 1, 1, none⟩ = some (.int .i64 (-1)) := World.cell?_setCell_same _ _ _ (by rw [World.cell?_setCell_other _ _ _ _ (by simp)]; exact yr1)
      have yz2 : ((((wr).setCell ⟨w.heap.size + 1, 0, none⟩ (.int .i64 x0)).setCell ⟨w.heap.size + 1, 1, none⟩ (.int .i64 (-1))).setCell ⟨w.heap.size + 1, 2, none⟩ (.int .i64 x2)).cell? ⟨w.heap.size + 1, 2, none⟩ = some (.int .i64 x2) := World.cell?_setCell_same _ _ _ (by rw [World.cell?_setCell_other _ _ _ _ (by simp), World.cell?_setCell_other _ _ _ _ (by simp)]; exact yr2)
      have yz3 : (((((wr).setCell ⟨w.heap.size + 1, 0, none⟩ (.int .i64 x0)).setCell ⟨w.heap.size + 1, 1, none⟩ (.int .i64 (-1))).setCell ⟨w.heap.size + 1, 2, none⟩ (.int .i64 x2)).setCell ⟨w.heap.size + 1, 3, none⟩ (.slice va k vc)).cell? ⟨w.heap.size + 1, 3, none⟩ = some (.slice va k vc) := World.cell?_setCell_same _ _ _ (by rw [World.cell?_setCell_other _ _ _ _ (by simp), World.cell?_setCell_other _ _ _ _ (by simp), World.cell?_setCell_other _ _ _ _ (by simp)]; exact yr3)
      have yz4 : ((((((wr).setCell ⟨w.heap.size + 1, 0, none⟩ (.int .i64 x0)).setCell ⟨w.heap.size + 1, 1, none⟩ (.int .i64 (-1))).setCell ⟨w.heap.size + 1, 2, none⟩ (.int .i64 x2)).setCell ⟨w.heap.size + 1, 3, none⟩ (.slice va k vc)).setCell ⟨w.heap.size + 1, 4, none⟩ (.slice ka kn kc)).cell? ⟨w.heap.size + 1, 4, none⟩ = some (.slice ka kn kc) := World.cell?_setCell_same _ _ _ (by rw [World.cell?_setCell_other _ _ _ _ (by simp), World.cell?_setCell_other _ _ _ _ (by simp), World.cell?_setCell_other _ _ _ _ (by simp), World.cell?_setCell_other _ _ _ _ (by simp)]; exact yr4)
      have yz5 : (((((((wr).setCell ⟨w.heap.size + 1, 0, none⟩ (.int .i64 x0)).setCell ⟨w.heap.size + 1, 1, none⟩ (.int .i64 (-1))).setCell ⟨w.heap.size + 1, 2, none⟩ (.int .i64 x2)).setCell ⟨w.heap.size + 1, 3, none⟩ (.slice va k vc)).setCell ⟨w.heap.size + 1, 4, none⟩ (.slice ka kn kc)).setCell ⟨w.heap.size + 1, 5, none⟩ (.slice none 0 0)).cell? ⟨w.heap.size + 1, 5, none⟩ = some (.slice none 0 0) := World.cell?_setCell_same _ _ _ (by rw [World.cell?_setCell_other _ _ _ _ (by simp), World.cell?_setCell_other _ _ _ _ (by simp), World.cell?_setCell_other _ _ _ _ (by simp), World.cell?_setCell_other _ _ _ _ (by simp), World.cell?_setCell_other _ _ _ _ (by simp)]; exact yr5)
      have HF : Hid (Own shDisk (((((((wr).setCell ⟨w.heap.size + 1, 0, none⟩ (.int .i64 x0)).setCell ⟨w.heap.size + 1, 1, none⟩ (.int .i64 (-1))).setCell ⟨w.heap.size + 1, 2, none⟩ (.int .i64 x2)).setCell ⟨w.heap.size + 1, 3, none⟩ (.slice va k vc)).setCell ⟨w.heap.size + 1, 4, none⟩ (.slice ka kn kc)).setCell ⟨w.heap.size + 1, 5, none⟩ (.slice none 0 0)) w.heap.size [.int .i64 x0, .int .i64 (-1), .int .i64 x2, .slice va k vc, .slice ka kn kc, .slice none 0 0] (crashD d tn cuts) (F3 ++ (FK ++ ([] ++ []))) ∧ (F3 ++ (FK ++ ([] ++ []))).Nodup ∧ Below w.heap.size w (((((((wr).setCell ⟨w.heap.size + 1, 0, none⟩ (.int .i64 x0)).setCell ⟨w.heap.size + 1, 1, none⟩ (.int .i64 (-1))).setCell ⟨w.heap.size + 1, 2, none⟩ (.int .i64 x2)).setCell ⟨w.heap.size + 1, 3, none⟩ (.slice va k vc)).setCell ⟨w.heap.size + 1, 4, none⟩ (.slice ka kn kc)).setCell ⟨w.heap.size + 1, 5, none⟩ (.slice none 0 0))) := by
        refine ⟨HCD.out _ _ _ _ _ _ ((o3.keep fun y hy => by have h1 := L3 y hy; exact ((box_other _ (by omega)).trans ((box_other _ (by omega)).trans ((box_other _ (by omega)).trans ((box_other _ (by omega)).trans ((box_other _ (by omega)).trans (box_other _ (by omega)))))))).base (by omega)) ((hK.keep fun y hy => by have h1 := (HFK.out y hy).1; exact ((box_other _ (by omega)).trans ((box_other _ (by omega)).trans ((box_other _ (by omega)).trans ((box_other _ (by omega)).trans ((box_other _ (by omega)).trans (box_other _ (by omega)))))))).base (by omega)), ?_, ((((((hbel.setCell (p := ⟨w.heap.size + 1, 0, none⟩) (by simp <;> omega) (.int .i64 x0)).setCell (p := ⟨w.heap.size + 1, 1, none⟩) (by simp <;> omega) (.int .i64 (-1))).setCell (p := ⟨w.heap.size + 1, 2, none⟩) (by simp <;> omega) (.int .i64 x2)).setCell (p := ⟨w.heap.size + 1, 3, none⟩) (by simp <;> omega) (.slice va k vc)).setCell (p := ⟨w.heap.size + 1, 4, none⟩) (by simp <;> omega) (.slice ka kn kc)).setCell (p := ⟨w.heap.size + 1, 5, none⟩) (by simp <;> omega) (.slice none 0 0))⟩
        simp only [List.append_nil]
        refine List.nodup_append.2 ⟨nd3, hnd3, fun y hy z hz e9 => ?_⟩
        subst e9
        have h1 := L3 y hy
        have h2 := (HFK.out y hz).2.1
        omega
      clear hA iR iO hK o3 nd3 hF3 L3 hbel
      go_wp2
      (try simp only [Exit.inBlock, Exit.then])
      refine bodyPost_ret (by simp [results, Tryz.results10, go_sem, yz0, yz1, yz2, yz3, yz4, yz5]; try rfl) rfl ?_
      exact ⟨_, _, rfl, HF.out.1, HF.out.2.1, HF.out.2.2⟩

end Go.Proofs.YtkaegbhmeonjfaaGreat

/- OnlyS: l04Only of the model. By program (onlygen.py). -/
namespace Go.Proofs.YtkaegbhmeonjfaaGreat
open Go.RowKit
set_option linter.unusedVariables false
set_option maxRecDepth 100000
set_option linter.unusedSimpArgs false

set_option maxRecDepth 100000 in
set_option maxHeartbeats 8000000 in
theorem specOnly_ok (x0 x1 x2 : Int) (a3 : Option Addr) (n3 c3 : Nat) (a4 : Option Addr) (n4 c4 : Nat) (a5 : Option Addr) (n5 c5 : Nat) (dd : shDisk.D) (kl : List LinkD) (P : List (List Value × NodeD)) (w : World)
    (hl : P.length = n3) (hn3 : n3 ≤ 1048576) (hP : RowP w a3 P) (hd : Reads shDisk w [.int .i64 x0, .int .i64 x1, .int .i64 x2, .slice a3 n3 c3, .slice a4 n4 c4, .slice a5 n5 c5] dd) (hs : shDisk.sz dd ≤ 1048576) (hI : idsL dd.2.2.2.2.1 dd.2.2.2.2.2.1 = idsK kl) :
    Calls Tryz.prog 34 #[.agg #[.int .i64 x0, .int .i64 x1, .int .i64 x2, .slice a3 n3 c3, .slice a4 n4 c4, .slice a5 n5 c5]] w fun e w' => ∃ va vc, e = .returned (.agg #[.int .i64 x0, .int .i64 x1, .int .i64 x2, .slice va (keepP kl P).length vc, .slice a4 n4 c4, .slice a5 n5 c5]) ∧ w'.ownsRow w.heap.size 70 3 (.slice va (keepP kl P).length vc) (keepP kl P).length (keepC kl P) ∧ Below w.heap.size w w' := by
  obtain ⟨i0, hi, hz0, hz1, hz2⟩ := info_parts infoNode
  have HL : Hid (P.length = n3) := hl
  have HP : Hid (RowP w a3 P) := hP
  have qids : Hid (∀ w', Below w.heap.size w w' → Calls Tryz.prog 63 #[.agg #[.int .i64 x0, .int .i64 x1, .int .i64 x2, .slice a3 n3 c3, .slice a4 n4 c4, .slice a5 n5 c5]] w' fun e w'' => ∃ ia nn ic, e = .returned (.slice ia nn ic) ∧ Reads (.sl .int) w'' [.slice ia nn ic] (idsK kl) ∧ Below w'.heap.size w' w'') := fun w' h' => by
    refine (specIds_ok _ dd w' (hd.later h') hs).mono ?_
    rintro e w'' ⟨g, c, rfl, ho, hb⟩
    exact ⟨_, _, _, rfl, hI ▸ ho.reads, hb⟩
  clear hl hP hd hs hI
  obtain ⟨W0, hW0⟩ : ∃ W0, W0 = ((w.alloc (.cells #[.int .i64 x0, .int .i64 x1, .int .i64 x2, .slice a3 n3 c3, .slice a4 n4 c4, .slice a5 n5 c5] 33)).alloc (.cells #[.int .i64 0, .int .i64 0, .int .i64 0, .slice none 0 0, .slice none 0 0, .slice none 0 0] 33)).alloc (.cells #[] 70) := ⟨_, rfl⟩
  obtain ⟨j0, j1, j2, isz⟩ := alloc3_heap w (.cells #[.int .i64 x0, .int .i64 x1, .int .i64 x2, .slice a3 n3 c3, .slice a4 n4 c4, .slice a5 n5 c5] 33) (.cells #[.int .i64 0, .int .i64 0, .int .i64 0, .slice none 0 0, .slice none 0 0, .slice none 0 0] 33) (.cells #[] 70)
  rw [← hW0] at j0 j1 j2 isz
  have bW0 : Below w.heap.size w W0 := by rw [hW0]; exact (((Below.refl _ _).alloc (Nat.le_refl _) _).alloc (by simp) _).alloc (by simp; omega) _
  have hrow0 : W0.ownsRow (w.heap.size + 1 + 1) 70 3 (.slice (some ⟨w.heap.size + 1 + 1, 0, none⟩) 0 0) 0 [] := by
    rw [hW0]
    have := World.ownsRow_lit (base := w.heap.size + 1 + 1) (e := 70) (size := 3) ((w.alloc (.cells #[.int .i64 x0, .int .i64 x1, .int .i64 x2, .slice a3 n3 c3, .slice a4 n4 c4, .slice a5 n5 c5] 33)).alloc (.cells #[.int .i64 0, .int .i64 0, .int .i64 0, .slice none 0 0, .slice none 0 0, .slice none 0 0] 33)) #[] 0 (by simp) (Nat.zero_le _) rfl
    simpa using this
  have HW0 : Hid (W0 = _) := hW0
  have HR0 : Hid (_ ∧ _ ∧ _) := ⟨j0, j1, hrow0⟩
  have c3' : W0.cell? ⟨w.heap.size, 3, none⟩ = some (.slice a3 n3 c3) := box_cell j0 rfl
  clear hW0 j0 j1 j2 hrow0
  go_enter Tryz.func34, Tryz.ntmps34
  go_wp2
  rw [← HW0.out]
  go_loopw [3, 10] (fun u i wr => ∃ (k : Nat) (v : Value), v = u ∧ k ≤ n3 ∧ i = .int .i64 k ∧ wr.heap[w.heap.size]? = some (.cells #[.int .i64 x0, .int .i64 x1, .int .i64 x2, .slice a3 n3 c3, .slice a4 n4 c4, .slice a5 n5 c5] 33 (0, 0)) ∧ wr.heap[w.heap.size + 1]? = some (.cells #[.int .i64 0, .int .i64 0, .int .i64 0, .slice none 0 0, .slice none 0 0, .slice none 0 0] 33 (0, 0)) ∧ wr.ownsRow (w.heap.size + 1 + 1) 70 3 v (keepP kl (P.take k)).length (keepC kl (P.take k)) ∧ w.heap.size + 1 + 1 + 1 ≤ wr.heap.size ∧ Below w.heap.size w wr) (fun _ i _ => n3 - (intOf i).toNat)
  case atStart => exact ⟨0, _, rfl, Nat.zero_le _, rfl, HR0.out.1, HR0.out.2.1, HR0.out.2.2, by omega, bW0⟩
  case round =>
    obtain ⟨k, v, rfl, hk, rfl, iA, iB, hown, hsz, hbel⟩ := hrel
    have hbs := hbel.size
    obtain ⟨m, hm⟩ : ∃ m, m = (keepP kl (P.take k)).length := ⟨_, rfl⟩
    rw [← hm] at hown
    obtain ⟨va, vc, rfl⟩ : ∃ a c, v = .slice a m c := by
      rcases hown.2 with ⟨h1, h2⟩ | ⟨g, cap, cur, hv, _⟩
      · exact ⟨none, 0, by rw [h1, h2]⟩
      · exact ⟨_, _, hv⟩
    have HM : Hid (m = (keepP kl (P.take k)).length) := hm
    by_cases hlt : k < n3
    · obtain ⟨b, off, p1, m1, k1, p2, m2, k2, rfl, hb, hpc, g0', g1', g2'⟩ := HP.out k (by rw [HL.out]; exact hlt)
      obtain ⟨p, hp⟩ : ∃ p, p = P[k]'(by rw [HL.out]; exact hlt) := ⟨_, rfl⟩
      rw [← hp] at hpc g0'
      have htk : P.take (k + 1) = P.take k ++ [p] := by rw [hp]; exact List.take_succ_eq_append_getElem (by rw [HL.out]; exact hlt)
      obtain ⟨y, hy⟩ : ∃ y, y = p.2.1 := ⟨_, rfl⟩
      rw [← hy] at hpc g0'
      have g0 : wr.cell? ⟨b, off + k * 3, none⟩ = some (.int .i64 y) := (hbel.cell (p := ⟨b, off + k * 3, none⟩) hb).trans g0'
      have g1 : wr.cell? ⟨b, off + k * 3 + 1, none⟩ = some (.slice p1 m1 k1) := (hbel.cell (p := ⟨b, off + k * 3 + 1, none⟩) hb).trans g1'
      have g2 : wr.cell? ⟨b, off + k * 3 + 2, none⟩ = some (.slice p2 m2 k2) := (hbel.cell (p := ⟨b, off + k * 3 + 2, none⟩) hb).trans g2'
      have hkn : (k : Int) < (n3 : Int) := by omega
      have hln : m ≤ k := by rw [hm]; exact Nat.le_trans (keepP_len _ _) (by rw [List.length_take]; omega)
      obtain ⟨W1, hW1⟩ : ∃ W1, W1 = wr.alloc (.cells #[.int .i64 y, .slice p1 m1 k1, .slice p2 m2 k2] 70) := ⟨_, rfl⟩
      have bW1 : Below wr.heap.size wr W1 := by rw [hW1]; exact (Below.refl _ _).alloc (Nat.le_refl _) _
      have hnb : W1.heap[wr.heap.size]? = some (.cells #[.int .i64 y, .slice p1 m1 k1, .slice p2 m2 k2] 70 (0, 0)) := by rw [hW1]; exact heap_alloc_new wr _
      have z1 : W1.heap.size = wr.heap.size + 1 := by rw [hW1]; simp
      have HW1 : Hid (W1 = _) := hW1
      have BX : Hid (∀ w', Below W1.heap.size W1 w' → w'.heap[w.heap.size]? = some (.cells #[.int .i64 x0, .int .i64 x1, .int .i64 x2, .slice (some ⟨b, off, none⟩) n3 c3, .slice a4 n4 c4, .slice a5 n5 c5] 33 (0, 0)) ∧ w'.heap[w.heap.size + 1]? = some (.cells #[.int .i64 0, .int .i64 0, .int .i64 0, .slice none 0 0, .slice none 0 0, .slice none 0 0] 33 (0, 0)) ∧ w'.heap[wr.heap.size]? = some (.cells #[.int .i64 y, .slice p1 m1 k1, .slice p2 m2 k2] 70 (0, 0))) := fun w' h' => ⟨(h'.block _ (by omega)).trans ((bW1.block _ (by omega)).trans iA), (h'.block _ (by omega)).trans ((bW1.block _ (by omega)).trans iB), (h'.block _ (by omega)).trans hnb⟩
      have BS : Hid (∀ w', Below W1.heap.size W1 w' → w'.cell? ⟨w.heap.size, 0, none⟩ = some (.int .i64 x0) ∧ w'.cell? ⟨w.heap.size, 1, none⟩ = some (.int .i64 x1) ∧ w'.cell? ⟨w.heap.size, 2, none⟩ = some (.int .i64 x2) ∧ w'.cell? ⟨w.heap.size, 3, none⟩ = some (.slice (some ⟨b, off, none⟩) n3 c3) ∧ w'.cell? ⟨w.heap.size, 4, none⟩ = some (.slice a4 n4 c4) ∧ w'.cell? ⟨w.heap.size, 5, none⟩ = some (.slice a5 n5 c5) ∧ w'.cell? ⟨wr.heap.size, 0, none⟩ = some (.int .i64 y)) := fun w' h' => by
        obtain ⟨h1, h2, h3⟩ := BX.out w' h'
        exact ⟨box_cell h1 rfl, box_cell h1 rfl, box_cell h1 rfl, box_cell h1 rfl, box_cell h1 rfl, box_cell h1 rfl, box_cell h3 rfl⟩
      have HOW : Hid (wr.ownsRow (w.heap.size + 1 + 1) 70 3 (.slice va m vc) m (keepC kl (P.take k))) := hown
      have bD : Below W1.heap.size W1 W1.drew := (Below.refl _ _).drew
      have bw1 := hbel.trans (bW1.mono hbs)
      have HPC : Hid (hasN (idsK kl) y = true → (keepP kl (P.take (k + 1))).length = m + 1 ∧ keepC kl (P.take (k + 1)) = keepC kl (P.take k) ++ [.int .i64 y, .slice p1 m1 k1, .slice p2 m2 k2]) := fun hq => by
        rw [htk, ← hpc, keepP_yes kl _ p (by rw [← hy]; exact hq), List.length_append, ← hm]
        exact ⟨rfl, keepC_yes kl _ p (by rw [← hy]; exact hq)⟩
      have HPN : Hid (hasN (idsK kl) y = false → (keepP kl (P.take (k + 1))).length = m ∧ keepC kl (P.take (k + 1)) = keepC kl (P.take k)) := fun hq => by
        rw [htk, keepP_no kl _ p (by rw [← hy]; exact hq), ← hm]
        exact ⟨rfl, keepC_no kl _ p (by rw [← hy]; exact hq)⟩
      obtain ⟨hq, ehq⟩ : ∃ q, q = hasN (idsK kl) y := ⟨_, rfl⟩
      rw [← ehq] at HPC HPN
      have qhas : Hid (∀ w' ia nn ic, Reads (.sl .int) w' [.slice ia nn ic] (idsK kl) → Calls Tryz.prog 62 #[.slice ia nn ic, .int .i64 y] w' fun e w'' => e = .returned (.bool hq) ∧ w'' = w') := fun w' ia nn ic hr' => by rw [ehq]; exact specHasInt_ok ia nn ic _ y w' hr'
      obtain ⟨s0, s1, s2, s3, s4, s5, s6⟩ := BS.out W1 (Below.refl _ _)
      clear hW1 hnb hp hy hpc g0' g1' g2' htk iA iB hown hm ehq
      go_wp2_with fail
      rw [← HW1.out]
      refine wp_region_held_drew (S := fun w' => w'.cell? ⟨w.heap.size, 0, none⟩ = some (.int .i64 x0) ∧ w'.cell? ⟨w.heap.size, 1, none⟩ = some (.int .i64 x1) ∧ w'.cell? ⟨w.heap.size, 2, none⟩ = some (.int .i64 x2) ∧ w'.cell? ⟨w.heap.size, 3, none⟩ = some (.slice (some ⟨b, off, none⟩) n3 c3) ∧ w'.cell? ⟨w.heap.size, 4, none⟩ = some (.slice a4 n4 c4) ∧ w'.cell? ⟨w.heap.size, 5, none⟩ = some (.slice a5 n5 c5) ∧ w'.cell? ⟨wr.heap.size, 0, none⟩ = some (.int .i64 y)) (by kernel_rfl) (BS.out _ bD) (fun hHeld => ?_)
      refine wpAnyH_take (i := 0) (v := .agg #[.int .i64 x0, .int .i64 x1, .int .i64 x2, .slice (some ⟨b, off, none⟩) n3 c3, .slice a4 n4 c4, .slice a5 n5 c5]) rfl (by kernel_rfl) (by kernel_rfl) (by kernel_rfl) (fun _ _ _ h => h) (Or.inl ⟨by kernel_rfl, ?_⟩) (by assumption) ?_
      · intro w9 hSw; (try dsimp only at hSw); go_simp
      simp only [Act.put, List.getElem_toArray, List.getElem_cons_succ, List.getElem_cons_zero, List.setIfInBounds_toArray, List.set_cons_zero, List.set_cons_succ]
      refine wpAnyH_take (i := 2) (v := .pointer (some ⟨wr.heap.size, 0, none⟩)) rfl (by kernel_rfl) (by kernel_rfl) (by kernel_rfl) (fun _ _ _ h => h) (Or.inl ⟨by kernel_rfl, ?_⟩) (by assumption) ?_
      · intro w9 hSw; (try dsimp only at hSw); go_simp
      simp only [Act.put, List.getElem_toArray, List.getElem_cons_succ, List.getElem_cons_zero, List.setIfInBounds_toArray, List.set_cons_zero, List.set_cons_succ]
      refine wpAnyH_take (i := 3) (v := .int .i64 y) rfl (by kernel_rfl) (by kernel_rfl) (by kernel_rfl) (fun _ _ _ h => h) (Or.inl ⟨by kernel_rfl, ?_⟩) (by assumption) ?_
      · intro w9 hSw; (try dsimp only at hSw); go_simp
      simp only [Act.put, List.getElem_toArray, List.getElem_cons_succ, List.getElem_cons_zero, List.setIfInBounds_toArray, List.set_cons_zero, List.set_cons_succ]
      refine wpAnyH_ready (rs := [1]) (by kernel_rfl) (by simp) ?_
      refine AllReadyH.cons rfl (fun K hK => ?_) AllReadyH.nil
      go_simp
      refine (qids.out _ (bw1.trans (bD.mono bw1.size))).mono ?_
      rintro e w2 ⟨ia, nn, ic, rfl, hr2, hb2⟩
      have d2 : Below W1.heap.size W1 w2 := bD.trans (hb2.mono bD.size)
      have HR2 : Hid (Reads (.sl .int) w2 [.slice ia nn ic] (idsK kl)) := hr2
      clear hr2 hb2
      go_wp2_with fail
      refine hK.out _ _ (BS.out w2 d2) (fun hHeld1 => ?_)
      clear hK
      refine wpAnyH_ready (rs := [4]) (by kernel_rfl) (by simp) ?_
      refine AllReadyH.cons rfl (fun K hK => ?_) AllReadyH.nil
      go_simp
      refine (qhas.out _ ia nn ic HR2.out).mono ?_
      rintro e w3 ⟨rfl, rfl⟩
      go_wp2_with fail
      refine hK.out _ _ (BS.out _ d2) (fun hHeld4 => ?_)
      clear hK
      refine wpAnyH_done (by kernel_rfl) ?_ _
      have br := bW1.trans (d2.mono bW1.size)
      have b2 := hbel.trans (br.mono hbs)
      have zr := br.size
      have HB2 : Hid _ := BX.out w3 d2
      have o2 := own_later HOW.out br
      have n0 : w3.cell? ⟨wr.heap.size, 0, none⟩ = some (.int .i64 y) := box_cell HB2.out.2.2 rfl
      have n1 : w3.cell? ⟨wr.heap.size, 1, none⟩ = some (.slice p1 m1 k1) := box_cell HB2.out.2.2 rfl
      have n2 : w3.cell? ⟨wr.heap.size, 2, none⟩ = some (.slice p2 m2 k2) := box_cell HB2.out.2.2 rfl
      cases hq with
      | false =>
        have e9 := HPN.out rfl
        have HE : Hid _ := e9
        clear e9 g0 g1 g2 s0 s1 s2 s3 s4 s5 s6
        go_wp2
        go_roundw
        case rel => exact ⟨k + 1, _, rfl, by omega, by go_num, HB2.out.1, HB2.out.2.1, by rw [HE.out.1, HE.out.2]; exact o2, by omega, b2⟩
        case measure => simp [intOf]; omega
      | true =>
        have e9 := HPC.out rfl
        have HE : Hid _ := e9
        clear e9 g0 g1 g2 s0 s1 s2 s3 s4 s5 s6
        go_wp2_with (at_builtin; refine wpList_append_src rfl _ _ 29 rfl (w.heap.size + 1 + 1) 70 i0 (.agg #[.int .i64 0, .slice none 0 0, .slice none 0 0]) 3 56 Tryz.underlying29 hi hz0 hz1 hz2 rfl (by decide) (.slice va m vc) m (keepC kl (P.take k)) rfl (o2.alloc _) (.slice (some ⟨w3.heap.size, 0, none⟩) 1 1) 1 [.int .i64 y, .slice p1 m1 k1, .slice p2 m2 k2] rfl rfl (.inr ⟨_, 1, rfl, cells_new w3 [.int .i64 y, .slice p1 m1 k1, .slice p2 m2 k2] 70⟩) ?c2 ?c3 ?c4 ?c5 ?_)
        case c2 => first | exact ⟨rfl, rfl, rfl⟩ | (intro u hu; simp at hu; rcases hu with rfl | rfl | rfl <;> rfl)
        case c3 => unfold maxLen; omega
        case c4 => omega
        case c5 => first | omega | (simp; omega)
        intro v4 w4 o4 gr4
        have b4 : Below w.heap.size w w4 := (b2.alloc b2.size _).grown gr4 (by have h9 := b2.size; simp; omega) (fun y h => by have := (o2.lt y h).1; omega)
        have gz := gr4.size
        have bl : ∀ q, q < w3.heap.size → q < w.heap.size + 1 + 1 → w4.heap[q]? = w3.heap[q]? := fun q h1 h2 => by
          rw [gr4.block q (by simp; omega) (fun e9 => by have h7 := (o2.lt q e9.symm).1; omega)]
          exact heap_alloc_old _ _ h1
        rw [← HE.out.2] at o4
        have HR4 : Hid (_ ∧ _ ∧ _ ∧ _) := ⟨(bl w.heap.size (by omega) (by omega)).trans HB2.out.1, (bl (w.heap.size + 1) (by omega) (by omega)).trans HB2.out.2.1, o4, b4⟩
        have HZ4 : Hid (w.heap.size + 1 + 1 + 1 ≤ w4.heap.size) := by show _ ≤ _; simp at gz; omega
        clear gr4 o2 bl o4 b4 n0 n1 n2 gz
        go_wp2
        go_roundw
        case rel => exact ⟨k + 1, _, rfl, by omega, by go_num, HR4.out.1, HR4.out.2.1, by rw [HE.out.1]; exact HR4.out.2.2.1, HZ4.out, HR4.out.2.2.2⟩
        case measure => simp [intOf]; omega
    · have e : k = n3 := by omega
      subst e
      have eT : P.take k = P := List.take_of_length_le (by rw [HL.out]; exact Nat.le_refl _)
      rw [eT] at hown HM
      clear hm
      have yb0 : wr.cell? ⟨w.heap.size, 0, none⟩ = some (.int .i64 x0) := box_cell iA rfl
      have yf0 : wr.frozen? ⟨w.heap.size, 0, none⟩ = false := box_frozen iA
      have yr0 : wr.cell? ⟨w.heap.size + 1, 0, none⟩ = some (.int .i64 0) := box_cell iB rfl
      have yg0 : wr.frozen? ⟨w.heap.size + 1, 0, none⟩ = false := box_frozen iB
      have yb1 : wr.cell? ⟨w.heap.size, 1, none⟩ = some (.int .i64 x1) := box_cell iA rfl
      have yf1 : wr.frozen? ⟨w.heap.size, 1, none⟩ = false := box_frozen iA
      have yr1 : wr.cell? ⟨w.heap.size + 1, 1, none⟩ = some (.int .i64 0) := box_cell iB rfl
      have yg1 : wr.frozen? ⟨w.heap.size + 1, 1, none⟩ = false := box_frozen iB
      have yb2 : wr.cell? ⟨w.heap.size, 2, none⟩ = some (.int .i64 x2) := box_cell iA rfl
      have yf2 : wr.frozen? ⟨w.heap.size, 2, none⟩ = false := box_frozen iA
      have yr2 : wr.cell? ⟨w.heap.size + 1, 2, none⟩ = some (.int .i64 0) := box_cell iB rfl
      have yg2 : wr.frozen? ⟨w.heap.size + 1, 2, none⟩ = false := box_frozen iB
      have yb3 : wr.cell? ⟨w.heap.size, 3, none⟩ = some (.slice a3 k c3) := box_cell iA rfl
      have yf3 : wr.frozen? ⟨w.heap.size, 3, none⟩ = false := box_frozen iA
      have yr3 : wr.cell? ⟨w.heap.size + 1, 3, none⟩ = some (.slice none 0 0) := box_cell iB rfl
      have yg3 : wr.frozen? ⟨w.heap.size + 1, 3, none⟩ = false := box_frozen iB
      have yb4 : wr.cell? ⟨w.heap.size, 4, none⟩ = some (.slice a4 n4 c4) := box_cell iA rfl
      have yf4 : wr.frozen? ⟨w.heap.size, 4, none⟩ = false := box_frozen iA
      have yr4 : wr.cell? ⟨w.heap.size + 1, 4, none⟩ = some (.slice none 0 0) := box_cell iB rfl
      have yg4 : wr.frozen? ⟨w.heap.size + 1, 4, none⟩ = false := box_frozen iB
      have yb5 : wr.cell? ⟨w.heap.size, 5, none⟩ = some (.slice a5 n5 c5) := box_cell iA rfl
      have yf5 : wr.frozen? ⟨w.heap.size, 5, none⟩ = false := box_frozen iA
      have yr5 : wr.cell? ⟨w.heap.size + 1, 5, none⟩ = some (.slice none 0 0) := box_cell iB rfl
      have yg5 : wr.frozen? ⟨w.heap.size + 1, 5, none⟩ = false := box_frozen iB
      have yz0 : ((wr.setCell ⟨w.heap.size, 3, none⟩ (.slice va m vc)).setCell ⟨w.heap.size + 1, 0, none⟩ (.int .i64 x0)).cell? ⟨w.heap.size + 1, 0, none⟩ = some (.int .i64 x0) := World.cell?_setCell_same _ _ _ (by rw [World.cell?_setCell_other _ _ _ _ (by simp)]; exact yr0)
      have yz1 : (((wr.setCell ⟨w.heap.size, 3, none⟩ (.slice va m vc)).setCell ⟨w.heap.size + 1, 0, none⟩ (.int .i64 x0)).setCell ⟨w.heap.size + 1, 1, none⟩ (.int .i64 x1)).cell? ⟨w.heap.size + 1, 1, none⟩ = some (.int .i64 x1) := World.cell?_setCell_same _ _ _ (by rw [World.cell?_setCell_other _ _ _ _ (by simp), World.cell?_setCell_other _ _ _ _ (by simp)]; exact yr1)
      have yz2 : ((((wr.setCell ⟨w.heap.size, 3, none⟩ (.slice va m vc)).setCell ⟨w.heap.size + 1, 0, none⟩ (.int .i64 x0)).setCell ⟨w.heap.size + 1, 1, none⟩ (.int .i64 x1)).setCell ⟨w.heap.size + 1, 2, none⟩ (.int .i64 x2)).cell? ⟨w.heap.size + 1, 2, none⟩ = some (.int .i64 x2) := World.cell?_setCell_same _ _ _ (by rw [World.cell?_setCell_other _ _ _ _ (by simp), World.cell?_setCell_other _ _ _ _ (by simp), World.cell?_setCell_other _ _ _ _ (by simp)]; exact yr2)
      have yz3 : (((((wr.setCell ⟨w.heap.size, 3, none⟩ (.slice va m vc)).setCell ⟨w.heap.size + 1, 0, none⟩ (.int .i64 x0)).setCell ⟨w.heap.size + 1, 1, none⟩ (.int .i64 x1)).setCell ⟨w.heap.size + 1, 2, none⟩ (.int .i64 x2)).setCell ⟨w.heap.size + 1, 3, none⟩ (.slice va m vc)).cell? ⟨w.heap.size + 1, 3, none⟩ = some (.slice va m vc) := World.cell?_setCell_same _ _ _ (by rw [World.cell?_setCell_other _ _ _ _ (by simp), World.cell?_setCell_other _ _ _ _ (by simp), World.cell?_setCell_other _ _ _ _ (by simp), World.cell?_setCell_other _ _ _ _ (by simp)]; exact yr3)
      have yz4 : ((((((wr.setCell ⟨w.heap.size, 3, none⟩ (.slice va m vc)).setCell ⟨w.heap.size + 1, 0, none⟩ (.int .i64 x0)).setCell ⟨w.heap.size + 1, 1, none⟩ (.int .i64 x1)).setCell ⟨w.heap.size + 1, 2, none⟩ (.int .i64 x2)).setCell ⟨w.heap.size + 1, 3, none⟩ (.slice va m vc)).setCell ⟨w.heap.size + 1, 4, none⟩ (.slice a4 n4 c4)).cell? ⟨w.heap.size + 1, 4, none⟩ = some (.slice a4 n4 c4) := World.cell?_setCell_same _ _ _ (by rw [World.cell?_setCell_other _ _ _ _ (by simp), World.cell?_setCell_other _ _ _ _ (by simp), World.cell?_setCell_other _ _ _ _ (by simp), World.cell?_setCell_other _ _ _ _ (by simp), World.cell?_setCell_other _ _ _ _ (by simp)]; exact yr4)
      have yz5 : (((((((wr.setCell ⟨w.heap.size, 3, none⟩ (.slice va m vc)).setCell ⟨w.heap.size + 1, 0, none⟩ (.int .i64 x0)).setCell ⟨w.heap.size + 1, 1, none⟩ (.int .i64 x1)).setCell ⟨w.heap.size + 1, 2, none⟩ (.int .i64 x2)).setCell ⟨w.heap.size + 1, 3, none⟩ (.slice va m vc)).setCell ⟨w.heap.size + 1, 4, none⟩ (.slice a4 n4 c4)).setCell ⟨w.heap.size + 1, 5, none⟩ (.slice a5 n5 c5)).cell? ⟨w.heap.size + 1, 5, none⟩ = some (.slice a5 n5 c5) := World.cell?_setCell_same _ _ _ (by rw [World.cell?_setCell_other _ _ _ _ (by simp), World.cell?_setCell_other _ _ _ _ (by simp), World.cell?_setCell_other _ _ _ _ (by simp), World.cell?_setCell_other _ _ _ _ (by simp), World.cell?_setCell_other _ _ _ _ (by simp), World.cell?_setCell_other _ _ _ _ (by simp)]; exact yr5)
      have HF : Hid (_ ∧ _) := ⟨own_lower (own_other (own_other (own_other (own_other (own_other (own_other (own_other hown w.heap.size 3 (.slice va m vc) (by omega)) (w.heap.size + 1) 0 (.int .i64 x0) (by omega)) (w.heap.size + 1) 1 (.int .i64 x1) (by omega)) (w.heap.size + 1) 2 (.int .i64 x2) (by omega)) (w.heap.size + 1) 3 (.slice va m vc) (by omega)) (w.heap.size + 1) 4 (.slice a4 n4 c4) (by omega)) (w.heap.size + 1) 5 (.slice a5 n5 c5) (by omega)) (B' := w.heap.size) (by omega), (((((((hbel.setCell (p := ⟨w.heap.size, 3, none⟩) (by simp) (.slice va m vc)).setCell (p := ⟨w.heap.size + 1, 0, none⟩) (by simp <;> omega) (.int .i64 x0)).setCell (p := ⟨w.heap.size + 1, 1, none⟩) (by simp <;> omega) (.int .i64 x1)).setCell (p := ⟨w.heap.size + 1, 2, none⟩) (by simp <;> omega) (.int .i64 x2)).setCell (p := ⟨w.heap.size + 1, 3, none⟩) (by simp <;> omega) (.slice va m vc)).setCell (p := ⟨w.heap.size + 1, 4, none⟩) (by simp <;> omega) (.slice a4 n4 c4)).setCell (p := ⟨w.heap.size + 1, 5, none⟩) (by simp <;> omega) (.slice a5 n5 c5))⟩
      clear hown iA iB
      go_wp2
      (try simp only [Exit.inBlock, Exit.then])
      refine bodyPost_ret (by simp [results, Tryz.results34, go_sem, yz0, yz1, yz2, yz3, yz4, yz5]; try rfl) rfl ?_
      exact ⟨va, vc, by rw [← HM.out], by rw [← HM.out]; exact HF.out.1, HF.out.2⟩

end Go.Proofs.YtkaegbhmeonjfaaGreat
