/-
  DiskCrash of the model (neg). By program (crashsgen.py).
-/
import Derived.Test.YtkaegbhmeonjfaaGreatJ18FnExactDiskCrash
import Derived.Deep.RegionHeld3
namespace Go.Proofs.YtkaegbhmeonjfaaGreat
open Go.RowKit
set_option linter.unusedVariables false
set_option maxRecDepth 100000
set_option linter.unusedSimpArgs false

set_option maxRecDepth 100000 in
set_option maxHeartbeats 16000000 in
theorem specCrash_neg (cs : List Value) (d : shDisk.D) (tn : Int) (a6 : Option Addr) (n6 c6 : Nat) (cuts : List Int) (B : Nat) (G : List Nat) (w : World) (hcu : Reads (.sl .int) w [.slice a6 n6 c6] cuts) (hcn : n6 ≤ 1048576) (hwf : ∀ i : Nat, -9223372036854775808 ≤ cuts[i]?.getD 0 ∧ cuts[i]?.getD 0 ≤ 9223372036854775807) (ht1 : -9223372036854775808 ≤ tn) (ht2 : tn ≤ 9223372036854775807) (ho : Own shDisk w B cs d G) (hs : shDisk.sz d ≤ 1048576) (hok : implOkB d = true) (hcase : tn < 0 ∧ 0 ≤ List.length (α := TurnD) d.2.2.2.2.2.1) :
    Calls Tryz.prog 7 #[.agg cs.toArray, .int .i64 tn, .slice a6 n6 c6] w fun e w' => ∃ cs', e = .returned (.tuple #[.agg cs'.toArray, .bool true]) ∧ Reads shDisk w' cs' (crashD d tn cuts) ∧ Below w.heap.size w w' := by
  obtain ⟨i0, hi, hz0, hz1, hz2⟩ := info_parts Tryz.infoB
  have hp : specOkP d := (ok_same d).2 hok
  obtain ⟨a3, n3, c3, F3, a4, n4, c4, F4, a5, n5, c5, F5, rfl, _, o3, o4, o5⟩ := openO_Disk ho
  obtain ⟨x0, e0⟩ : ∃ x : Int, x = d.1 := ⟨_, rfl⟩
  obtain ⟨x1, e1⟩ : ∃ x : Int, x = d.2.1 := ⟨_, rfl⟩
  obtain ⟨x2, e2⟩ : ∃ x : Int, x = d.2.2.1 := ⟨_, rfl⟩
  obtain ⟨KT, hK⟩ : ∃ z, z = turnsN tn (List.length (α := TurnD) d.2.2.2.2.2.1) := ⟨_, rfl⟩
  have l5 : List.length (α := TurnD) d.2.2.2.2.2.1 = n5 := (reads_len o5.reads).1
  have h4' : List.length (α := LinkD) d.2.2.2.2.1 ≤ 8 := hp.1.2.2.2.2.2.2.2.1
  have h40' : List.length (α := TurnD) d.2.2.2.2.2.1 ≤ 40 := hp.1.2.2.2.2.2.2.2.2
  have hKn : KT ≤ List.length (α := TurnD) d.2.2.2.2.2.1 := by rw [hK]; exact turnsN_le _ _
  rw [l5] at hcase
  have hTV : (KT : Int) = 0 := by
    rw [hK, l5]; unfold turnsN
    split
    · omega
    · split <;> omega
  obtain ⟨DL, hDL⟩ : ∃ l : List LinkD, l = dirL d.2.2.2.2.1 (List.take (α := TurnD) KT d.2.2.2.2.2.1) := ⟨_, rfl⟩
  obtain ⟨nd, hnd⟩ : ∃ l : List NodeD, l = d.2.2.2.1 := ⟨_, rfl⟩
  obtain ⟨hbs, hn8, hnz⟩ := body_sum hp hnd
  have hdz : Sh.sz (.sl shLink) DL ≤ 1000 := by rw [hDL]; exact dirK_sz hp KT
  have hlen : ∀ x ∈ nd, List.length (α := Int) x.2.1 ≤ 1048576 ∧ List.length (α := Int) x.2.2.1 ≤ 1048576 := fun x hx => ⟨node_len hs hnd hx, node_len2 hs hnd hx⟩
  have qok : Hid (∀ w', Below w.heap.size w w' → Calls Tryz.prog 31 #[.agg #[.int .i64 x0, .int .i64 x1, .int .i64 x2, .slice a3 n3 c3, .slice a4 n4 c4, .slice a5 n5 c5]] w' fun e w'' => e = .returned (.bool true) ∧ Below w'.heap.size w' w'') := fun w' h' => by
    rw [e0, e1, e2, ← hok]; exact specOkR_ok _ d w' (ho.reads.later h') hs
  have qcp : Hid (∀ w', Below w.heap.size w w' → Calls Tryz.prog 32 #[.agg #[.int .i64 x0, .int .i64 x1, .int .i64 x2, .slice a3 n3 c3, .slice a4 n4 c4, .slice a5 n5 c5]] w' fun e w'' => ∃ b3 m3 e3 b4 m4 e4 b5 m5 e5 F, e = .returned (.agg #[.int .i64 x0, .int .i64 x1, .int .i64 x2, .slice b3 m3 e3, .slice b4 m4 e4, .slice b5 m5 e5]) ∧ Own (.sl shNode) w'' w'.heap.size [.slice b3 m3 e3] nd F ∧ Below w'.heap.size w' w'') := fun w' h' => by
    rw [e0, e1, e2, hnd]
    refine (specCopy_ok _ d B G w' (ho.later h') hs).mono ?_
    rintro e w'' ⟨cs', F, rfl, ho', _, hb⟩
    obtain ⟨b3, m3, e3, G3, b4, m4, e4, G4, b5, m5, e5, G5, rfl, _, p3, p4, p5⟩ := openO_Disk ho'
    exact ⟨b3, m3, e3, b4, m4, e4, b5, m5, e5, G3, rfl, p3, hb⟩
  have qdir : Hid (∀ w', Below w.heap.size w w' → Calls Tryz.prog 33 #[.agg #[.int .i64 x0, .int .i64 x1, .int .i64 x2, .slice a3 n3 c3, .slice a4 n4 c4, .slice a5 n5 c5], .int .i64 (0)] w' fun e w'' => ∃ ka kn kc FK, e = .returned (.slice ka kn kc) ∧ Own (.sl shLink) w'' w'.heap.size [.slice ka kn kc] DL FK ∧ Below w'.heap.size w' w'') := fun w' h' => by
    rw [e0, e1, e2, hDL, ← hTV]
    refine (specDirTo_ok _ d KT B G w' (ho.later h') hs hKn (by omega)).mono ?_
    rintro e w'' ⟨v, F, rfl, po, _, hb⟩
    obtain ⟨a, c, rfl, _⟩ := own_val po
    exact ⟨a, _, c, F, rfl, po, hb⟩
  have qon : Hid (∀ w' b3 m3 e3 ka kn kc P, P.map Prod.snd = nd → RowP w' b3 P → Reads (.sl shNode) w' [.slice b3 m3 e3] nd → Reads (.sl shLink) w' [.slice ka kn kc] DL → Calls Tryz.prog 34 #[.agg #[.int .i64 x0, .int .i64 (-1), .int .i64 x2, .slice b3 m3 e3, .slice ka kn kc, .slice none 0 0]] w' fun e w'' => ∃ va vc, e = .returned (.agg #[.int .i64 x0, .int .i64 (-1), .int .i64 x2, .slice va (keepP DL P).length vc, .slice ka kn kc, .slice none 0 0]) ∧ w''.ownsRow w'.heap.size 70 3 (.slice va (keepP DL P).length vc) (keepP DL P).length (keepC DL P) ∧ Below w'.heap.size w' w'') := fun w' b3 m3 e3 ka kn kc P hPs hPr hrn hrk => by
    have hl1 : nd.length = m3 := (reads_len hrn).1
    have hl2 : P.length = m3 := by rw [← hl1, ← hPs, List.length_map]
    have hdd : Reads shDisk w' [.int .i64 x0, .int .i64 (-1), .int .i64 x2, .slice b3 m3 e3, .slice ka kn kc, .slice none 0 0] ((x0, (-1 : Int), x2, nd, DL, ([] : List TurnD), ()) : shDisk.D) := reads_Disk (d := ((x0, (-1 : Int), x2, nd, DL, ([] : List TurnD), ()) : shDisk.D)) hrn hrk ⟨none, 0, rfl, Nat.le_refl _, Nat.zero_le _, .inl rfl⟩
    have hsz : shDisk.sz ((x0, (-1 : Int), x2, nd, DL, ([] : List TurnD), ()) : shDisk.D) ≤ 1048576 := by
      refine Nat.le_trans (Nat.le_of_eq (sz_Disk _)) ?_
      have h0 : Sh.sz (.sl shTurn) ([] : List TurnD) = 0 := rfl
      show Sh.sz (.sl shNode) nd + Sh.sz (.sl shLink) DL + Sh.sz (.sl shTurn) ([] : List TurnD) ≤ _
      omega
    have hI : idsL DL ([] : List TurnD) = idsK DL := by simp [idsL, idsK]
    exact specOnly_ok x0 (-1) x2 b3 m3 e3 ka kn kc none 0 0 ((x0, (-1 : Int), x2, nd, DL, ([] : List TurnD), ()) : shDisk.D) DL P w' hl2 (by omega) hPr hdd hsz hI
  have HCD : Hid (∀ v vk w' (Q : List (List Value × NodeD)), Q.map Prod.snd = keepN DL nd → Reads (.sl shNode) w' [v] (crashFrom cuts 0 (Q.map Prod.snd)) → Reads (.sl shLink) w' [vk] DL → Reads shDisk w' [.int .i64 x0, .int .i64 (-1), .int .i64 x2, v, vk, .slice none 0 0] (crashD d tn cuts)) := fun v vk w' Q hQ h3 h4 => by
    rw [e0, e2]
    rw [hQ, hDL, hK, hnd] at h3
    rw [hDL, hK] at h4
    exact reads_Disk (d := crashD d tn cuts) h3 h4 ⟨none, 0, rfl, Nat.le_refl _, Nat.zero_le _, .inl rfl⟩
  have HN8 : Hid (nd.length ≤ 8) := hn8
  have HLN : Hid (∀ x ∈ nd, List.length (α := Int) x.2.1 ≤ 1048576 ∧ List.length (α := Int) x.2.2.1 ≤ 1048576) := hlen
  have HCU : Hid (Reads (.sl .int) w [.slice a6 n6 c6] cuts) := hcu
  have HWF : Hid (∀ i : Nat, -9223372036854775808 ≤ cuts[i]?.getD 0 ∧ cuts[i]?.getD 0 ≤ 9223372036854775807) := hwf
  have h5n : n5 ≤ 40 := by omega
  have hq1 : tn < 0 := hcase.1
  have hq2 : ¬ ((n5 : Int) < 0) := by omega
  rw [← e0, ← e1, ← e2]
  obtain ⟨W0, hW0⟩ : ∃ W0, W0 = (w.alloc (.cells #[.int .i64 x0, .int .i64 x1, .int .i64 x2, .slice a3 n3 c3, .slice a4 n4 c4, .slice a5 n5 c5] 33)).alloc (.cells #[.int .i64 0, .int .i64 0, .int .i64 0, .slice none 0 0, .slice none 0 0, .slice none 0 0] 33) := ⟨_, rfl⟩
  have bW0 : Below w.heap.size w W0 := by rw [hW0]; exact ((Below.refl _ _).alloc (Nat.le_refl _) _).alloc (by simp) _
  have hA : W0.heap[w.heap.size]? = some (.cells #[.int .i64 x0, .int .i64 x1, .int .i64 x2, .slice a3 n3 c3, .slice a4 n4 c4, .slice a5 n5 c5] 33 (0, 0)) := by rw [hW0, heap_alloc_old _ _ (by simp)]; exact heap_alloc_new w _
  have hB : W0.heap[w.heap.size + 1]? = some (.cells #[.int .i64 0, .int .i64 0, .int .i64 0, .slice none 0 0, .slice none 0 0, .slice none 0 0] 33 (0, 0)) := by rw [hW0]; have := heap_alloc_new (w.alloc (.cells #[.int .i64 x0, .int .i64 x1, .int .i64 x2, .slice a3 n3 c3, .slice a4 n4 c4, .slice a5 n5 c5] 33)) (.cells #[.int .i64 0, .int .i64 0, .int .i64 0, .slice none 0 0, .slice none 0 0, .slice none 0 0] 33); simpa using this
  have zW0 : W0.heap.size = w.heap.size + 1 + 1 := by rw [hW0]; simp
  have HW0 : Hid (W0 = _) := hW0
  have BX : Hid (∀ w', Below W0.heap.size W0 w' → w'.heap[w.heap.size]? = some (.cells #[.int .i64 x0, .int .i64 x1, .int .i64 x2, .slice a3 n3 c3, .slice a4 n4 c4, .slice a5 n5 c5] 33 (0, 0)) ∧ w'.heap[w.heap.size + 1]? = some (.cells #[.int .i64 0, .int .i64 0, .int .i64 0, .slice none 0 0, .slice none 0 0, .slice none 0 0] 33 (0, 0))) := fun w' h' => ⟨(h'.block _ (by omega)).trans hA, (h'.block _ (by omega)).trans hB⟩
  clear ho hs o3 o4 o5 e0 e1 e2 hok hp hW0 hA hB hDL hnd hbs hn8 hnz hdz hlen hcu hwf hK hTV hKn l5 h4' h40'
  go_enter Tryz.func7, Tryz.ntmps7
  go_wp2_with fail
  rw [← HW0.out]
  refine (qok.out _ bW0).mono ?_
  rintro e w1 ⟨rfl, hb1⟩
  have b1 := bW0.trans (hb1.mono bW0.size)
  have d1 : Below W0.heap.size W0 w1 := hb1
  have i1 := (BX.out w1 d1).1
  have q0 : w1.cell? ⟨w.heap.size, 0, none⟩ = some (.int .i64 x0) := box_cell i1 rfl
  have q1 : w1.cell? ⟨w.heap.size, 1, none⟩ = some (.int .i64 x1) := box_cell i1 rfl
  have q2 : w1.cell? ⟨w.heap.size, 2, none⟩ = some (.int .i64 x2) := box_cell i1 rfl
  have q3 : w1.cell? ⟨w.heap.size, 3, none⟩ = some (.slice a3 n3 c3) := box_cell i1 rfl
  have q4 : w1.cell? ⟨w.heap.size, 4, none⟩ = some (.slice a4 n4 c4) := box_cell i1 rfl
  have q5 : w1.cell? ⟨w.heap.size, 5, none⟩ = some (.slice a5 n5 c5) := box_cell i1 rfl
  clear hb1 i1
  go_wp2_with fail
  refine (qcp.out _ b1).mono ?_
  rintro e w2 ⟨b3, m3, e3, b4, m4, e4, b5, m5, e5, FC, rfl, oC, hb2⟩
  have b2 := b1.trans (hb2.mono b1.size)
  have d2 := d1.trans (hb2.mono d1.size)
  have OC : Hid (Own (.sl shNode) w2 w1.heap.size [.slice b3 m3 e3] nd FC) := oC
  obtain ⟨w3, hw3⟩ : ∃ w3, w3 = w2.alloc (.cells #[.int .i64 x0, .int .i64 x1, .int .i64 x2, .slice b3 m3 e3, .slice b4 m4 e4, .slice b5 m5 e5] 33) := ⟨_, rfl⟩
  have b23 : Below w2.heap.size w2 w3 := by rw [hw3]; exact (Below.refl _ _).alloc (Nat.le_refl _) _
  have i3 : w3.heap[w2.heap.size]? = some (.cells #[.int .i64 x0, .int .i64 x1, .int .i64 x2, .slice b3 m3 e3, .slice b4 m4 e4, .slice b5 m5 e5] 33 (0, 0)) := by rw [hw3]; exact heap_alloc_new w2 _
  have Z3 : Hid (w3.heap.size = w2.heap.size + 1) := by show _ = _; rw [hw3]; simp
  have HW3 : Hid (w3 = _) := hw3
  have HI3 : Hid _ := i3
  have d3 := d2.trans (b23.mono d2.size)
  have b3' := bW0.trans (d3.mono bW0.size)
  have i9 := (BX.out w2 d2).1
  have zl2 : w.heap.size < w2.heap.size := by have := d2.size; omega
  have s0 : w2.cell? ⟨w.heap.size, 0, none⟩ = some (.int .i64 x0) := box_cell i9 rfl
  have s1 : w2.cell? ⟨w.heap.size, 1, none⟩ = some (.int .i64 x1) := box_cell i9 rfl
  have s2 : w2.cell? ⟨w.heap.size, 2, none⟩ = some (.int .i64 x2) := box_cell i9 rfl
  have s3 : w2.cell? ⟨w.heap.size, 3, none⟩ = some (.slice a3 n3 c3) := box_cell i9 rfl
  have s4 : w2.cell? ⟨w.heap.size, 4, none⟩ = some (.slice a4 n4 c4) := box_cell i9 rfl
  have s5 : w2.cell? ⟨w.heap.size, 5, none⟩ = some (.slice a5 n5 c5) := box_cell i9 rfl
  clear hw3 i3 oC hb2 i9 q0 q1 q2 q3 q4 q5
  go_wp2_with fail
  rw [← HW3.out]
  refine (qdir.out _ b3').mono ?_
  rintro e w4 ⟨ka, kn, kc, FK, rfl, oK, hb4⟩
  have z3 := Z3.out
  have b24 := b23.trans (hb4.mono b23.size)
  have d4 := d3.trans (hb4.mono d3.size)
  have z4 := hb4.size
  have i4 : w4.heap[w2.heap.size]? = some (.cells #[.int .i64 x0, .int .i64 x1, .int .i64 x2, .slice b3 m3 e3, .slice b4 m4 e4, .slice b5 m5 e5] 33 (0, 0)) := (hb4.block _ (by omega)).trans HI3.out
  have t0 : w4.cell? ⟨w2.heap.size, 0, none⟩ = some (.int .i64 x0) := box_cell i4 rfl
  have u0 : w4.frozen? ⟨w2.heap.size, 0, none⟩ = false := box_frozen i4
  have t1 : w4.cell? ⟨w2.heap.size, 1, none⟩ = some (.int .i64 x1) := box_cell i4 rfl
  have u1 : w4.frozen? ⟨w2.heap.size, 1, none⟩ = false := box_frozen i4
  have t2 : w4.cell? ⟨w2.heap.size, 2, none⟩ = some (.int .i64 x2) := box_cell i4 rfl
  have u2 : w4.frozen? ⟨w2.heap.size, 2, none⟩ = false := box_frozen i4
  have t3 : w4.cell? ⟨w2.heap.size, 3, none⟩ = some (.slice b3 m3 e3) := box_cell i4 rfl
  have u3 : w4.frozen? ⟨w2.heap.size, 3, none⟩ = false := box_frozen i4
  have t4 : w4.cell? ⟨w2.heap.size, 4, none⟩ = some (.slice b4 m4 e4) := box_cell i4 rfl
  have u4 : w4.frozen? ⟨w2.heap.size, 4, none⟩ = false := box_frozen i4
  have t5 : w4.cell? ⟨w2.heap.size, 5, none⟩ = some (.slice b5 m5 e5) := box_cell i4 rfl
  have u5 : w4.frozen? ⟨w2.heap.size, 5, none⟩ = false := box_frozen i4
  obtain ⟨w5, hw5⟩ : ∃ w5, w5 = ((w4.setCell ⟨w2.heap.size, 4, none⟩ (.slice ka kn kc)).setCell ⟨w2.heap.size, 5, none⟩ (.slice none 0 0)).setCell ⟨w2.heap.size, 1, none⟩ (.int .i64 (-1)) := ⟨_, rfl⟩
  have i5 : w5.heap[w2.heap.size]? = some (.cells #[.int .i64 x0, .int .i64 (-1), .int .i64 x2, .slice b3 m3 e3, .slice ka kn kc, .slice none 0 0] 33 (0, 0)) := by rw [hw5]; exact box_set _ (box_set _ (box_set _ i4))
  have z5 : w5.heap.size = w4.heap.size := by rw [hw5]; simp
  have b25 : Below w2.heap.size w2 w5 := by rw [hw5]; exact ((b24.setCell (by simp) _).setCell (by simp) _).setCell (by simp) _
  have K5 : Own (.sl shLink) w5 w3.heap.size [.slice ka kn kc] DL FK := by rw [hw5]; exact oK.keep fun y hy => by have h1 := (oK.lt y hy).1; exact ((box_other _ (by omega)).trans ((box_other _ (by omega)).trans (box_other _ (by omega))))
  have HFK : Hid (∀ y ∈ FK, w3.heap.size ≤ y ∧ y < w4.heap.size) := oK.lt
  have d5 := d2.trans (b25.mono d2.size)
  obtain ⟨P, hPs, hPr, hPo⟩ := rowP_own OC.out
  have qn : Hid (Calls Tryz.prog 34 #[.agg #[.int .i64 x0, .int .i64 (-1), .int .i64 x2, .slice b3 m3 e3, .slice ka kn kc, .slice none 0 0]] w5 fun e w'' => ∃ va vc, e = .returned (.agg #[.int .i64 x0, .int .i64 (-1), .int .i64 x2, .slice va (keepP DL P).length vc, .slice ka kn kc, .slice none 0 0]) ∧ w''.ownsRow w5.heap.size 70 3 (.slice va (keepP DL P).length vc) (keepP DL P).length (keepC DL P) ∧ Below w5.heap.size w5 w'') := by
    refine qon.out w5 b3 m3 e3 ka kn kc P hPs (fun k hk' => ?_) (OC.out.later b25).reads K5.reads
    obtain ⟨b, off, p1, m1, k1, p2, m2, k2, ha, hb, hc, c0, c1, c2⟩ := hPr k hk'
    exact ⟨b, off, p1, m1, k1, p2, m2, k2, ha, Nat.lt_of_lt_of_le hb b25.size, hc, (b25.cell hb).trans c0, (b25.cell hb).trans c1, (b25.cell hb).trans c2⟩
  obtain ⟨Q, hQ⟩ : ∃ Q, Q = keepP DL P := ⟨_, rfl⟩
  obtain ⟨M, hM⟩ : ∃ M, M = (keepP DL P).length := ⟨_, rfl⟩
  have hQC : keepC DL P = (Q.map Prod.fst).flatten := by rw [hQ]; rfl
  rw [← hM, hQC] at qn
  have HQ : Hid (Q.length = M ∧ Q.map Prod.snd = keepN DL nd ∧ ∀ p ∈ Q, (∃ f, Own shNode w2 w1.heap.size p.1 p.2 f) ∧ List.length (α := Int) p.2.2.1 ≤ 1048576 ∧ List.length (α := Int) p.2.2.2.1 ≤ 1048576) := by
    refine ⟨by rw [hQ, hM], by rw [hQ, keepP_snd, hPs], fun p hp => ?_⟩
    rw [hQ] at hp
    have hpP : p ∈ P := (List.mem_filter.1 hp).1
    exact ⟨hPo p hpP, HLN.out p.2 (by rw [← hPs]; exact List.mem_map.2 ⟨p, hpP, rfl⟩)⟩
  have hM8 : M ≤ 8 := by
    have h1 := keepP_len DL P
    have h2 : P.length = nd.length := by rw [← hPs, List.length_map]
    have := HN8.out
    omega
  have HDS : Hid ((crashFrom cuts 0 (Q.map Prod.snd)).length = M) := by show _ = _; rw [crash_len, List.length_map]; exact HQ.out.1
  have HW5 : Hid (w5 = _) := hw5
  have HI5 : Hid _ := i5
  have HK5 : Hid (Own (.sl shLink) w5 w3.heap.size [.slice ka kn kc] DL FK) := K5
  clear hw5 i5 K5 oK hPs hPr hPo hQ hM hQC i4 s0 s1 s2 s3 s4 s5 hb4
  go_wp2_with fail
  rw [← HW5.out]
  refine qn.out.mono ?_
  rintro e w6 ⟨va, vc, rfl, ho6, hb6⟩
  have z6 := hb6.size
  have i6 : w6.heap[w2.heap.size]? = some (.cells #[.int .i64 x0, .int .i64 (-1), .int .i64 x2, .slice b3 m3 e3, .slice ka kn kc, .slice none 0 0] 33 (0, 0)) := (hb6.block _ (by omega)).trans HI5.out
  have d6 := d5.trans (hb6.mono d5.size)
  have v0 : w6.cell? ⟨w2.heap.size, 0, none⟩ = some (.int .i64 x0) := box_cell i6 rfl
  have r0 : w6.frozen? ⟨w2.heap.size, 0, none⟩ = false := box_frozen i6
  have v1 : w6.cell? ⟨w2.heap.size, 1, none⟩ = some (.int .i64 (-1)) := box_cell i6 rfl
  have r1 : w6.frozen? ⟨w2.heap.size, 1, none⟩ = false := box_frozen i6
  have v2 : w6.cell? ⟨w2.heap.size, 2, none⟩ = some (.int .i64 x2) := box_cell i6 rfl
  have r2 : w6.frozen? ⟨w2.heap.size, 2, none⟩ = false := box_frozen i6
  have v3 : w6.cell? ⟨w2.heap.size, 3, none⟩ = some (.slice b3 m3 e3) := box_cell i6 rfl
  have r3 : w6.frozen? ⟨w2.heap.size, 3, none⟩ = false := box_frozen i6
  have v4 : w6.cell? ⟨w2.heap.size, 4, none⟩ = some (.slice ka kn kc) := box_cell i6 rfl
  have r4 : w6.frozen? ⟨w2.heap.size, 4, none⟩ = false := box_frozen i6
  have v5 : w6.cell? ⟨w2.heap.size, 5, none⟩ = some (.slice none 0 0) := box_cell i6 rfl
  have r5 : w6.frozen? ⟨w2.heap.size, 5, none⟩ = false := box_frozen i6
  obtain ⟨w7, hw7⟩ : ∃ w7, w7 = ((((((w6).setCell ⟨w2.heap.size, 0, none⟩ (.int .i64 x0)).setCell ⟨w2.heap.size, 1, none⟩ (.int .i64 (-1))).setCell ⟨w2.heap.size, 2, none⟩ (.int .i64 x2)).setCell ⟨w2.heap.size, 3, none⟩ (.slice va M vc)).setCell ⟨w2.heap.size, 4, none⟩ (.slice ka kn kc)).setCell ⟨w2.heap.size, 5, none⟩ (.slice none 0 0) := ⟨_, rfl⟩
  have i7 : w7.heap[w2.heap.size]? = some (.cells #[.int .i64 x0, .int .i64 (-1), .int .i64 x2, .slice va M vc, .slice ka kn kc, .slice none 0 0] 33 (0, 0)) := by rw [hw7]; exact box_set _ (box_set _ (box_set _ (box_set _ (box_set _ (box_set _ i6)))))
  have z7 : w7.heap.size = w6.heap.size := by rw [hw7]; simp
  have b27 : Below w2.heap.size w2 w7 := by rw [hw7]; exact (((((((b25.trans (hb6.mono b25.size)).setCell (p := ⟨w2.heap.size, 0, none⟩) (by simp) _).setCell (p := ⟨w2.heap.size, 1, none⟩) (by simp) _).setCell (p := ⟨w2.heap.size, 2, none⟩) (by simp) _).setCell (p := ⟨w2.heap.size, 3, none⟩) (by simp) _).setCell (p := ⟨w2.heap.size, 4, none⟩) (by simp) _).setCell (p := ⟨w2.heap.size, 5, none⟩) (by simp) _)
  have K7 : Own (.sl shLink) w7 w3.heap.size [.slice ka kn kc] DL FK := by rw [hw7]; exact (HK5.out.later hb6).keep fun y hy => by have h1 := (HFK.out y hy).1; have z3 := Z3.out; exact ((box_other _ (by omega)).trans ((box_other _ (by omega)).trans ((box_other _ (by omega)).trans ((box_other _ (by omega)).trans ((box_other _ (by omega)).trans (box_other _ (by omega)))))))
  have o7 : w7.ownsRow w5.heap.size 70 3 (.slice va M vc) M (Q.map Prod.fst).flatten := by rw [hw7]; exact own_keepB ho6 fun y hy => by have h1 := (ho6.lt y hy).1; exact ((box_other _ (by omega)).trans ((box_other _ (by omega)).trans ((box_other _ (by omega)).trans ((box_other _ (by omega)).trans ((box_other _ (by omega)).trans (box_other _ (by omega)))))))
  have HRB : Hid (∀ y, (Value.slice va M vc).ownBlock = some y → w5.heap.size ≤ y ∧ y < w6.heap.size) := ho6.lt
  have d7 := d2.trans (b27.mono d2.size)
  have b7 := bW0.trans (d7.mono bW0.size)
  have hr7 := (BX.out w7 d7).2
  have hlen3 : ∀ x ∈ Q.map Prod.fst, x.length = 3 := fun x hx => by
    obtain ⟨p, hp, rfl⟩ := List.mem_map.1 hx
    obtain ⟨f, hf⟩ := (HQ.out.2.2 p hp).1
    exact hf.length
  have A7 : Anew w7 w5.heap.size (.slice va M vc) M 0 (Q.map Prod.fst) (Q.map Prod.fst) (crashFrom cuts 0 (Q.map Prod.snd)) [] := Anew.start o7 hlen3 (by rw [List.length_map]; exact HQ.out.1) HDS.out
  have c73 : w7.cell? ⟨w2.heap.size, 3, none⟩ = some (.slice va M vc) := box_cell i7 rfl
  have HW7 : Hid (w7 = _) := hw7
  have HR7 : Hid (_ ∧ _ ∧ _ ∧ _) := ⟨A7, hr7, i7, K7⟩
  have HB27 : Hid (Below w2.heap.size w2 w7) := b27
  clear hw7 i7 A7 hr7 K7 o7 hlen3 ho6 hb6 i6 qn
  go_wp2
  rw [← HW7.out]
  go_loopw [40] (fun i wr => ∃ (k : Nat) (Cs : List (List Value)) (Fs : List (List Nat)), k ≤ M ∧ i = .int .i64 k ∧ Anew wr w5.heap.size (.slice va M vc) M k Cs (Q.map Prod.fst) (crashFrom cuts 0 (Q.map Prod.snd)) Fs ∧ wr.heap[w.heap.size + 1]? = some (.cells #[.int .i64 0, .int .i64 0, .int .i64 0, .slice none 0 0, .slice none 0 0, .slice none 0 0] 33 (0, 0)) ∧ wr.heap[w2.heap.size]? = some (.cells #[.int .i64 x0, .int .i64 (-1), .int .i64 x2, .slice va M vc, .slice ka kn kc, .slice none 0 0] 33 (0, 0)) ∧ Own (.sl shLink) wr w3.heap.size [.slice ka kn kc] DL FK ∧ w6.heap.size ≤ wr.heap.size ∧ Below w2.heap.size w2 wr ∧ Below w.heap.size w wr) (fun i _ => M - (intOf i).toNat)
  case atStart => exact ⟨0, _, [], Nat.zero_le _, rfl, HR7.out.1, HR7.out.2.1, HR7.out.2.2.1, HR7.out.2.2.2, by omega, HB27.out, b7⟩
  case round =>
    obtain ⟨k, Cs, Fs, hkM, rfl, hA, iR, iO, hK, hsz, hb2r, hbel⟩ := hrel
    have hbs := hbel.size
    have z3 := Z3.out
    have zd2 := d2.size
    by_cases hlt : k < M
    · obtain ⟨g, rfl⟩ : ∃ g, va = some ⟨g, 0, none⟩ := by
        rcases hA.row.2 with ⟨h1, h2⟩ | ⟨g, cap, cur, hv, _⟩
        · omega
        · simp only [Value.slice.injEq] at hv
          exact ⟨g, hv.1⟩
      have hg := HRB.out g rfl
      have hkQ : k < Q.length := by rw [HQ.out.1]; exact hlt
      obtain ⟨p, hp⟩ : ∃ p, p = Q[k] := ⟨_, rfl⟩
      have hpm : p ∈ Q := by rw [hp]; exact List.getElem_mem hkQ
      obtain ⟨⟨f0, hof⟩, hzl1, hzl2⟩ := HQ.out.2.2 p hpm
      obtain ⟨p1, m1, k1, F1, p2, m2, k2, F2, hpc, _, ob, os⟩ := openO_Node hof
      have hCk : Cs[k]? = some p.1 := by rw [hA.old k (Nat.le_refl _), List.getElem?_map, List.getElem?_eq_getElem hkQ, ← hp]; rfl
      rw [hpc] at hCk
      obtain ⟨ct, hct⟩ : ∃ z, z = cutAt cuts k := ⟨_, rfl⟩
      obtain ⟨y, hy⟩ : ∃ y, y = p.2.1 := ⟨_, rfl⟩
      obtain ⟨zb, hzb⟩ : ∃ z : List Int, z = p.2.2.1 := ⟨_, rfl⟩
      obtain ⟨zf, hzf⟩ : ∃ z : List Int, z = p.2.2.2.1 := ⟨_, rfl⟩
      obtain ⟨Z, hZ⟩ : ∃ Z, Z = tear zf zb ct := ⟨_, rfl⟩
      rw [← hy] at hCk
      have hm1 : m1 ≤ 1048576 := by rw [← (reads_len ob.reads).1]; exact hzl1
      have hm2 : m2 ≤ 1048576 := by rw [← (reads_len os.reads).1]; exact hzl2
      have hcr : -9223372036854775808 ≤ ct ∧ ct ≤ 9223372036854775807 := by
        rw [hct]; unfold cutAt
        split
        · omega
        · exact HWF.out _
      have OBS : Hid (Own (.sl .u8) w2 w1.heap.size [.slice p1 m1 k1] zb F1 ∧ Own (.sl .u8) w2 w1.heap.size [.slice p2 m2 k2] zf F2) := ⟨by rw [hzb]; exact ob, by rw [hzf]; exact os⟩
      have hZl : Z.length ≤ 2097152 := by
        have h3 := tear_len_le zf zb ct m2 m1 (reads_bytes OBS.out.2.reads).1 (reads_bytes OBS.out.1.reads).1
        rw [hZ]; omega
      have HBY : Hid (∀ i : Nat, 0 ≤ Z[i]?.getD 0 ∧ Z[i]?.getD 0 ≤ 255) := by rw [hZ]; exact tear_byt ct (reads_bytes OBS.out.2.reads).2.1.1 (reads_bytes OBS.out.1.reads).2.1.1
      have HDk : Hid ((crashFrom cuts 0 (Q.map Prod.snd))[k]? = some ((y, Z, Z, ()) : NodeD)) := by
        show _ = _
        rw [crash_at, List.getElem?_map, List.getElem?_eq_getElem hkQ, ← hp, Nat.zero_add, ← hct, hy, hZ, hzf, hzb]
        rfl
      obtain ⟨ZN, hZN⟩ : ∃ z, z = Z.length := ⟨_, rfl⟩
      have hZN2 : ZN ≤ 2097152 := by omega
      have qtear : Hid (∀ w', Below w2.heap.size w2 w' → Calls Tryz.prog 35 #[.slice p2 m2 k2, .slice p1 m1 k1, .int .i64 ct] w' fun e w'' => ∃ va vc F, e = .returned (.slice va ZN vc) ∧ Own (.sl .u8) w'' w'.heap.size [.slice va ZN vc] Z F ∧ F.Nodup ∧ Below w'.heap.size w' w'') := fun w' h' => by
        rw [hZN, hZ]
        refine (specTearV p2 p1 m2 m1 k2 k1 zf zb ct _ _ F2 F1 w' (OBS.out.2.later h') (OBS.out.1.later h') hm2 hm1 hcr.1 hcr.2).mono ?_
        rintro e w'' ⟨va, nv, vc, F, rfl, o, hnd, rfl, hb⟩
        exact ⟨va, vc, F, rfl, o, hnd, hb⟩
      have HZN : Hid (ZN = Z.length) := hZN
      have g0 : wr.cell? ⟨g, k * 3, none⟩ = some (.int .i64 y) := (row_cells hA.row hA.len3 hCk hA.lenC 0 (by decide)).1
      have g1 : wr.cell? ⟨g, k * 3 + 1, none⟩ = some (.slice p1 m1 k1) := (row_cells hA.row hA.len3 hCk hA.lenC 1 (by decide)).1
      have g2 : wr.cell? ⟨g, k * 3 + 2, none⟩ = some (.slice p2 m2 k2) := (row_cells hA.row hA.len3 hCk hA.lenC 2 (by decide)).1
      have HCk : Hid (Cs[k]? = some [.int .i64 y, .slice p1 m1 k1, .slice p2 m2 k2]) := hCk
      have hkn : (k : Int) < (M : Int) := by omega
      obtain ⟨wN, hwN⟩ : ∃ wN, wN = wr.alloc (.cells #[.int .i64 y, .slice p1 m1 k1, .slice p2 m2 k2] 70) := ⟨_, rfl⟩
      have bN : Below wr.heap.size wr wN := by rw [hwN]; exact (Below.refl _ _).alloc (Nat.le_refl _) _
      have hnb : wN.heap[wr.heap.size]? = some (.cells #[.int .i64 y, .slice p1 m1 k1, .slice p2 m2 k2] 70 (0, 0)) := by rw [hwN]; exact heap_alloc_new wr _
      have ZN1 : Hid (wN.heap.size = wr.heap.size + 1) := by show _ = _; rw [hwN]; simp
      have HWN : Hid (wN = _) := hwN
      have BS : Hid (∀ w' : World, w'.heap[w2.heap.size]? = some (.cells #[.int .i64 x0, .int .i64 (-1), .int .i64 x2, .slice (some ⟨g, 0, none⟩) M vc, .slice ka kn kc, .slice none 0 0] 33 (0, 0)) → w'.heap[wr.heap.size]? = some (.cells #[.int .i64 y, .slice p1 m1 k1, .slice p2 m2 k2] 70 (0, 0)) → w'.cell? ⟨w2.heap.size, 3, none⟩ = some (.slice (some ⟨g, 0, none⟩) M vc) ∧ w'.cell? ⟨wr.heap.size, 0, none⟩ = some (.int .i64 y)) := fun w' h1 h2 => ⟨box_cell h1 rfl, box_cell h2 rfl⟩
      have BW : Hid (∀ w', Below wN.heap.size wN w' → w'.heap[w2.heap.size]? = some (.cells #[.int .i64 x0, .int .i64 (-1), .int .i64 x2, .slice (some ⟨g, 0, none⟩) M vc, .slice ka kn kc, .slice none 0 0] 33 (0, 0)) ∧ w'.heap[wr.heap.size]? = some (.cells #[.int .i64 y, .slice p1 m1 k1, .slice p2 m2 k2] 70 (0, 0)) ∧ w'.heap[w.heap.size + 1]? = some (.cells #[.int .i64 0, .int .i64 0, .int .i64 0, .slice none 0 0, .slice none 0 0, .slice none 0 0] 33 (0, 0))) := fun w' h' => by
        have zN := ZN1.out
        exact ⟨(h'.block _ (by omega)).trans ((bN.block _ (by omega)).trans iO), (h'.block _ (by omega)).trans hnb, (h'.block _ (by omega)).trans ((bN.block _ (by omega)).trans iR)⟩
      have HAN : Hid (Anew wr w5.heap.size (.slice (some ⟨g, 0, none⟩) M vc) M k Cs (Q.map Prod.fst) (crashFrom cuts 0 (Q.map Prod.snd)) Fs) := hA
      have HKK : Hid (Own (.sl shLink) wr w3.heap.size [.slice ka kn kc] DL FK) := hK
      have n0 : wN.cell? ⟨wr.heap.size, 0, none⟩ = some (.int .i64 y) := box_cell hnb rfl
      have n1 : wN.cell? ⟨wr.heap.size, 1, none⟩ = some (.slice p1 m1 k1) := box_cell hnb rfl
      have n2 : wN.cell? ⟨wr.heap.size, 2, none⟩ = some (.slice p2 m2 k2) := box_cell hnb rfl
      have b2N := hb2r.trans (bN.mono hb2r.size)
      have HCT : Hid (ct = cutAt cuts k) := hct
      clear hwN hnb hCk hpc hA iR iO hK hy hzb hzf hZ hZN hZl hct hp hpm hof ob os
      obtain ⟨hl6, hrd6, hc6, hc6m⟩ := reads_ints HCU.out
      have HRD : Hid (RdI w a6 cuts ∧ cuts.length = n6) := ⟨hrd6, hl6⟩
      unfold maxLen at hc6m
      clear hl6 hrd6
      by_cases h0 : n6 = 0
      · subst h0
        obtain rfl : ct = 0 := by rw [HCT.out]; unfold cutAt; rw [if_pos HRD.out.2]
        go_wp2_with fail
        rw [← HWN.out]
        refine (qtear.out _ b2N).mono ?_
        rintro e wT ⟨ta, tc, fT, rfl, oT, ndT, hbT⟩
        have dT : Below wN.heap.size wN wT := hbT
        have bDT : Below wN.heap.size wN wT.drew := dT.drew
        have OT : Hid (Own (.sl .u8) wT wN.heap.size [.slice ta ZN tc] Z fT ∧ fT.Nodup) := ⟨oT, ndT⟩
        have zT := dT.size
        clear oT ndT hbT n0 n1 n2 g0 g1 g2
        go_wp2_with fail
        refine wp_region_held_drew (S := fun w' => w'.cell? ⟨w2.heap.size, 3, none⟩ = some (.slice (some ⟨g, 0, none⟩) M vc) ∧ w'.cell? ⟨wr.heap.size, 0, none⟩ = some (.int .i64 y)) (by kernel_rfl) (BS.out _ (BW.out _ bDT).1 (BW.out _ bDT).2.1) (fun hHeld => ?_)
        refine wpAnyH_take (i := 0) (v := .pointer (some ⟨w2.heap.size, 3, none⟩)) rfl (by kernel_rfl) (by kernel_rfl) (by kernel_rfl) (fun _ _ _ h => h) (Or.inl ⟨by kernel_rfl, ?_⟩) (by assumption) ?_
        · intro w9 hSw; (try dsimp only at hSw); go_simp
        simp only [Act.put, List.getElem_toArray, List.getElem_cons_succ, List.getElem_cons_zero, List.setIfInBounds_toArray, List.set_cons_zero, List.set_cons_succ]
        refine wpAnyH_take (i := 1) (v := .slice (some ⟨g, 0, none⟩) M vc) rfl (by kernel_rfl) (by kernel_rfl) (by kernel_rfl) (fun _ _ _ h => h) (Or.inl ⟨by kernel_rfl, ?_⟩) (by assumption) ?_
        · intro w9 hSw; (try dsimp only at hSw); go_simp
        simp only [Act.put, List.getElem_toArray, List.getElem_cons_succ, List.getElem_cons_zero, List.setIfInBounds_toArray, List.set_cons_zero, List.set_cons_succ]
        refine wpAnyH_take (i := 2) (v := .int .i64 (k : Int)) rfl (by kernel_rfl) (by kernel_rfl) (by kernel_rfl) (fun _ _ _ h => h) (Or.inl ⟨by kernel_rfl, ?_⟩) (by assumption) ?_
        · intro w9 hSw; (try dsimp only at hSw); go_simp
        simp only [Act.put, List.getElem_toArray, List.getElem_cons_succ, List.getElem_cons_zero, List.setIfInBounds_toArray, List.set_cons_zero, List.set_cons_succ]
        refine wpAnyH_take (i := 3) (v := .pointer (some ⟨wr.heap.size, 0, none⟩)) rfl (by kernel_rfl) (by kernel_rfl) (by kernel_rfl) (fun _ _ _ h => h) (Or.inl ⟨by kernel_rfl, ?_⟩) (by assumption) ?_
        · intro w9 hSw; (try dsimp only at hSw); go_simp
        simp only [Act.put, List.getElem_toArray, List.getElem_cons_succ, List.getElem_cons_zero, List.setIfInBounds_toArray, List.set_cons_zero, List.set_cons_succ]
        refine wpAnyH_take (i := 4) (v := .int .i64 y) rfl (by kernel_rfl) (by kernel_rfl) (by kernel_rfl) (fun _ _ _ h => h) (Or.inl ⟨by kernel_rfl, ?_⟩) (by assumption) ?_
        · intro w9 hSw; (try dsimp only at hSw); go_simp
        simp only [Act.put, List.getElem_toArray, List.getElem_cons_succ, List.getElem_cons_zero, List.setIfInBounds_toArray, List.set_cons_zero, List.set_cons_succ]
        refine wpAnyH_take (i := 5) (v := .slice ta ZN tc) rfl (by kernel_rfl) (by kernel_rfl) (by kernel_rfl) (fun _ _ _ h => h) (Or.inl ⟨by kernel_rfl, ?_⟩) (by assumption) ?_
        · intro w9 hSw; (try dsimp only at hSw); go_simp
        simp only [Act.put, List.getElem_toArray, List.getElem_cons_succ, List.getElem_cons_zero, List.setIfInBounds_toArray, List.set_cons_zero, List.set_cons_succ]
        refine wpAnyH_take (i := 7) (v := .slice ta ZN tc) rfl (by kernel_rfl) (by kernel_rfl) (by kernel_rfl) (fun _ _ _ h => h) (Or.inl ⟨by kernel_rfl, ?_⟩) (by assumption) ?_
        · intro w9 hSw; (try dsimp only at hSw); go_simp
        simp only [Act.put, List.getElem_toArray, List.getElem_cons_succ, List.getElem_cons_zero, List.setIfInBounds_toArray, List.set_cons_zero, List.set_cons_succ]
        refine wpAnyH_ready (rs := [6]) (by kernel_rfl) (by simp) ?_
        refine AllReadyH.cons rfl (fun K hK => ?_) AllReadyH.nil
        go_simp
        rw [← World.alloc_drew]
        obtain ⟨wE, hwE⟩ : ∃ wE, wE = wT.drew.alloc (.cells #[] 5) := ⟨_, rfl⟩
        have bTE : Below wT.heap.size wT wE := by rw [hwE]; exact (Below.refl wT.heap.size wT).drew.alloc (Nat.le_refl _) _
        have dE : Below wN.heap.size wN wE := dT.trans (bTE.mono dT.size)
        have oE : wE.ownsRow wT.heap.size 5 1 (.slice (some ⟨wT.heap.size, 0, none⟩) 0 0) 0 [] := by rw [hwE]; exact World.ownsRow_lit (base := wT.heap.size) (e := 5) (size := 1) wT.drew #[] 0 (Nat.le_refl _) (Nat.zero_le _) rfl
        have zE : wT.heap.size < wE.heap.size := (oE.lt _ rfl).2
        rw [← hwE]
        clear hwE
        refine hK.out _ _ (BS.out wE (BW.out wE dE).1 (BW.out wE dE).2.1) (fun hHeld6 => ?_)
        clear hK
        refine wpAnyH_ready (rs := [8]) (by kernel_rfl) (by simp) ?_
        refine AllReadyH.cons rfl (fun K hK => ?_) AllReadyH.nil
        refine step_append_src (by rfl) _ _ 43 (by rfl) wT.heap.size 5 i0 (.int .u8 0) 1 1 Tryz.underlying43 hi hz0 hz1 hz2 rfl (by decide) (.slice (some ⟨wT.heap.size, 0, none⟩) 0 0) 0 [] (by rfl) oE (.slice ta ZN tc) ZN (Z.map (Value.int .u8)) (by rfl) (by rw [List.length_map, ← HZN.out]; omega) (by have h9 := src_bytes (OT.out.1.later bTE); rw [← HZN.out] at h9; exact h9) (bytes_one _) (by unfold maxLen; omega) (by omega) bTE.size ?_
        intro vS' wS oS grS
        obtain ⟨sa, sc, rfl⟩ : ∃ a c, vS' = .slice a ZN c := by
          rcases oS.2 with ⟨h1, h2⟩ | ⟨q, cap, cur, hv, _⟩
          · exact ⟨none, 0, by rw [h1]; congr 1; omega⟩
          · exact ⟨_, _, by rw [hv]; congr 1; omega⟩
        have bTS : Below wT.heap.size wT wS := bTE.grown grS bTE.size (fun q h => by simp [Value.ownBlock] at h; omega)
        have dS : Below wN.heap.size wN wS := dT.trans (bTS.mono dT.size)
        have brS := bN.trans (dS.mono bN.size)
        have HON : Hid (∃ f, Own shNode wS wN.heap.size [.int .i64 y, .slice ta ZN tc, .slice sa ZN sc] ((y, Z, Z, ()) : NodeD) f ∧ f.Nodup) := by
          have h8 : wS.ownsRow wT.heap.size 5 1 (.slice sa ZN sc) ZN (Z.map (Value.int .u8)) := by simpa using oS
          obtain ⟨f, hf, hfn⟩ := own_row HZN.out.symm HBY.out h8
          refine ⟨fT ++ (f ++ []), own_Node (d := ((y, Z, Z, ()) : NodeD)) (OT.out.1.later bTS) (hf.base dT.size), ?_⟩
          rw [List.append_nil]
          refine List.nodup_append.2 ⟨OT.out.2, hfn, fun x hx x' hx' e9 => ?_⟩
          subst e9
          have h1 := (OT.out.1.lt x hx).2
          have h2 := (hf.lt x hx').1
          omega
        obtain ⟨fN, hoN, hfN⟩ := HON.out
        have AS := HAN.out.later brS
        have rc0 := row_cells AS.row AS.len3 HCk.out AS.lenC 0 (by decide)
        have rc1 := row_cells AS.row AS.len3 HCk.out AS.lenC 1 (by decide)
        have rc2 := row_cells AS.row AS.len3 HCk.out AS.lenC 2 (by decide)
        have e0 : wS.cell? ⟨g, k * 3, none⟩ = some (.int .i64 y) := rc0.1
        have f0' : wS.frozen? ⟨g, k * 3, none⟩ = false := rc0.2
        have e1 : wS.cell? ⟨g, k * 3 + 1, none⟩ = some (.slice p1 m1 k1) := rc1.1
        have f1' : wS.frozen? ⟨g, k * 3 + 1, none⟩ = false := rc1.2
        have e2 : wS.cell? ⟨g, k * 3 + 2, none⟩ = some (.slice p2 m2 k2) := rc2.1
        have f2' : wS.frozen? ⟨g, k * 3 + 2, none⟩ = false := rc2.2
        have hRN : w5.heap.size ≤ wN.heap.size := by have := bN.size; omega
        have HA8 : Hid (Anew (((wS.setCell ⟨g, k * 3, none⟩ (.int .i64 y)).setCell ⟨g, k * 3 + 1, none⟩ (.slice ta ZN tc)).setCell ⟨g, k * 3 + 2, none⟩ (.slice sa ZN sc)) w5.heap.size (.slice (some ⟨g, 0, none⟩) M vc) M (k + 1) (Cs.set k [.int .i64 y, .slice ta ZN tc, .slice sa ZN sc]) (Q.map Prod.fst) (crashFrom cuts 0 (Q.map Prod.snd)) (Fs ++ [fN])) := AS.step hlt HDk.out (hoN.base hRN) hfN (fun y hy hm => by have h1 := (hoN.lt y hy).1; have h3 := bN.size; have h2 := (HAN.out.lt y (by simpa [Value.ownBlock] using hm)).2; omega)
        have HK8 : Hid (Own (.sl shLink) (((wS.setCell ⟨g, k * 3, none⟩ (.int .i64 y)).setCell ⟨g, k * 3 + 1, none⟩ (.slice ta ZN tc)).setCell ⟨g, k * 3 + 2, none⟩ (.slice sa ZN sc)) w3.heap.size [.slice ka kn kc] DL FK) := (HKK.out.later brS).keep fun q hq => by have h1 := (HFK.out q hq).2; exact (box_other _ (by omega)).trans ((box_other _ (by omega)).trans (box_other _ (by omega)))
        have HB8 : Hid (Below w.heap.size w (((wS.setCell ⟨g, k * 3, none⟩ (.int .i64 y)).setCell ⟨g, k * 3 + 1, none⟩ (.slice ta ZN tc)).setCell ⟨g, k * 3 + 2, none⟩ (.slice sa ZN sc)) ∧ Below w2.heap.size w2 (((wS.setCell ⟨g, k * 3, none⟩ (.int .i64 y)).setCell ⟨g, k * 3 + 1, none⟩ (.slice ta ZN tc)).setCell ⟨g, k * 3 + 2, none⟩ (.slice sa ZN sc))) := ⟨(((hbel.trans (brS.mono hbs)).setCell (p := ⟨g, k * 3, none⟩) (by simp; omega) _).setCell (p := ⟨g, k * 3 + 1, none⟩) (by simp; omega) _).setCell (p := ⟨g, k * 3 + 2, none⟩) (by simp; omega) _, (((hb2r.trans (brS.mono hb2r.size)).setCell (p := ⟨g, k * 3, none⟩) (by simp; omega) _).setCell (p := ⟨g, k * 3 + 1, none⟩) (by simp; omega) _).setCell (p := ⟨g, k * 3 + 2, none⟩) (by simp; omega) _⟩
        have HZ8 : Hid (∀ q, q ≠ g → (((wS.setCell ⟨g, k * 3, none⟩ (.int .i64 y)).setCell ⟨g, k * 3 + 1, none⟩ (.slice ta ZN tc)).setCell ⟨g, k * 3 + 2, none⟩ (.slice sa ZN sc)).heap[q]? = wS.heap[q]?) := fun q hq => (box_other _ hq).trans ((box_other _ hq).trans (box_other _ hq))
        have HWS : Hid _ := BW.out wS dS
        have zrS := brS.size
        clear AS rc0 rc1 rc2 oS grS hoN
        simp only [Act.put, List.setIfInBounds_toArray, List.set_cons_zero, List.set_cons_succ]
        refine hK.out _ _ (BS.out wS HWS.out.1 HWS.out.2.1) (fun hHeld8 => ?_)
        clear hK
        refine wpAnyH_take (i := 9) (v := .agg #[.int .i64 y, .slice ta ZN tc, .slice sa ZN sc]) rfl (by kernel_rfl) (by kernel_rfl) (by kernel_rfl) (fun _ _ _ h => h) (Or.inl ⟨by kernel_rfl, ?_⟩) (by assumption) ?_
        · intro w9 hSw; (try dsimp only at hSw); go_simp
        simp only [Act.put, List.getElem_toArray, List.getElem_cons_succ, List.getElem_cons_zero, List.setIfInBounds_toArray, List.set_cons_zero, List.set_cons_succ]
        refine wpAnyH_take (i := 10) (v := .pointer (some ⟨g, k * 3, none⟩)) rfl (by kernel_rfl) (by kernel_rfl) (by kernel_rfl) (fun _ _ _ h => h) (Or.inl ⟨by kernel_rfl, ?_⟩) (by assumption) ?_
        · intro w9 hSw; (try dsimp only at hSw); go_simp
        simp only [Act.put, List.getElem_toArray, List.getElem_cons_succ, List.getElem_cons_zero, List.setIfInBounds_toArray, List.set_cons_zero, List.set_cons_succ]
        refine wpAnyH_ready (rs := [11]) (by kernel_rfl) (by simp) ?_
        refine AllReadyH.cons rfl (fun K hK => ?_) AllReadyH.nil
        go_simp
        refine hK.out _ _ (BS.out _ ((HZ8.out _ (by omega)).trans HWS.out.1) ((HZ8.out _ (by omega)).trans HWS.out.2.1)) (fun hHeld11 => ?_)
        clear hK
        refine wpAnyH_done (by kernel_rfl) ?_ _
        have i8R : (((wS.setCell ⟨g, k * 3, none⟩ (.int .i64 y)).setCell ⟨g, k * 3 + 1, none⟩ (.slice ta ZN tc)).setCell ⟨g, k * 3 + 2, none⟩ (.slice sa ZN sc)).heap[w.heap.size + 1]? = _ := (HZ8.out _ (by omega)).trans HWS.out.2.2
        have i8O : (((wS.setCell ⟨g, k * 3, none⟩ (.int .i64 y)).setCell ⟨g, k * 3 + 1, none⟩ (.slice ta ZN tc)).setCell ⟨g, k * 3 + 2, none⟩ (.slice sa ZN sc)).heap[w2.heap.size]? = _ := (HZ8.out _ (by omega)).trans HWS.out.1
        have z8 : w6.heap.size ≤ (((wS.setCell ⟨g, k * 3, none⟩ (.int .i64 y)).setCell ⟨g, k * 3 + 1, none⟩ (.slice ta ZN tc)).setCell ⟨g, k * 3 + 2, none⟩ (.slice sa ZN sc)).heap.size := by simp; omega
        have HR8 : Hid (_ ∧ _ ∧ _) := ⟨i8R, i8O, z8⟩
        clear i8R i8O z8 e0 f0' e1 f1' e2 f2'
        go_wp2
        go_roundw
        case rel => exact ⟨k + 1, _, _, by omega, by go_num, HA8.out, HR8.out.1, HR8.out.2.1, HK8.out, HR8.out.2.2, HB8.out.2, HB8.out.1⟩
        case measure => simp [intOf]; omega
      · have hne : cuts ≠ [] := by intro h; have h9 := HRD.out.2; subst h; simp at h9; omega
        obtain ⟨bq, oq, rfl, hbq, hcq⟩ := HRD.out.1.resolve_left hne
        have hbq2 : bq < wr.heap.size := by omega
        have gq : wr.cell? ⟨bq, oq + k % n6, none⟩ = some (.int .i64 ct) := by
          have h9 := hcq (k % n6) (by rw [HRD.out.2]; exact Nat.mod_lt _ (by omega))
          rw [HCT.out]; unfold cutAt
          rw [if_neg (by rw [HRD.out.2]; omega), HRD.out.2]
          exact (hbel.cell (p := ⟨bq, oq + k % n6, none⟩) hbq).trans h9
        have hn0 : (0 : Int) < (n6 : Int) := by omega
        have hlt6 : k % n6 < n6 := Nat.mod_lt _ (by omega)
        have hzA : ((n6 : Int) == 0) = false := by simp; omega
        have hzB : ¬ ((n6 : Int) = 0) := by omega
        clear hcq hne
        go_wp2_with fail
        rw [← HWN.out]
        refine (qtear.out _ b2N).mono ?_
        rintro e wT ⟨ta, tc, fT, rfl, oT, ndT, hbT⟩
        have dT : Below wN.heap.size wN wT := hbT
        have bDT : Below wN.heap.size wN wT.drew := dT.drew
        have OT : Hid (Own (.sl .u8) wT wN.heap.size [.slice ta ZN tc] Z fT ∧ fT.Nodup) := ⟨oT, ndT⟩
        have zT := dT.size
        clear oT ndT hbT n0 n1 n2 g0 g1 g2
        go_wp2_with fail
        refine wp_region_held_drew (S := fun w' => w'.cell? ⟨w2.heap.size, 3, none⟩ = some (.slice (some ⟨g, 0, none⟩) M vc) ∧ w'.cell? ⟨wr.heap.size, 0, none⟩ = some (.int .i64 y)) (by kernel_rfl) (BS.out _ (BW.out _ bDT).1 (BW.out _ bDT).2.1) (fun hHeld => ?_)
        refine wpAnyH_take (i := 0) (v := .pointer (some ⟨w2.heap.size, 3, none⟩)) rfl (by kernel_rfl) (by kernel_rfl) (by kernel_rfl) (fun _ _ _ h => h) (Or.inl ⟨by kernel_rfl, ?_⟩) (by assumption) ?_
        · intro w9 hSw; (try dsimp only at hSw); go_simp
        simp only [Act.put, List.getElem_toArray, List.getElem_cons_succ, List.getElem_cons_zero, List.setIfInBounds_toArray, List.set_cons_zero, List.set_cons_succ]
        refine wpAnyH_take (i := 1) (v := .slice (some ⟨g, 0, none⟩) M vc) rfl (by kernel_rfl) (by kernel_rfl) (by kernel_rfl) (fun _ _ _ h => h) (Or.inl ⟨by kernel_rfl, ?_⟩) (by assumption) ?_
        · intro w9 hSw; (try dsimp only at hSw); go_simp
        simp only [Act.put, List.getElem_toArray, List.getElem_cons_succ, List.getElem_cons_zero, List.setIfInBounds_toArray, List.set_cons_zero, List.set_cons_succ]
        refine wpAnyH_take (i := 2) (v := .int .i64 (k : Int)) rfl (by kernel_rfl) (by kernel_rfl) (by kernel_rfl) (fun _ _ _ h => h) (Or.inl ⟨by kernel_rfl, ?_⟩) (by assumption) ?_
        · intro w9 hSw; (try dsimp only at hSw); go_simp
        simp only [Act.put, List.getElem_toArray, List.getElem_cons_succ, List.getElem_cons_zero, List.setIfInBounds_toArray, List.set_cons_zero, List.set_cons_succ]
        refine wpAnyH_take (i := 3) (v := .pointer (some ⟨wr.heap.size, 0, none⟩)) rfl (by kernel_rfl) (by kernel_rfl) (by kernel_rfl) (fun _ _ _ h => h) (Or.inl ⟨by kernel_rfl, ?_⟩) (by assumption) ?_
        · intro w9 hSw; (try dsimp only at hSw); go_simp
        simp only [Act.put, List.getElem_toArray, List.getElem_cons_succ, List.getElem_cons_zero, List.setIfInBounds_toArray, List.set_cons_zero, List.set_cons_succ]
        refine wpAnyH_take (i := 4) (v := .int .i64 y) rfl (by kernel_rfl) (by kernel_rfl) (by kernel_rfl) (fun _ _ _ h => h) (Or.inl ⟨by kernel_rfl, ?_⟩) (by assumption) ?_
        · intro w9 hSw; (try dsimp only at hSw); go_simp
        simp only [Act.put, List.getElem_toArray, List.getElem_cons_succ, List.getElem_cons_zero, List.setIfInBounds_toArray, List.set_cons_zero, List.set_cons_succ]
        refine wpAnyH_take (i := 5) (v := .slice ta ZN tc) rfl (by kernel_rfl) (by kernel_rfl) (by kernel_rfl) (fun _ _ _ h => h) (Or.inl ⟨by kernel_rfl, ?_⟩) (by assumption) ?_
        · intro w9 hSw; (try dsimp only at hSw); go_simp
        simp only [Act.put, List.getElem_toArray, List.getElem_cons_succ, List.getElem_cons_zero, List.setIfInBounds_toArray, List.set_cons_zero, List.set_cons_succ]
        refine wpAnyH_take (i := 7) (v := .slice ta ZN tc) rfl (by kernel_rfl) (by kernel_rfl) (by kernel_rfl) (fun _ _ _ h => h) (Or.inl ⟨by kernel_rfl, ?_⟩) (by assumption) ?_
        · intro w9 hSw; (try dsimp only at hSw); go_simp
        simp only [Act.put, List.getElem_toArray, List.getElem_cons_succ, List.getElem_cons_zero, List.setIfInBounds_toArray, List.set_cons_zero, List.set_cons_succ]
        refine wpAnyH_ready (rs := [6]) (by kernel_rfl) (by simp) ?_
        refine AllReadyH.cons rfl (fun K hK => ?_) AllReadyH.nil
        go_simp
        rw [← World.alloc_drew]
        obtain ⟨wE, hwE⟩ : ∃ wE, wE = wT.drew.alloc (.cells #[] 5) := ⟨_, rfl⟩
        have bTE : Below wT.heap.size wT wE := by rw [hwE]; exact (Below.refl wT.heap.size wT).drew.alloc (Nat.le_refl _) _
        have dE : Below wN.heap.size wN wE := dT.trans (bTE.mono dT.size)
        have oE : wE.ownsRow wT.heap.size 5 1 (.slice (some ⟨wT.heap.size, 0, none⟩) 0 0) 0 [] := by rw [hwE]; exact World.ownsRow_lit (base := wT.heap.size) (e := 5) (size := 1) wT.drew #[] 0 (Nat.le_refl _) (Nat.zero_le _) rfl
        have zE : wT.heap.size < wE.heap.size := (oE.lt _ rfl).2
        rw [← hwE]
        clear hwE
        refine hK.out _ _ (BS.out wE (BW.out wE dE).1 (BW.out wE dE).2.1) (fun hHeld6 => ?_)
        clear hK
        refine wpAnyH_ready (rs := [8]) (by kernel_rfl) (by simp) ?_
        refine AllReadyH.cons rfl (fun K hK => ?_) AllReadyH.nil
        refine step_append_src (by rfl) _ _ 43 (by rfl) wT.heap.size 5 i0 (.int .u8 0) 1 1 Tryz.underlying43 hi hz0 hz1 hz2 rfl (by decide) (.slice (some ⟨wT.heap.size, 0, none⟩) 0 0) 0 [] (by rfl) oE (.slice ta ZN tc) ZN (Z.map (Value.int .u8)) (by rfl) (by rw [List.length_map, ← HZN.out]; omega) (by have h9 := src_bytes (OT.out.1.later bTE); rw [← HZN.out] at h9; exact h9) (bytes_one _) (by unfold maxLen; omega) (by omega) bTE.size ?_
        intro vS' wS oS grS
        obtain ⟨sa, sc, rfl⟩ : ∃ a c, vS' = .slice a ZN c := by
          rcases oS.2 with ⟨h1, h2⟩ | ⟨q, cap, cur, hv, _⟩
          · exact ⟨none, 0, by rw [h1]; congr 1; omega⟩
          · exact ⟨_, _, by rw [hv]; congr 1; omega⟩
        have bTS : Below wT.heap.size wT wS := bTE.grown grS bTE.size (fun q h => by simp [Value.ownBlock] at h; omega)
        have dS : Below wN.heap.size wN wS := dT.trans (bTS.mono dT.size)
        have brS := bN.trans (dS.mono bN.size)
        have HON : Hid (∃ f, Own shNode wS wN.heap.size [.int .i64 y, .slice ta ZN tc, .slice sa ZN sc] ((y, Z, Z, ()) : NodeD) f ∧ f.Nodup) := by
          have h8 : wS.ownsRow wT.heap.size 5 1 (.slice sa ZN sc) ZN (Z.map (Value.int .u8)) := by simpa using oS
          obtain ⟨f, hf, hfn⟩ := own_row HZN.out.symm HBY.out h8
          refine ⟨fT ++ (f ++ []), own_Node (d := ((y, Z, Z, ()) : NodeD)) (OT.out.1.later bTS) (hf.base dT.size), ?_⟩
          rw [List.append_nil]
          refine List.nodup_append.2 ⟨OT.out.2, hfn, fun x hx x' hx' e9 => ?_⟩
          subst e9
          have h1 := (OT.out.1.lt x hx).2
          have h2 := (hf.lt x hx').1
          omega
        obtain ⟨fN, hoN, hfN⟩ := HON.out
        have AS := HAN.out.later brS
        have rc0 := row_cells AS.row AS.len3 HCk.out AS.lenC 0 (by decide)
        have rc1 := row_cells AS.row AS.len3 HCk.out AS.lenC 1 (by decide)
        have rc2 := row_cells AS.row AS.len3 HCk.out AS.lenC 2 (by decide)
        have e0 : wS.cell? ⟨g, k * 3, none⟩ = some (.int .i64 y) := rc0.1
        have f0' : wS.frozen? ⟨g, k * 3, none⟩ = false := rc0.2
        have e1 : wS.cell? ⟨g, k * 3 + 1, none⟩ = some (.slice p1 m1 k1) := rc1.1
        have f1' : wS.frozen? ⟨g, k * 3 + 1, none⟩ = false := rc1.2
        have e2 : wS.cell? ⟨g, k * 3 + 2, none⟩ = some (.slice p2 m2 k2) := rc2.1
        have f2' : wS.frozen? ⟨g, k * 3 + 2, none⟩ = false := rc2.2
        have hRN : w5.heap.size ≤ wN.heap.size := by have := bN.size; omega
        have HA8 : Hid (Anew (((wS.setCell ⟨g, k * 3, none⟩ (.int .i64 y)).setCell ⟨g, k * 3 + 1, none⟩ (.slice ta ZN tc)).setCell ⟨g, k * 3 + 2, none⟩ (.slice sa ZN sc)) w5.heap.size (.slice (some ⟨g, 0, none⟩) M vc) M (k + 1) (Cs.set k [.int .i64 y, .slice ta ZN tc, .slice sa ZN sc]) (Q.map Prod.fst) (crashFrom cuts 0 (Q.map Prod.snd)) (Fs ++ [fN])) := AS.step hlt HDk.out (hoN.base hRN) hfN (fun y hy hm => by have h1 := (hoN.lt y hy).1; have h3 := bN.size; have h2 := (HAN.out.lt y (by simpa [Value.ownBlock] using hm)).2; omega)
        have HK8 : Hid (Own (.sl shLink) (((wS.setCell ⟨g, k * 3, none⟩ (.int .i64 y)).setCell ⟨g, k * 3 + 1, none⟩ (.slice ta ZN tc)).setCell ⟨g, k * 3 + 2, none⟩ (.slice sa ZN sc)) w3.heap.size [.slice ka kn kc] DL FK) := (HKK.out.later brS).keep fun q hq => by have h1 := (HFK.out q hq).2; exact (box_other _ (by omega)).trans ((box_other _ (by omega)).trans (box_other _ (by omega)))
        have HB8 : Hid (Below w.heap.size w (((wS.setCell ⟨g, k * 3, none⟩ (.int .i64 y)).setCell ⟨g, k * 3 + 1, none⟩ (.slice ta ZN tc)).setCell ⟨g, k * 3 + 2, none⟩ (.slice sa ZN sc)) ∧ Below w2.heap.size w2 (((wS.setCell ⟨g, k * 3, none⟩ (.int .i64 y)).setCell ⟨g, k * 3 + 1, none⟩ (.slice ta ZN tc)).setCell ⟨g, k * 3 + 2, none⟩ (.slice sa ZN sc))) := ⟨(((hbel.trans (brS.mono hbs)).setCell (p := ⟨g, k * 3, none⟩) (by simp; omega) _).setCell (p := ⟨g, k * 3 + 1, none⟩) (by simp; omega) _).setCell (p := ⟨g, k * 3 + 2, none⟩) (by simp; omega) _, (((hb2r.trans (brS.mono hb2r.size)).setCell (p := ⟨g, k * 3, none⟩) (by simp; omega) _).setCell (p := ⟨g, k * 3 + 1, none⟩) (by simp; omega) _).setCell (p := ⟨g, k * 3 + 2, none⟩) (by simp; omega) _⟩
        have HZ8 : Hid (∀ q, q ≠ g → (((wS.setCell ⟨g, k * 3, none⟩ (.int .i64 y)).setCell ⟨g, k * 3 + 1, none⟩ (.slice ta ZN tc)).setCell ⟨g, k * 3 + 2, none⟩ (.slice sa ZN sc)).heap[q]? = wS.heap[q]?) := fun q hq => (box_other _ hq).trans ((box_other _ hq).trans (box_other _ hq))
        have HWS : Hid _ := BW.out wS dS
        have zrS := brS.size
        clear AS rc0 rc1 rc2 oS grS hoN
        simp only [Act.put, List.setIfInBounds_toArray, List.set_cons_zero, List.set_cons_succ]
        refine hK.out _ _ (BS.out wS HWS.out.1 HWS.out.2.1) (fun hHeld8 => ?_)
        clear hK
        refine wpAnyH_take (i := 9) (v := .agg #[.int .i64 y, .slice ta ZN tc, .slice sa ZN sc]) rfl (by kernel_rfl) (by kernel_rfl) (by kernel_rfl) (fun _ _ _ h => h) (Or.inl ⟨by kernel_rfl, ?_⟩) (by assumption) ?_
        · intro w9 hSw; (try dsimp only at hSw); go_simp
        simp only [Act.put, List.getElem_toArray, List.getElem_cons_succ, List.getElem_cons_zero, List.setIfInBounds_toArray, List.set_cons_zero, List.set_cons_succ]
        refine wpAnyH_take (i := 10) (v := .pointer (some ⟨g, k * 3, none⟩)) rfl (by kernel_rfl) (by kernel_rfl) (by kernel_rfl) (fun _ _ _ h => h) (Or.inl ⟨by kernel_rfl, ?_⟩) (by assumption) ?_
        · intro w9 hSw; (try dsimp only at hSw); go_simp
        simp only [Act.put, List.getElem_toArray, List.getElem_cons_succ, List.getElem_cons_zero, List.setIfInBounds_toArray, List.set_cons_zero, List.set_cons_succ]
        refine wpAnyH_ready (rs := [11]) (by kernel_rfl) (by simp) ?_
        refine AllReadyH.cons rfl (fun K hK => ?_) AllReadyH.nil
        go_simp
        refine hK.out _ _ (BS.out _ ((HZ8.out _ (by omega)).trans HWS.out.1) ((HZ8.out _ (by omega)).trans HWS.out.2.1)) (fun hHeld11 => ?_)
        clear hK
        refine wpAnyH_done (by kernel_rfl) ?_ _
        have i8R : (((wS.setCell ⟨g, k * 3, none⟩ (.int .i64 y)).setCell ⟨g, k * 3 + 1, none⟩ (.slice ta ZN tc)).setCell ⟨g, k * 3 + 2, none⟩ (.slice sa ZN sc)).heap[w.heap.size + 1]? = _ := (HZ8.out _ (by omega)).trans HWS.out.2.2
        have i8O : (((wS.setCell ⟨g, k * 3, none⟩ (.int .i64 y)).setCell ⟨g, k * 3 + 1, none⟩ (.slice ta ZN tc)).setCell ⟨g, k * 3 + 2, none⟩ (.slice sa ZN sc)).heap[w2.heap.size]? = _ := (HZ8.out _ (by omega)).trans HWS.out.1
        have z8 : w6.heap.size ≤ (((wS.setCell ⟨g, k * 3, none⟩ (.int .i64 y)).setCell ⟨g, k * 3 + 1, none⟩ (.slice ta ZN tc)).setCell ⟨g, k * 3 + 2, none⟩ (.slice sa ZN sc)).heap.size := by simp; omega
        have HR8 : Hid (_ ∧ _ ∧ _) := ⟨i8R, i8O, z8⟩
        clear i8R i8O z8 e0 f0' e1 f1' e2 f2'
        go_wp2
        go_roundw
        case rel => exact ⟨k + 1, _, _, by omega, by go_num, HA8.out, HR8.out.1, HR8.out.2.1, HK8.out, HR8.out.2.2, HB8.out.2, HB8.out.1⟩
        case measure => simp [intOf]; omega
    · have e : k = M := by omega
      subst e
      have zd1 := d1.size
      obtain ⟨F3, o3, nd3, hF3⟩ := hA.own
      have L3 : ∀ y ∈ F3, w5.heap.size ≤ y := fun y hy => (hA.lt y (hF3 y hy)).1
      have yc0 : wr.cell? ⟨w2.heap.size, 0, none⟩ = some (.int .i64 x0) := box_cell iO rfl
      have yr0 : wr.cell? ⟨w.heap.size + 1, 0, none⟩ = some (.int .i64 0) := box_cell iR rfl
      have yg0 : wr.frozen? ⟨w.heap.size + 1, 0, none⟩ = false := box_frozen iR
      have yc1 : wr.cell? ⟨w2.heap.size, 1, none⟩ = some (.int .i64 (-1)) := box_cell iO rfl
      have yr1 : wr.cell? ⟨w.heap.size + 1, 1, none⟩ = some (.int .i64 0) := box_cell iR rfl
      have yg1 : wr.frozen? ⟨w.heap.size + 1, 1, none⟩ = false := box_frozen iR
      have yc2 : wr.cell? ⟨w2.heap.size, 2, none⟩ = some (.int .i64 x2) := box_cell iO rfl
      have yr2 : wr.cell? ⟨w.heap.size + 1, 2, none⟩ = some (.int .i64 0) := box_cell iR rfl
      have yg2 : wr.frozen? ⟨w.heap.size + 1, 2, none⟩ = false := box_frozen iR
      have yc3 : wr.cell? ⟨w2.heap.size, 3, none⟩ = some (.slice va k vc) := box_cell iO rfl
      have yr3 : wr.cell? ⟨w.heap.size + 1, 3, none⟩ = some (.slice none 0 0) := box_cell iR rfl
      have yg3 : wr.frozen? ⟨w.heap.size + 1, 3, none⟩ = false := box_frozen iR
      have yc4 : wr.cell? ⟨w2.heap.size, 4, none⟩ = some (.slice ka kn kc) := box_cell iO rfl
      have yr4 : wr.cell? ⟨w.heap.size + 1, 4, none⟩ = some (.slice none 0 0) := box_cell iR rfl
      have yg4 : wr.frozen? ⟨w.heap.size + 1, 4, none⟩ = false := box_frozen iR
      have yc5 : wr.cell? ⟨w2.heap.size, 5, none⟩ = some (.slice none 0 0) := box_cell iO rfl
      have yr5 : wr.cell? ⟨w.heap.size + 1, 5, none⟩ = some (.slice none 0 0) := box_cell iR rfl
      have yg5 : wr.frozen? ⟨w.heap.size + 1, 5, none⟩ = false := box_frozen iR
      have yz0 : ((wr).setCell ⟨w.heap.size + 1, 0, none⟩ (.int .i64 x0)).cell? ⟨w.heap.size + 1, 0, none⟩ = some (.int .i64 x0) := World.cell?_setCell_same _ _ _ (by exact yr0)
      have yz1 : (((wr).setCell ⟨w.heap.size + 1, 0, none⟩ (.int .i64 x0)).setCell ⟨w.heap.size + 1, 1, none⟩ (.int .i64 (-1))).cell? ⟨w.heap.size + 1, 1, none⟩ = some (.int .i64 (-1)) := World.cell?_setCell_same _ _ _ (by rw [World.cell?_setCell_other _ _ _ _ (by simp)]; exact yr1)
      have yz2 : ((((wr).setCell ⟨w.heap.size + 1, 0, none⟩ (.int .i64 x0)).setCell ⟨w.heap.size + 1, 1, none⟩ (.int .i64 (-1))).setCell ⟨w.heap.size + 1, 2, none⟩ (.int .i64 x2)).cell? ⟨w.heap.size + 1, 2, none⟩ = some (.int .i64 x2) := World.cell?_setCell_same _ _ _ (by rw [World.cell?_setCell_other _ _ _ _ (by simp), World.cell?_setCell_other _ _ _ _ (by simp)]; exact yr2)
      have yz3 : (((((wr).setCell ⟨w.heap.size + 1, 0, none⟩ (.int .i64 x0)).setCell ⟨w.heap.size + 1, 1, none⟩ (.int .i64 (-1))).setCell ⟨w.heap.size + 1, 2, none⟩ (.int .i64 x2)).setCell ⟨w.heap.size + 1, 3, none⟩ (.slice va k vc)).cell? ⟨w.heap.size + 1, 3, none⟩ = some (.slice va k vc) := World.cell?_setCell_same _ _ _ (by rw [World.cell?_setCell_other _ _ _ _ (by simp), World.cell?_setCell_other _ _ _ _ (by simp), World.cell?_setCell_other _ _ _ _ (by simp)]; exact yr3)
      have yz4 : ((((((wr).setCell ⟨w.heap.size + 1, 0, none⟩ (.int .i64 x0)).setCell ⟨w.heap.size + 1, 1, none⟩ (.int .i64 (-1))).setCell ⟨w.heap.size + 1, 2, none⟩ (.int .i64 x2)).setCell ⟨w.heap.size + 1, 3, none⟩ (.slice va k vc)).setCell ⟨w.heap.size + 1, 4, none⟩ (.slice ka kn kc)).cell? ⟨w.heap.size + 1, 4, none⟩ = some (.slice ka kn kc) := World.cell?_setCell_same _ _ _ (by rw [World.cell?_setCell_other _ _ _ _ (by simp), World.cell?_setCell_other _ _ _ _ (by simp), World.cell?_setCell_other _ _ _ _ (by simp), World.cell?_setCell_other _ _ _ _ (by simp)]; exact yr4)
      have yz5 : (((((((wr).setCell ⟨w.heap.size + 1, 0, none⟩ (.int .i64 x0)).setCell ⟨w.heap.size + 1, 1, none⟩ (.int .i64 (-1))).setCell ⟨w.heap.size + 1, 2, none⟩ (.int .i64 x2)).setCell ⟨w.heap.size + 1, 3, none⟩ (.slice va k vc)).setCell ⟨w.heap.size + 1, 4, none⟩ (.slice ka kn kc)).setCell ⟨w.heap.size + 1, 5, none⟩ (.slice none 0 0)).cell? ⟨w.heap.size + 1, 5, none⟩ = some (.slice none 0 0) := World.cell?_setCell_same _ _ _ (by rw [World.cell?_setCell_other _ _ _ _ (by simp), World.cell?_setCell_other _ _ _ _ (by simp), World.cell?_setCell_other _ _ _ _ (by simp), World.cell?_setCell_other _ _ _ _ (by simp), World.cell?_setCell_other _ _ _ _ (by simp)]; exact yr5)
      obtain ⟨wF, hwF⟩ : ∃ wF, wF = ((((((wr).setCell ⟨w.heap.size + 1, 0, none⟩ (.int .i64 x0)).setCell ⟨w.heap.size + 1, 1, none⟩ (.int .i64 (-1))).setCell ⟨w.heap.size + 1, 2, none⟩ (.int .i64 x2)).setCell ⟨w.heap.size + 1, 3, none⟩ (.slice va k vc)).setCell ⟨w.heap.size + 1, 4, none⟩ (.slice ka kn kc)).setCell ⟨w.heap.size + 1, 5, none⟩ (.slice none 0 0) := ⟨_, rfl⟩
      have keepF : ∀ q, q ≠ w.heap.size + 1 → wF.heap[q]? = wr.heap[q]? := fun q hq => by rw [hwF]; exact ((box_other _ hq).trans ((box_other _ hq).trans ((box_other _ hq).trans ((box_other _ hq).trans ((box_other _ hq).trans (box_other _ hq))))))
      have HF : Hid (Reads shDisk (((((((wr).setCell ⟨w.heap.size + 1, 0, none⟩ (.int .i64 x0)).setCell ⟨w.heap.size + 1, 1, none⟩ (.int .i64 (-1))).setCell ⟨w.heap.size + 1, 2, none⟩ (.int .i64 x2)).setCell ⟨w.heap.size + 1, 3, none⟩ (.slice va k vc)).setCell ⟨w.heap.size + 1, 4, none⟩ (.slice ka kn kc)).setCell ⟨w.heap.size + 1, 5, none⟩ (.slice none 0 0)) [.int .i64 x0, .int .i64 (-1), .int .i64 x2, .slice va k vc, .slice ka kn kc, .slice none 0 0] (crashD d tn cuts) ∧ Below w.heap.size w (((((((wr).setCell ⟨w.heap.size + 1, 0, none⟩ (.int .i64 x0)).setCell ⟨w.heap.size + 1, 1, none⟩ (.int .i64 (-1))).setCell ⟨w.heap.size + 1, 2, none⟩ (.int .i64 x2)).setCell ⟨w.heap.size + 1, 3, none⟩ (.slice va k vc)).setCell ⟨w.heap.size + 1, 4, none⟩ (.slice ka kn kc)).setCell ⟨w.heap.size + 1, 5, none⟩ (.slice none 0 0))) := by
        refine ⟨?_, ((((((hbel.setCell (p := ⟨w.heap.size + 1, 0, none⟩) (by simp <;> omega) (.int .i64 x0)).setCell (p := ⟨w.heap.size + 1, 1, none⟩) (by simp <;> omega) (.int .i64 (-1))).setCell (p := ⟨w.heap.size + 1, 2, none⟩) (by simp <;> omega) (.int .i64 x2)).setCell (p := ⟨w.heap.size + 1, 3, none⟩) (by simp <;> omega) (.slice va k vc)).setCell (p := ⟨w.heap.size + 1, 4, none⟩) (by simp <;> omega) (.slice ka kn kc)).setCell (p := ⟨w.heap.size + 1, 5, none⟩) (by simp <;> omega) (.slice none 0 0))⟩
        rw [← hwF]
        exact HCD.out _ _ _ Q HQ.out.2.1 (o3.keep fun q hq => keepF q (by have h1 := L3 q hq; omega)).reads (hK.keep fun q hq => keepF q (by have h1 := (HFK.out q hq).1; omega)).reads
      clear hA iR iO hK hbel hwF keepF o3 nd3 hF3 L3
      go_wp2
      (try simp only [Exit.inBlock, Exit.then])
      refine bodyPost_ret (by simp [results, Tryz.results7, go_sem, yz0, yz1, yz2, yz3, yz4, yz5]; try rfl) rfl ?_
      exact ⟨_, rfl, HF.out.1, HF.out.2⟩

end Go.Proofs.YtkaegbhmeonjfaaGreat
