/-
  DiskRead of the model.
-/
import Derived.Test.YtmhlligmehbehaaReadP
namespace Go.Proofs.Ytmhlligmehbehaa
open Go.RowKit
set_option linter.unusedVariables false

set_option maxRecDepth 100000 in
set_option maxHeartbeats 2000000 in
theorem specRead_none (cs : List Value) (d : shDisk.D) (name : ByteArray) (B : Nat) (G : List Nat) (w : World) (ho : Own shDisk w B cs d G) (hs : shDisk.sz d ≤ 1048576) (hno : specOkP d → hasL (dirL d.2.2.2.2.1 d.2.2.2.2.2.1) name = false) (hdec : specOkP d ∨ ¬ specOkP d) :
    Calls Try.prog 5 #[.agg cs.toArray, .string name] w fun e w' => e = .returned (.tuple #[.slice none 0 0, .bool false]) ∧ Below w.heap.size w w' := by
  obtain ⟨a3, n3, c3, F3, a4, n4, c4, F4, a5, n5, c5, F5, rfl, _, o3, o4, o5⟩ := openO_Disk ho
  have l3m : n3 ≤ c3 ∧ c3 ≤ maxLen := (reads_len o3.reads).2
  unfold maxLen at l3m
  obtain ⟨x0, e0⟩ : ∃ x : Int, x = d.1 := ⟨_, rfl⟩
  obtain ⟨x1, e1⟩ : ∃ x : Int, x = d.2.1 := ⟨_, rfl⟩
  obtain ⟨x2, e2⟩ : ∃ x : Int, x = d.2.2.1 := ⟨_, rfl⟩
  have qdir : Hid (∀ w', Below w.heap.size w w' → Calls Try.prog 17 #[.agg #[.int .i64 x0, .int .i64 x1, .int .i64 x2, .slice a3 n3 c3, .slice a4 n4 c4, .slice a5 n5 c5]] w' fun e w'' => ∃ (a : Option Addr) (n c : Nat) (l : List LinkD), e = .returned (.slice a n c) ∧ Reads (.sl shLink) w'' [.slice a n c] l ∧ findL l name = 0 ∧ Below w'.heap.size w' w'') := fun w' h' => by
    rw [e0, e1, e2]
    rcases hdec with h | h
    · refine (specDir_yes _ d B G w' (ho.later h') hs h).mono ?_
      rintro e w'' ⟨v, F, rfl, p, _, hb⟩
      obtain ⟨a, c, rfl, _⟩ := own_val p
      exact ⟨a, _, c, _, rfl, p.reads, findL_none (hno h), hb⟩
    · refine (specDir_no _ d w' (ho.reads.later h') hs h).mono ?_
      rintro e w'' ⟨rfl, hb⟩
      exact ⟨none, 0, 0, [], rfl, ⟨none, 0, rfl, Nat.le_refl _, Nat.zero_le _, .inl rfl⟩, rfl, hb⟩
  rw [← e0, ← e1, ← e2]
  have bW0 : Below w.heap.size w (w.alloc (.cells #[.int .i64 x0, .int .i64 x1, .int .i64 x2, .slice a3 n3 c3, .slice a4 n4 c4, .slice a5 n5 c5] 35)) := (Below.refl _ _).alloc (Nat.le_refl _) _
  clear ho hs o3 o4 o5 e0 e1 e2 hno hdec
  go_enter Try.func5, Try.ntmps5
  go_wp2_with fail
  refine (qdir.out _ bW0).mono ?_
  rintro e w1 ⟨a, n, c, l, rfl, r1, hf, hb1⟩
  have b1 := bW0.trans (hb1.mono bW0.size)
  have R1 : Hid (Reads (.sl shLink) w1 [.slice a n c] l) := r1
  clear hb1 r1
  go_wp2_with fail
  refine (specFind_ok a n c l name _ R1.out).mono ?_
  rintro e w2 ⟨rfl, hb2⟩
  have b2 := b1.trans (hb2.mono b1.size)
  clear hb2
  rw [hf]
  go_wp2
  go_ret2
  exact ⟨rfl, b2⟩

set_option maxRecDepth 100000 in
set_option maxHeartbeats 4000000 in
theorem specRead_yes (cs : List Value) (d : shDisk.D) (name : ByteArray) (B : Nat) (G : List Nat) (w : World) (ho : Own shDisk w B cs d G) (hs : shDisk.sz d ≤ 1048576) (hok : specOkP d) (hh : hasL (dirL d.2.2.2.2.1 d.2.2.2.2.2.1) name = true) :
    Calls Try.prog 5 #[.agg cs.toArray, .string name] w fun e w' => ∃ v F x, shNode.at d.2.2.2.1 (placeN d.2.2.2.1 (findL (dirL d.2.2.2.2.1 d.2.2.2.2.2.1) name)) = some x ∧ e = .returned (.tuple #[v, .bool true]) ∧ Own (.sl .u8) w' w.heap.size [v] x.2.1 F ∧ F.Nodup ∧ Below w.heap.size w w' := by
  obtain ⟨i0, hi, hz0, hz1, hz2⟩ := info_parts Try.infoB
  obtain ⟨a3, n3, c3, F3, a4, n4, c4, F4, a5, n5, c5, F5, rfl, _, o3, o4, o5⟩ := openO_Disk ho
  have l3m : n3 ≤ c3 ∧ c3 ≤ maxLen := (reads_len o3.reads).2
  unfold maxLen at l3m
  obtain ⟨x0, e0⟩ : ∃ x : Int, x = d.1 := ⟨_, rfl⟩
  obtain ⟨x1, e1⟩ : ∃ x : Int, x = d.2.1 := ⟨_, rfl⟩
  obtain ⟨x2, e2⟩ : ∃ x : Int, x = d.2.2.1 := ⟨_, rfl⟩
  obtain ⟨L, hL⟩ : ∃ L, L = dirL d.2.2.2.2.1 d.2.2.2.2.2.1 := ⟨_, rfl⟩
  have hda := dir_alike hok
  rw [← hL] at hda hh
  rw [← hL]
  have hin : placeN d.2.2.2.1 (findL L name) < List.length (α := NodeD) d.2.2.2.1 := by
    obtain ⟨x, hx, _, hx2⟩ := findL_mem hh
    have := hda.2.2 x hx
    rw [hx2] at this; exact this
  have hpos : 0 < findL L name := (findL_pos hda.2.1 name).1 hh
  obtain ⟨Id, hId⟩ : ∃ z, z = findL L name := ⟨_, rfl⟩
  rw [← hId] at hin hpos ⊢
  have qdir : Hid (∀ w', Below w.heap.size w w' → Calls Try.prog 17 #[.agg #[.int .i64 x0, .int .i64 x1, .int .i64 x2, .slice a3 n3 c3, .slice a4 n4 c4, .slice a5 n5 c5]] w' fun e w'' => ∃ (a : Option Addr) (n c : Nat), e = .returned (.slice a n c) ∧ Reads (.sl shLink) w'' [.slice a n c] L ∧ Below w'.heap.size w' w'') := fun w' h' => by
    rw [e0, e1, e2]
    refine (specDir_yes _ d B G w' (ho.later h') hs hok).mono ?_
    rintro e w'' ⟨v, F, rfl, p, _, hb⟩
    rw [← hL] at p
    obtain ⟨a, c, rfl, _⟩ := own_val p
    exact ⟨a, _, c, rfl, p.reads, hb⟩
  have qAt : Hid (∀ w', Below w.heap.size w w' → Calls Try.prog 18 #[.agg #[.int .i64 x0, .int .i64 x1, .int .i64 x2, .slice a3 n3 c3, .slice a4 n4 c4, .slice a5 n5 c5], .int .i64 Id] w' fun e w'' => e = .returned (.int .i64 (placeN d.2.2.2.1 Id)) ∧ Below w'.heap.size w' w'') := fun w' h' => by
    rw [e0, e1, e2]; exact specAt_ok _ d Id w' (ho.reads.later h') hs hin
  have qF : Hid (∀ w' a n c, Reads (.sl shLink) w' [.slice a n c] L → Calls Try.prog 16 #[.slice a n c, .string name] w' fun e w'' => e = .returned (.int .i64 Id) ∧ Below w'.heap.size w' w'') := fun w' a n c h => by rw [hId]; exact specFind_ok a n c L name w' h
  obtain ⟨nd, hnd⟩ : ∃ l : List NodeD, l = d.2.2.2.1 := ⟨_, rfl⟩
  rw [← hnd] at o3 hin qAt ⊢
  have l3 : nd.length = n3 := (reads_len o3.reads).1
  obtain ⟨P, hP⟩ : ∃ P, P = placeN nd Id := ⟨_, rfl⟩
  rw [← hP] at hin qAt ⊢
  obtain ⟨bb, cc, x, fx, ha3, hb, hx, hox, _, hcell⟩ := own_get o3 P (by omega)
  subst ha3
  have hsz : List.length (α := Int) x.2.1 ≤ 1048576 := by
    have h1 := hs
    rw [sz_Disk, ← hnd] at h1
    have h2 := sz_elem shNode nd P x hx
    have h3 : List.length (α := Int) x.2.1 ≤ shNode.sz x := (sz_len x).1
    have h4 : Sh.sz (.sl shNode) nd = List.length (α := NodeD) nd + (List.map shNode.sz nd).sum := rfl
    omega
  obtain ⟨zs, hzs⟩ : ∃ zs : List Int, zs = x.2.1 := ⟨_, rfl⟩
  rw [← hzs] at hsz
  obtain ⟨p1, m1, k1, f1, p2, m2, k2, f2, rfl, _, ob, _⟩ := openO_Node hox
  rw [← hzs] at ob
  have hbd : ∀ i : Nat, 0 ≤ zs[i]?.getD 0 ∧ zs[i]?.getD 0 ≤ 255 := (reads_bytes ob.reads).2.1.1
  have QS : Hid (∀ w', Below w.heap.size w w' → Src w' (.slice p1 m1 k1) zs.length (zs.map (Value.int .u8))) := fun w' h' => src_bytes (ob.later h')
  have HX : Hid (shNode.at nd P = some x ∧ zs = x.2.1 ∧ ∀ i : Nat, 0 ≤ zs[i]?.getD 0 ∧ zs[i]?.getD 0 ≤ 255) := ⟨hx, hzs, hbd⟩
  have HG : Hid (w.cell? ⟨bb, P * 3 + 1, none⟩ = some (.slice p1 m1 k1)) := hcell 1 (by decide)
  have hPn : (P : Int) < (n3 : Int) := by omega
  obtain ⟨Z, hZ⟩ : ∃ Z, Z = zs.length := ⟨_, rfl⟩
  have k0 : (zs.map (Value.int .u8)).length = Z * 1 := by rw [List.length_map, hZ]; omega
  rw [← hZ] at hsz QS
  have HZ : Hid (Z = zs.length) := hZ
  have KK : Hid ((zs.map (Value.int .u8)).length = Z * 1 ∧ 0 + Z ≤ maxLen ∧ (0 + Z) * 1 ≤ 140737488355328) := ⟨k0, by unfold maxLen; omega, by omega⟩
  rw [← e0, ← e1, ← e2]
  obtain ⟨W0, hW0⟩ : ∃ W0, W0 = w.alloc (.cells #[.int .i64 x0, .int .i64 x1, .int .i64 x2, .slice (some ⟨bb, 0, none⟩) n3 c3, .slice a4 n4 c4, .slice a5 n5 c5] 35) := ⟨_, rfl⟩
  have bW0 : Below w.heap.size w W0 := by rw [hW0]; exact (Below.refl _ _).alloc (Nat.le_refl _) _
  have hbox : W0.heap[w.heap.size]? = some (.cells #[.int .i64 x0, .int .i64 x1, .int .i64 x2, .slice (some ⟨bb, 0, none⟩) n3 c3, .slice a4 n4 c4, .slice a5 n5 c5] 35 (0, 0)) := by rw [hW0]; exact heap_alloc_new w _
  have zW0 : W0.heap.size = w.heap.size + 1 := by rw [hW0]; simp
  have HW0 : Hid (W0 = w.alloc (.cells #[.int .i64 x0, .int .i64 x1, .int .i64 x2, .slice (some ⟨bb, 0, none⟩) n3 c3, .slice a4 n4 c4, .slice a5 n5 c5] 35)) := hW0
  have BX : Hid (∀ w', Below W0.heap.size W0 w' → w'.heap[w.heap.size]? = some (.cells #[.int .i64 x0, .int .i64 x1, .int .i64 x2, .slice (some ⟨bb, 0, none⟩) n3 c3, .slice a4 n4 c4, .slice a5 n5 c5] 35 (0, 0))) := fun w' h' => (h'.block _ (by omega)).trans hbox
  clear ho hs o3 o4 o5 e0 e1 e2 hok hL hW0 hbox hnd hin hId l3 hP hx hox ob hcell hzs hbd hZ k0 hh hda
  go_enter Try.func5, Try.ntmps5
  go_wp2_with fail
  rw [← HW0.out]
  refine (qdir.out _ bW0).mono ?_
  rintro e w1 ⟨a, n, c, rfl, r1, hb1⟩
  have d1 : Below W0.heap.size W0 w1 := hb1
  have R1 : Hid (Reads (.sl shLink) w1 [.slice a n c] L) := r1
  clear hb1 r1
  go_wp2_with fail
  refine (qF.out _ a n c R1.out).mono ?_
  rintro e w2 ⟨rfl, hb2⟩
  have d2 := d1.trans (hb2.mono d1.size)
  have b2 := bW0.trans (d2.mono bW0.size)
  clear hb2
  have hId0 : (Id == 0) = false := by simp; omega
  have i2 := BX.out w2 d2
  have y0 := box_cell (j := 0) i2 rfl
  have y1 := box_cell (j := 1) i2 rfl
  have y2 := box_cell (j := 2) i2 rfl
  have y3 := box_cell (j := 3) i2 rfl
  have y4 := box_cell (j := 4) i2 rfl
  have y5 := box_cell (j := 5) i2 rfl
  have g1 : w2.cell? ⟨bb, P * 3 + 1, none⟩ = some (.slice p1 m1 k1) := (b2.cell (p := ⟨bb, P * 3 + 1, none⟩) hb).trans HG.out
  have zlt : w.heap.size < w2.heap.size := by have := d2.size; omega
  have zbb : bb < w2.heap.size := by have := b2.size; omega
  have zb2 : w.heap.size ≤ w2.heap.size := by omega
  have hbb : Below w2.heap.size w2 w2 := Below.refl _ _
  have hm0 : (0 : Nat) ≤ maxLen := Nat.zero_le _
  clear i2
  go_wp2_with fail
  go_region_held3 (fun w' => w'.cell? ⟨w.heap.size, 0, none⟩ = some (.int .i64 x0) ∧ w'.cell? ⟨w.heap.size, 1, none⟩ = some (.int .i64 x1) ∧ w'.cell? ⟨w.heap.size, 2, none⟩ = some (.int .i64 x2) ∧ w'.cell? ⟨w.heap.size, 3, none⟩ = some (.slice (some ⟨bb, 0, none⟩) n3 c3) ∧ w'.cell? ⟨w.heap.size, 4, none⟩ = some (.slice a4 n4 c4) ∧ w'.cell? ⟨w.heap.size, 5, none⟩ = some (.slice a5 n5 c5) ∧ w'.cell? ⟨bb, P * 3 + 1, none⟩ = some (.slice p1 m1 k1))
    (first | go_keep | (refine ⟨?_, ?_, ?_, ?_, ?_, ?_, ?_⟩ <;> first | (refine (hb28.cell ?_).trans ?_; (simp; omega); assumption) | (refine (hb27.cell ?_).trans ?_; (simp; omega); assumption)))
    (first | ((go_at_call 18; refine (qAt.out _ ?_).mono ?_; (first | exact b2.drew | exact (b2.alloc zb2 _).drew); rintro e w7 ⟨rfl, hb7⟩; have hb27 : Below w2.heap.size w2 w7 := by (first | exact hbb.drew.trans (hb7.mono (by simp)) | exact ((hbb.alloc (Nat.le_refl _) _).drew).trans (hb7.mono (by simp))))) | ((refine step_append_src rfl _ _ 28 (by rfl) w2.heap.size 5 i0 (.int .u8 0) 1 1 Try.underlying28 hi hz0 hz1 hz2 rfl (by decide) (.slice (some ⟨w2.heap.size, 0, none⟩) 0 0) 0 [] (by rfl) (own_later (w := (w2.alloc (.cells #[] 5)).drew) (World.ownsRow_lit (base := w2.heap.size) (e := 5) (size := 1) w2 #[] 0 (Nat.le_refl _) hm0 rfl) hb7) (.slice p1 m1 k1) Z (zs.map (Value.int .u8)) (by rfl) KK.out.1 (QS.out _ (b2.trans (hb27.mono b2.size))) (bytes_one _) KK.out.2.1 KK.out.2.2 (hb27.size) ?_; intro v8 w8 hown8 hgrow8; have hb28 : Below w2.heap.size w2 w8 := hb27.grown hgrow8 hb27.size (fun k h => by simp [Value.ownBlock] at h; omega))) | ((refine step_append_src rfl _ _ 28 (by rfl) w2.heap.size 5 i0 (.int .u8 0) 1 1 Try.underlying28 hi hz0 hz1 hz2 rfl (by decide) (.slice (some ⟨w7.heap.size, 0, none⟩) 0 0) 0 [] (by rfl) (World.ownsRow_lit (base := w2.heap.size) (e := 5) (size := 1) w7 #[] 0 hb27.size hm0 rfl) (.slice p1 m1 k1) Z (zs.map (Value.int .u8)) (by rfl) KK.out.1 (QS.out _ ((b2.trans (hb27.mono b2.size)).alloc (Nat.le_trans b2.size hb27.size) _)) (bytes_one _) KK.out.2.1 KK.out.2.2 ((hb27.alloc hb27.size _).size) ?_; intro v8 w8 hown8 hgrow8; have hb28 : Below w2.heap.size w2 w8 := (hb27.alloc hb27.size _).grown hgrow8 (hb27.alloc hb27.size _).size (fun k h => by simp [Value.ownBlock] at h; have := hb27.size; omega))))
  all_goals
    have b8 := b2.trans (hb28.mono b2.size)
    obtain ⟨F8, p8, nd8⟩ := own_row (n := Z) (d := zs) HZ.out.symm HX.out.2.2 (by simpa using hown8)
    have p9 := p8.base zb2
    clear hown8 hgrow8 hb28 hb27 hb7 y0 y1 y2 y3 y4 y5 g1
    go_wp2
    go_ret2
    exact ⟨v8, F8, x, HX.out.1, rfl, by rw [← HX.out.2.1]; exact p9, nd8, b8⟩

end Go.Proofs.Ytmhlligmehbehaa
