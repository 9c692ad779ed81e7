/-
  Joined: RdS, Clone, CloneV, RdI, LDiskRead, WDiskRead, Put, Crc, FrP, RdA, Get, RfP, Ent, EnsP, EntC, ScP, PutY, PutI, PutV.
-/
import Derived.Test.YtkfmpfbhhmmllaaGreatJ8FnExactStoreOk
import Derived.Test.YtkfmpfbhhmmllaaGreatJ0FnExactStoreOk
import Derived.Laws.AppendOwnNone
import Derived.Lib.SliceRun
import Derived.Test.YtkfmpfbhhmmllaaGreatJ3FnExactStoreOk
import Derived.Test.YtkfmpfbhhmmllaaGreatJ7FnExactStoreOk
import Derived.Maps.AppendAt
import Derived.Test.YtkfmpfbhhmmllaaGreatJ4FnExactStoreOk
import Derived.Lib.AppendStr
import Derived.Laws.BytesArg
import Derived.Test.YtkfmpfbhhmmllaaGreatJ2FnExactStoreOk
/- RdS: DiskRead of the model. -/
namespace Go.Proofs.YtkfmpfbhhmmllaaGreat
open Go.RowKit
set_option linter.unusedVariables false

set_option maxRecDepth 100000 in
set_option maxHeartbeats 2000000 in
theorem specRead_none (cs : List Value) (d : shDisk.D) (name : ByteArray) (B : Nat) (G : List Nat) (w : World) (ho : Own shDisk w B cs d G) (hs : shDisk.sz d ≤ 1048576) (hno : specOkP d → hasL (dirL d.2.2.2.2.1 d.2.2.2.2.2.1) name = false) (hdec : specOkP d ∨ ¬ specOkP d) :
    Calls Tryz.prog 23 #[.agg cs.toArray, .string name] w fun e w' => e = .returned (.tuple #[.slice none 0 0, .bool false]) ∧ Below w.heap.size w w' := by
  obtain ⟨a3, n3, c3, F3, a4, n4, c4, F4, a5, n5, c5, F5, rfl, _, o3, o4, o5⟩ := openO_Disk ho
  have l3m : n3 ≤ c3 ∧ c3 ≤ maxLen := (reads_len o3.reads).2
  unfold maxLen at l3m
  obtain ⟨x0, e0⟩ : ∃ x : Int, x = d.1 := ⟨_, rfl⟩
  obtain ⟨x1, e1⟩ : ∃ x : Int, x = d.2.1 := ⟨_, rfl⟩
  obtain ⟨x2, e2⟩ : ∃ x : Int, x = d.2.2.1 := ⟨_, rfl⟩
  have qdir : Hid (∀ w', Below w.heap.size w w' → Calls Tryz.prog 55 #[.agg #[.int .i64 x0, .int .i64 x1, .int .i64 x2, .slice a3 n3 c3, .slice a4 n4 c4, .slice a5 n5 c5]] w' fun e w'' => ∃ (a : Option Addr) (n c : Nat) (l : List LinkD), e = .returned (.slice a n c) ∧ Reads (.sl shLink) w'' [.slice a n c] l ∧ findL l name = 0 ∧ Below w'.heap.size w' w'') := fun w' h' => by
    rw [e0, e1, e2]
    rcases hdec with h | h
    · refine (specDir_yes _ d B G w' (ho.later h') hs h).mono ?_
      rintro e w'' ⟨v, F, rfl, p, _, hb⟩
      obtain ⟨a, c, rfl, _⟩ := own_val p
      exact ⟨a, _, c, _, rfl, p.reads, findL_none (hno h), hb⟩
    · refine (specDir_no _ d w' (ho.reads.later h') hs h).mono ?_
      rintro e w'' ⟨rfl, hb⟩
      exact ⟨none, 0, 0, [], rfl, ⟨none, 0, rfl, Nat.le_refl _, Nat.zero_le _, .inl rfl⟩, rfl, hb⟩
  rw [← e0, ← e1, ← e2]
  have bW0 : Below w.heap.size w (w.alloc (.cells #[.int .i64 x0, .int .i64 x1, .int .i64 x2, .slice a3 n3 c3, .slice a4 n4 c4, .slice a5 n5 c5] 36)) := (Below.refl _ _).alloc (Nat.le_refl _) _
  clear ho hs o3 o4 o5 e0 e1 e2 hno hdec
  go_enter Tryz.func23, Tryz.ntmps23
  go_wp2_with fail
  refine (qdir.out _ bW0).mono ?_
  rintro e w1 ⟨a, n, c, l, rfl, r1, hf, hb1⟩
  have b1 := bW0.trans (hb1.mono bW0.size)
  have R1 : Hid (Reads (.sl shLink) w1 [.slice a n c] l) := r1
  clear hb1 r1
  go_wp2_with fail
  refine (specFind_ok a n c l name _ R1.out).mono ?_
  rintro e w2 ⟨rfl, hb2⟩
  have b2 := b1.trans (hb2.mono b1.size)
  clear hb2
  rw [hf]
  go_wp2
  go_ret2
  exact ⟨rfl, b2⟩

set_option maxRecDepth 100000 in
set_option maxHeartbeats 4000000 in
theorem specRead_yes (cs : List Value) (d : shDisk.D) (name : ByteArray) (B : Nat) (G : List Nat) (w : World) (ho : Own shDisk w B cs d G) (hs : shDisk.sz d ≤ 1048576) (hok : specOkP d) (hh : hasL (dirL d.2.2.2.2.1 d.2.2.2.2.2.1) name = true) :
    Calls Tryz.prog 23 #[.agg cs.toArray, .string name] w fun e w' => ∃ v F x, shNode.at d.2.2.2.1 (placeN d.2.2.2.1 (findL (dirL d.2.2.2.2.1 d.2.2.2.2.2.1) name)) = some x ∧ e = .returned (.tuple #[v, .bool true]) ∧ Own (.sl .u8) w' w.heap.size [v] x.2.1 F ∧ F.Nodup ∧ Below w.heap.size w w' := by
  obtain ⟨i0, hi, hz0, hz1, hz2⟩ := info_parts Tryz.infoB
  obtain ⟨a3, n3, c3, F3, a4, n4, c4, F4, a5, n5, c5, F5, rfl, _, o3, o4, o5⟩ := openO_Disk ho
  have l3m : n3 ≤ c3 ∧ c3 ≤ maxLen := (reads_len o3.reads).2
  unfold maxLen at l3m
  obtain ⟨x0, e0⟩ : ∃ x : Int, x = d.1 := ⟨_, rfl⟩
  obtain ⟨x1, e1⟩ : ∃ x : Int, x = d.2.1 := ⟨_, rfl⟩
  obtain ⟨x2, e2⟩ : ∃ x : Int, x = d.2.2.1 := ⟨_, rfl⟩
  obtain ⟨L, hL⟩ : ∃ L, L = dirL d.2.2.2.2.1 d.2.2.2.2.2.1 := ⟨_, rfl⟩
  have hda := dir_alike hok
  rw [← hL] at hda hh
  rw [← hL]
  have hin : placeN d.2.2.2.1 (findL L name) < List.length (α := NodeD) d.2.2.2.1 := by
    obtain ⟨x, hx, _, hx2⟩ := findL_mem hh
    have := hda.2.2 x hx
    rw [hx2] at this; exact this
  have hpos : 0 < findL L name := (findL_pos hda.2.1 name).1 hh
  obtain ⟨Id, hId⟩ : ∃ z, z = findL L name := ⟨_, rfl⟩
  rw [← hId] at hin hpos ⊢
  have qdir : Hid (∀ w', Below w.heap.size w w' → Calls Tryz.prog 55 #[.agg #[.int .i64 x0, .int .i64 x1, .int .i64 x2, .slice a3 n3 c3, .slice a4 n4 c4, .slice a5 n5 c5]] w' fun e w'' => ∃ (a : Option Addr) (n c : Nat), e = .returned (.slice a n c) ∧ Reads (.sl shLink) w'' [.slice a n c] L ∧ Below w'.heap.size w' w'') := fun w' h' => by
    rw [e0, e1, e2]
    refine (specDir_yes _ d B G w' (ho.later h') hs hok).mono ?_
    rintro e w'' ⟨v, F, rfl, p, _, hb⟩
    rw [← hL] at p
    obtain ⟨a, c, rfl, _⟩ := own_val p
    exact ⟨a, _, c, rfl, p.reads, hb⟩
  have qAt : Hid (∀ w', Below w.heap.size w w' → Calls Tryz.prog 56 #[.agg #[.int .i64 x0, .int .i64 x1, .int .i64 x2, .slice a3 n3 c3, .slice a4 n4 c4, .slice a5 n5 c5], .int .i64 Id] w' fun e w'' => e = .returned (.int .i64 (placeN d.2.2.2.1 Id)) ∧ Below w'.heap.size w' w'') := fun w' h' => by
    rw [e0, e1, e2]; exact specAt_ok _ d Id w' (ho.reads.later h') hs hin
  have qF : Hid (∀ w' a n c, Reads (.sl shLink) w' [.slice a n c] L → Calls Tryz.prog 54 #[.slice a n c, .string name] w' fun e w'' => e = .returned (.int .i64 Id) ∧ Below w'.heap.size w' w'') := fun w' a n c h => by rw [hId]; exact specFind_ok a n c L name w' h
  obtain ⟨nd, hnd⟩ : ∃ l : List NodeD, l = d.2.2.2.1 := ⟨_, rfl⟩
  rw [← hnd] at o3 hin qAt ⊢
  have l3 : nd.length = n3 := (reads_len o3.reads).1
  obtain ⟨P, hP⟩ : ∃ P, P = placeN nd Id := ⟨_, rfl⟩
  rw [← hP] at hin qAt ⊢
  obtain ⟨bb, cc, x, fx, ha3, hb, hx, hox, _, hcell⟩ := own_get o3 P (by omega)
  subst ha3
  have hsz : List.length (α := Int) x.2.1 ≤ 1048576 := by
    have h1 := hs
    rw [sz_Disk, ← hnd] at h1
    have h2 := sz_elem shNode nd P x hx
    have h3 : List.length (α := Int) x.2.1 ≤ shNode.sz x := (sz_len x).1
    have h4 : Sh.sz (.sl shNode) nd = List.length (α := NodeD) nd + (List.map shNode.sz nd).sum := rfl
    omega
  obtain ⟨zs, hzs⟩ : ∃ zs : List Int, zs = x.2.1 := ⟨_, rfl⟩
  rw [← hzs] at hsz
  obtain ⟨p1, m1, k1, f1, p2, m2, k2, f2, rfl, _, ob, _⟩ := openO_Node hox
  rw [← hzs] at ob
  have hbd : ∀ i : Nat, 0 ≤ zs[i]?.getD 0 ∧ zs[i]?.getD 0 ≤ 255 := (reads_bytes ob.reads).2.1.1
  have QS : Hid (∀ w', Below w.heap.size w w' → Src w' (.slice p1 m1 k1) zs.length (zs.map (Value.int .u8))) := fun w' h' => src_bytes (ob.later h')
  have HX : Hid (shNode.at nd P = some x ∧ zs = x.2.1 ∧ ∀ i : Nat, 0 ≤ zs[i]?.getD 0 ∧ zs[i]?.getD 0 ≤ 255) := ⟨hx, hzs, hbd⟩
  have HG : Hid (w.cell? ⟨bb, P * 3 + 1, none⟩ = some (.slice p1 m1 k1)) := hcell 1 (by decide)
  have hPn : (P : Int) < (n3 : Int) := by omega
  obtain ⟨Z, hZ⟩ : ∃ Z, Z = zs.length := ⟨_, rfl⟩
  have k0 : (zs.map (Value.int .u8)).length = Z * 1 := by rw [List.length_map, hZ]; omega
  rw [← hZ] at hsz QS
  have HZ : Hid (Z = zs.length) := hZ
  have KK : Hid ((zs.map (Value.int .u8)).length = Z * 1 ∧ 0 + Z ≤ maxLen ∧ (0 + Z) * 1 ≤ 140737488355328) := ⟨k0, by unfold maxLen; omega, by omega⟩
  rw [← e0, ← e1, ← e2]
  obtain ⟨W0, hW0⟩ : ∃ W0, W0 = w.alloc (.cells #[.int .i64 x0, .int .i64 x1, .int .i64 x2, .slice (some ⟨bb, 0, none⟩) n3 c3, .slice a4 n4 c4, .slice a5 n5 c5] 36) := ⟨_, rfl⟩
  have bW0 : Below w.heap.size w W0 := by rw [hW0]; exact (Below.refl _ _).alloc (Nat.le_refl _) _
  have hbox : W0.heap[w.heap.size]? = some (.cells #[.int .i64 x0, .int .i64 x1, .int .i64 x2, .slice (some ⟨bb, 0, none⟩) n3 c3, .slice a4 n4 c4, .slice a5 n5 c5] 36 (0, 0)) := by rw [hW0]; exact heap_alloc_new w _
  have zW0 : W0.heap.size = w.heap.size + 1 := by rw [hW0]; simp
  have HW0 : Hid (W0 = w.alloc (.cells #[.int .i64 x0, .int .i64 x1, .int .i64 x2, .slice (some ⟨bb, 0, none⟩) n3 c3, .slice a4 n4 c4, .slice a5 n5 c5] 36)) := hW0
  have BX : Hid (∀ w', Below W0.heap.size W0 w' → w'.heap[w.heap.size]? = some (.cells #[.int .i64 x0, .int .i64 x1, .int .i64 x2, .slice (some ⟨bb, 0, none⟩) n3 c3, .slice a4 n4 c4, .slice a5 n5 c5] 36 (0, 0))) := fun w' h' => (h'.block _ (by omega)).trans hbox
  clear ho hs o3 o4 o5 e0 e1 e2 hok hL hW0 hbox hnd hin hId l3 hP hx hox ob hcell hzs hbd hZ k0 hh hda
  go_enter Tryz.func23, Tryz.ntmps23
  go_wp2_with fail
  rw [← HW0.out]
  refine (qdir.out _ bW0).mono ?_
  rintro e w1 ⟨a, n, c, rfl, r1, hb1⟩
  have d1 : Below W0.heap.size W0 w1 := hb1
  have R1 : Hid (Reads (.sl shLink) w1 [.slice a n c] L) := r1
  clear hb1 r1
  go_wp2_with fail
  refine (qF.out _ a n c R1.out).mono ?_
  rintro e w2 ⟨rfl, hb2⟩
  have d2 := d1.trans (hb2.mono d1.size)
  have b2 := bW0.trans (d2.mono bW0.size)
  clear hb2
  have hId0 : (Id == 0) = false := by simp; omega
  have i2 := BX.out w2 d2
  have y0 := box_cell (j := 0) i2 rfl
  have y1 := box_cell (j := 1) i2 rfl
  have y2 := box_cell (j := 2) i2 rfl
  have y3 := box_cell (j := 3) i2 rfl
  have y4 := box_cell (j := 4) i2 rfl
  have y5 := box_cell (j := 5) i2 rfl
  have g1 : w2.cell? ⟨bb, P * 3 + 1, none⟩ = some (.slice p1 m1 k1) := (b2.cell (p := ⟨bb, P * 3 + 1, none⟩) hb).trans HG.out
  have zlt : w.heap.size < w2.heap.size := by have := d2.size; omega
  have zbb : bb < w2.heap.size := by have := b2.size; omega
  have zb2 : w.heap.size ≤ w2.heap.size := by omega
  have hbb : Below w2.heap.size w2 w2 := Below.refl _ _
  have hm0 : (0 : Nat) ≤ maxLen := Nat.zero_le _
  clear i2
  go_wp2_with fail
  go_region_held3 (fun w' => w'.cell? ⟨w.heap.size, 0, none⟩ = some (.int .i64 x0) ∧ w'.cell? ⟨w.heap.size, 1, none⟩ = some (.int .i64 x1) ∧ w'.cell? ⟨w.heap.size, 2, none⟩ = some (.int .i64 x2) ∧ w'.cell? ⟨w.heap.size, 3, none⟩ = some (.slice (some ⟨bb, 0, none⟩) n3 c3) ∧ w'.cell? ⟨w.heap.size, 4, none⟩ = some (.slice a4 n4 c4) ∧ w'.cell? ⟨w.heap.size, 5, none⟩ = some (.slice a5 n5 c5) ∧ w'.cell? ⟨bb, P * 3 + 1, none⟩ = some (.slice p1 m1 k1))
    (first | go_keep | (refine ⟨?_, ?_, ?_, ?_, ?_, ?_, ?_⟩ <;> first | (refine (hb28.cell ?_).trans ?_; (simp; omega); assumption) | (refine (hb27.cell ?_).trans ?_; (simp; omega); assumption)))
    (first | ((go_at_call 56; refine (qAt.out _ ?_).mono ?_; (first | exact b2.drew | exact (b2.alloc zb2 _).drew); rintro e w7 ⟨rfl, hb7⟩; have hb27 : Below w2.heap.size w2 w7 := by (first | exact hbb.drew.trans (hb7.mono (by simp)) | exact ((hbb.alloc (Nat.le_refl _) _).drew).trans (hb7.mono (by simp))))) | ((refine step_append_src rfl _ _ 55 (by rfl) w2.heap.size 5 i0 (.int .u8 0) 1 1 Tryz.underlying55 hi hz0 hz1 hz2 rfl (by decide) (.slice (some ⟨w2.heap.size, 0, none⟩) 0 0) 0 [] (by rfl) (own_later (w := (w2.alloc (.cells #[] 5)).drew) (World.ownsRow_lit (base := w2.heap.size) (e := 5) (size := 1) w2 #[] 0 (Nat.le_refl _) hm0 rfl) hb7) (.slice p1 m1 k1) Z (zs.map (Value.int .u8)) (by rfl) KK.out.1 (QS.out _ (b2.trans (hb27.mono b2.size))) (bytes_one _) KK.out.2.1 KK.out.2.2 (hb27.size) ?_; intro v8 w8 hown8 hgrow8; have hb28 : Below w2.heap.size w2 w8 := hb27.grown hgrow8 hb27.size (fun k h => by simp [Value.ownBlock] at h; omega))) | ((refine step_append_src rfl _ _ 55 (by rfl) w2.heap.size 5 i0 (.int .u8 0) 1 1 Tryz.underlying55 hi hz0 hz1 hz2 rfl (by decide) (.slice (some ⟨w7.heap.size, 0, none⟩) 0 0) 0 [] (by rfl) (World.ownsRow_lit (base := w2.heap.size) (e := 5) (size := 1) w7 #[] 0 hb27.size hm0 rfl) (.slice p1 m1 k1) Z (zs.map (Value.int .u8)) (by rfl) KK.out.1 (QS.out _ ((b2.trans (hb27.mono b2.size)).alloc (Nat.le_trans b2.size hb27.size) _)) (bytes_one _) KK.out.2.1 KK.out.2.2 ((hb27.alloc hb27.size _).size) ?_; intro v8 w8 hown8 hgrow8; have hb28 : Below w2.heap.size w2 w8 := (hb27.alloc hb27.size _).grown hgrow8 (hb27.alloc hb27.size _).size (fun k h => by simp [Value.ownBlock] at h; have := hb27.size; omega))))
  all_goals
    have b8 := b2.trans (hb28.mono b2.size)
    obtain ⟨F8, p8, nd8⟩ := own_row (n := Z) (d := zs) HZ.out.symm HX.out.2.2 (by simpa using hown8)
    have p9 := p8.base zb2
    clear hown8 hgrow8 hb28 hb27 hb7 y0 y1 y2 y3 y4 y5 g1
    go_wp2
    go_ret2
    exact ⟨v8, F8, x, HX.out.1, rfl, by rw [← HX.out.2.1]; exact p9, nd8, b8⟩

end Go.Proofs.YtkfmpfbhhmmllaaGreat

/- Clone: bytes.Clone, and the cells of a slice of bytes as the source of an append. -/
namespace Go.Proofs.YtkfmpfbhhmmllaaGreat
open Go.RowKit
set_option linter.unusedVariables false

theorem rd_take {w : World} {a : Option Addr} {zs : List Int} (h : Rd w a zs) (j : Nat) : Rd w a (zs.take j) := by
  obtain ⟨h1, h2⟩ := h
  refine ⟨fun i => ?_, ?_⟩
  · by_cases hi : i < j
    · rw [List.getElem?_take_of_lt hi]; exact h1 i
    · rw [List.getElem?_eq_none (by simp; omega)]; simp
  · rcases h2 with rfl | ⟨b, off, h3, h4, h5⟩
    · exact .inl (by simp)
    · refine .inr ⟨b, off, h3, h4, fun i hi => ?_⟩
      rw [List.length_take] at hi
      rw [List.getElem?_take_of_lt (by omega)]
      exact h5 i (by omega)

theorem rd_src {w : World} {ad : Addr} {zs : List Int} (h : Rd w (some ad) zs) : ∀ (j : Nat) (u : Value), (zs.map (Value.int .u8))[j]? = some u → w.cell? (ad.add j) = some u := by
  intro j u hu
  rcases h.2 with rfl | ⟨b, off, h3, h4, h5⟩
  · simp at hu
  · obtain rfl : ad = ⟨b, off, none⟩ := Option.some.inj h3
    have hj : j < zs.length := by
      have := (List.getElem?_eq_some_iff.1 hu).1
      simpa using this
    have e : (⟨b, off, none⟩ : Addr).add j = ⟨b, off + j, none⟩ := by cases j <;> simp [Addr.add]
    rw [e, h5 j hj]
    rw [List.getElem?_map] at hu
    rw [List.getElem?_eq_getElem hj] at hu ⊢
    simpa using hu

theorem bytes_oneCell (zs : List Int) : ∀ u ∈ zs.map (Value.int .u8), u.oneCell' = true := by
  intro u hu
  simp at hu
  obtain ⟨z, _, rfl⟩ := hu
  rfl

theorem rd_none {w : World} {zs : List Int} (h : Rd w none zs) : zs = [] := by
  rcases h.2 with h | ⟨b, off, h, _⟩
  · exact h
  · cases h

set_option maxHeartbeats 1000000 in
theorem clone_any (a : Option Addr) (n cap : Nat) (zs : List Int) (w : World) (hl : Hid (zs.length = n)) (hr : Rd w a zs) (hn : n ≤ 2097152) :
    Calls Tryz.prog 101 #[.slice a n cap] w fun e w' => ∃ v, e = .returned v ∧ w'.ownsRow w.heap.size 5 1 v n (zs.map (Value.int .u8)) ∧ Below w.heap.size w w' := by
  obtain ⟨i0, hi, hz0, hz1, hz2⟩ := info_parts Tryz.infoB
  have hm0 : (0 : Nat) ≤ maxLen := Nat.zero_le _
  have hown00 := World.ownsRow_lit (base := w.heap.size) (e := 5) (size := 1) w #[] 0 (Nat.le_refl _) hm0 rfl
  have q22 : ∀ (w : World) (a : Option Addr) (n c n' c' : Nat), (binOp .eql 55 (.slice a n c) (.slice none n' c')).run Tryz.prog w = .ok (.bool a.isNone) w := fun w a n c n' c' => Lib.run_eql_slice_nil w _ _ a n c n' c' Tryz.underlying55
  cases a with
  | none =>
    have hz := rd_none hr
    subst hz
    have h0 : n = 0 := by have := hl.out; simpa using this.symm
    subst h0
    go_enter Tryz.func101, Tryz.ntmps101
    go_wp2
    go_ret
    exact ⟨_, rfl, ⟨by simp, .inl ⟨rfl, rfl⟩⟩, Below.refl _ _⟩
  | some ad =>
    have hsrc := rd_src (hr.later ((Below.refl w.heap.size w).alloc (Nat.le_refl _) (.cells #[] 5)))
    go_enter Tryz.func101, Tryz.ntmps101
    have k0 : (zs.map (Value.int .u8)).length = n * 1 := by simp; exact hl.out
    have k3 : 0 + n ≤ maxLen := by unfold maxLen; omega
    have k4 : (0 + n) * 1 ≤ 140737488355328 := by omega
    have k5 : w.heap.size ≤ (w.alloc (.cells #[] 5)).heap.size := by simp
    have K5 : Hid (_ ∧ _ ∧ _ ∧ _ ∧ _) := ⟨k0, hsrc, k3, k4, k5⟩
    clear k0 k3 k4 k5 hsrc
    go_wp2_with (at_builtin; refine wpList_append_own _ rfl _ _ 55 rfl w.heap.size 5 i0 (.int .u8 0) 1 1 Tryz.underlying55 hi hz0 hz1 hz2 rfl (by decide) _ _ _ rfl hown00 ad n _ (zs.map (Value.int .u8)) rfl K5.out.1 K5.out.2.1 (bytes_oneCell _) K5.out.2.2.1 K5.out.2.2.2.1 K5.out.2.2.2.2 ?_)
    intro v0 w1 hown1 hgrow1 _
    have hbel1 : Below w.heap.size w w1 := ((Below.refl _ _).alloc (Nat.le_refl _) _).grown hgrow1 (by simp) (fun k h => by simp [Value.ownBlock] at h; omega)
    go_wp2
    go_ret
    exact ⟨_, rfl, by simpa using hown1, hbel1⟩

end Go.Proofs.YtkfmpfbhhmmllaaGreat

/- CloneV: bytes.Clone in the words of shapes. -/
namespace Go.Proofs.YtkfmpfbhhmmllaaGreat
open Go.RowKit
set_option linter.unusedVariables false

theorem clone_v (v : Value) (zs : List Int) (w : World) (h : Reads (.sl .u8) w [v] zs) (hn : zs.length ≤ 2097152) :
    Calls Tryz.prog 101 #[v] w fun e w' => ∃ v' F, e = .returned v' ∧ Own (.sl .u8) w' w.heap.size [v'] zs F ∧ F.Nodup ∧ Below w.heap.size w w' := by
  obtain ⟨a, c, hv, _, _⟩ := reads_val h
  have hv' : v = .slice a zs.length c := hv
  subst hv'
  obtain ⟨_, hrd, _, _⟩ := reads_bytes h
  refine (clone_any a _ c zs w rfl hrd hn).mono ?_
  rintro e w' ⟨v', rfl, ho, hb⟩
  obtain ⟨F, hF, hnd⟩ := own_row rfl hrd.1 ho
  exact ⟨v', F, rfl, hF, hnd, hb⟩

end Go.Proofs.YtkfmpfbhhmmllaaGreat

/- RdI: nodePlace and DiskRead of the program. -/
namespace Go.Proofs.YtkfmpfbhhmmllaaGreat
open Go.RowKit
set_option linter.unusedVariables false

set_option maxHeartbeats 1000000 in
theorem placeClosure_ok (id y0 : Int) (p1 : Option Addr) (m1 k1 : Nat) (p2 : Option Addr) (m2 k2 : Nat) (b : Nat) (w : World) (hb : b < w.heap.size) (hc : w.cell? ⟨b, 0, none⟩ = some (.int .i64 id)) :
    Calls Tryz.prog 113 #[.agg #[.int .i64 y0, .slice p1 m1 k1, .slice p2 m2 k2], .pointer (some ⟨b, 0, none⟩)] w fun e w' => e = .returned (.bool (y0 == id)) ∧ Below w.heap.size w w' := by
  have bA : Below w.heap.size w (w.alloc (.cells #[.int .i64 y0, .slice p1 m1 k1, .slice p2 m2 k2] 83)) := (Below.refl _ _).alloc (Nat.le_refl _) _
  go_enter Tryz.func113, Tryz.ntmps113
  go_wp2
  go_ret
  exact ⟨rfl, bA⟩

set_option maxRecDepth 100000 in
set_option maxHeartbeats 2000000 in
theorem indexFunc_ok (a3 : Option Addr) (n3 c3 : Nat) (nd : List NodeD) (id : Int) (b : Nat) (w : World) (r3 : Reads (.sl shNode) w [.slice a3 n3 c3] nd) (hb0 : b < w.heap.size) (hc0 : w.cell? ⟨b, 0, none⟩ = some (.int .i64 id)) (hin : placeN nd id < nd.length) :
    Calls Tryz.prog 112 #[.slice a3 n3 c3, .func (.func 113) #[] #[.pointer (some ⟨b, 0, none⟩)]] w fun e w' => e = .returned (.int .i64 (placeN nd id)) ∧ Below w.heap.size w w' := by
  have l3 : nd.length = n3 := (reads_len r3).1
  have l3m : n3 ≤ c3 ∧ c3 ≤ maxLen := (reads_len r3).2
  unfold maxLen at l3m
  obtain ⟨Q, hQ⟩ : ∃ Q, Q = placeN nd id := ⟨_, rfl⟩
  have HNE : Hid (∀ k (hk : k < nd.length), k < Q → (nd[k]).1 ≠ id) := fun k hk h => placeN_ne (by omega) hk
  have HEQ : Hid (∀ hk : Q < nd.length, (nd[Q]).1 = id) := fun hk => by subst hQ; exact placeN_at hk
  have HR : Hid (Reads (.sl shNode) w [.slice a3 n3 c3] nd) := r3
  have HL : Hid (nd.length = n3) := l3
  rw [← hQ] at hin ⊢
  have hQn : Q < n3 := by omega
  have HC : Hid (w.cell? ⟨b, 0, none⟩ = some (.int .i64 id)) := hc0
  clear r3 hQ hin l3 hc0
  go_enter Tryz.func112, Tryz.ntmps112
  go_wp2
  go_loopw [8] (fun i wr => ∃ k : Nat, k ≤ Q ∧ i = .int .i64 k ∧ Below w.heap.size w wr) (fun i _ => n3 - (intOf i).toNat)
  case atStart => exact ⟨0, Nat.zero_le _, rfl, Below.refl _ _⟩
  case round =>
    obtain ⟨k, hk, rfl, hbel⟩ := hrel
    have hbs := hbel.size
    obtain ⟨bb, off, cc, x, rfl, hb, hx, hrx, hcell⟩ := reads_elem HR.out k (by omega)
    obtain ⟨p1, m1, k1, p2, m2, k2, rfl, _, _⟩ := open_Node hrx
    obtain ⟨hkd, hxe⟩ := at_some' hx
    obtain ⟨y0, ey0⟩ : ∃ y : Int, y = x.1 := ⟨_, rfl⟩
    have hy : (nd[k]'hkd).1 = y0 := by rw [ey0]; exact congrArg Prod.fst hxe
    have g0 : wr.cell? ⟨bb, off + k * 3, none⟩ = some (.int .i64 y0) := by rw [ey0]; exact (hbel.cell (p := ⟨bb, off + (k * 3 + 0), none⟩) hb).trans (hcell 0 (by decide))
    have g1 : wr.cell? ⟨bb, off + k * 3 + 1, none⟩ = some (.slice p1 m1 k1) := (hbel.cell (p := ⟨bb, off + (k * 3 + 1), none⟩) hb).trans (hcell 1 (by decide))
    have g2 : wr.cell? ⟨bb, off + k * 3 + 2, none⟩ = some (.slice p2 m2 k2) := (hbel.cell (p := ⟨bb, off + (k * 3 + 2), none⟩) hb).trans (hcell 2 (by decide))
    have hkn : (k : Int) < (n3 : Int) := by omega
    have hcr : Hid (wr.cell? ⟨b, 0, none⟩ = some (.int .i64 id)) := (hbel.cell (p := ⟨b, 0, none⟩) hb0).trans HC.out
    by_cases hlt : k < Q
    · have hne : (y0 == id) = false := by have := HNE.out k hkd hlt; rw [hy] at this; simpa using this
      clear hcell hrx hx hxe ey0 hy
      go_wp2_with fail
      refine (placeClosure_ok id y0 p1 m1 k1 p2 m2 k2 b _ (by omega) hcr.out).mono ?_
      rintro e w1 ⟨rfl, hb1⟩
      have b1 := hbel.trans (hb1.mono hbs)
      clear hb1 g0 g1 g2
      go_wp2
      go_roundw
      case rel => exact ⟨k + 1, by omega, by go_num, b1⟩
      case measure => simp [intOf]; omega
    · have e : k = Q := by omega
      subst e
      have hne : (y0 == id) = true := by have := HEQ.out hkd; rw [hy] at this; simpa using this
      clear hcell hrx hx hxe ey0 hy
      go_wp2_with fail
      refine (placeClosure_ok id y0 p1 m1 k1 p2 m2 k2 b _ (by omega) hcr.out).mono ?_
      rintro e w1 ⟨rfl, hb1⟩
      have b1 := hbel.trans (hb1.mono hbs)
      clear hb1 g0 g1 g2
      go_wp2
      go_ret
      exact ⟨rfl, b1⟩

set_option maxRecDepth 100000 in
set_option maxHeartbeats 2000000 in
theorem nodePlace_ok (a3 : Option Addr) (n3 c3 : Nat) (nd : List NodeD) (id : Int) (w : World) (r3 : Reads (.sl shNode) w [.slice a3 n3 c3] nd) (hin : placeN nd id < nd.length) :
    Calls Tryz.prog 102 #[.slice a3 n3 c3, .int .i64 id] w fun e w' => e = .returned (.int .i64 (placeN nd id)) ∧ Below w.heap.size w w' := by
  have bA : Below w.heap.size w (w.alloc (.cells #[.int .i64 id] 3)) := (Below.refl _ _).alloc (Nat.le_refl _) _
  have q := indexFunc_ok a3 n3 c3 nd id w.heap.size (w.alloc (.cells #[.int .i64 id] 3)) (r3.later bA) (by simp) (box_cell (heap_alloc_new w _) rfl) hin
  have HQ : Hid (Calls Tryz.prog 112 #[.slice a3 n3 c3, .func (.func 113) #[] #[.pointer (some ⟨w.heap.size, 0, none⟩)]] (w.alloc (.cells #[.int .i64 id] 3)) fun e w' => e = .returned (.int .i64 (placeN nd id)) ∧ Below (w.alloc (.cells #[.int .i64 id] 3)).heap.size (w.alloc (.cells #[.int .i64 id] 3)) w') := q
  clear q r3 hin
  go_enter Tryz.func102, Tryz.ntmps102
  go_wp2_with fail
  refine HQ.out.mono ?_
  rintro e w1 ⟨rfl, hb1⟩
  have b1 := bA.trans (hb1.mono bA.size)
  go_wp2
  go_ret
  exact ⟨rfl, b1⟩

set_option maxRecDepth 100000 in
set_option maxHeartbeats 2000000 in
theorem implRead_bad (cs : List Value) (d : shDisk.D) (name : ByteArray) (B : Nat) (G : List Nat) (w : World) (ho : Own shDisk w B cs d G) (hs : shDisk.sz d ≤ 1048576) (hok : implOkB d = false) :
    Calls Tryz.prog 67 #[.agg cs.toArray, .string name] w fun e w' => e = .returned (.tuple #[.slice none 0 0, .bool false]) ∧ Below w.heap.size w w' := by
  obtain ⟨a3, n3, c3, F3, a4, n4, c4, F4, a5, n5, c5, F5, rfl, _, o3, o4, o5⟩ := openO_Disk ho
  have l3m : n3 ≤ c3 ∧ c3 ≤ maxLen := (reads_len o3.reads).2
  unfold maxLen at l3m
  obtain ⟨x0, e0⟩ : ∃ x : Int, x = d.1 := ⟨_, rfl⟩
  obtain ⟨x1, e1⟩ : ∃ x : Int, x = d.2.1 := ⟨_, rfl⟩
  obtain ⟨x2, e2⟩ : ∃ x : Int, x = d.2.2.1 := ⟨_, rfl⟩
  have qok : Hid (∀ w', Below w.heap.size w w' → Calls Tryz.prog 26 #[.agg #[.int .i64 x0, .int .i64 x1, .int .i64 x2, .slice a3 n3 c3, .slice a4 n4 c4, .slice a5 n5 c5]] w' fun e w'' => e = .returned (.bool false) ∧ Below w'.heap.size w' w'') := fun w' h' => by
    rw [e0, e1, e2, ← hok]; exact implOk_ok _ d w' (ho.reads.later h') hs
  rw [← e0, ← e1, ← e2]
  have bW0 : Below w.heap.size w (w.alloc (.cells #[.int .i64 x0, .int .i64 x1, .int .i64 x2, .slice a3 n3 c3, .slice a4 n4 c4, .slice a5 n5 c5] 36)) := (Below.refl _ _).alloc (Nat.le_refl _) _
  clear ho hs o3 o4 o5 e0 e1 e2 hok
  go_enter Tryz.func67, Tryz.ntmps67
  go_wp2_with fail
  refine (qok.out _ bW0).mono ?_
  rintro e w1 ⟨rfl, hb1⟩
  have b1 := bW0.trans (hb1.mono bW0.size)
  clear hb1
  go_wp2
  go_ret2
  exact ⟨rfl, b1⟩

set_option maxRecDepth 100000 in
set_option maxHeartbeats 4000000 in
theorem implRead_good (cs : List Value) (d : shDisk.D) (name : ByteArray) (B : Nat) (G : List Nat) (w : World) (ho : Own shDisk w B cs d G) (hs : shDisk.sz d ≤ 1048576) (hok : implOkB d = true) (hname : name.size ≤ maxLen)
    (M : List LinkD) (hM : M = dirF (List.reverse (α := LinkD) d.2.2.2.2.1) d.2.2.2.2.2.1) (hin : hasL M name = true → placeN d.2.2.2.1 (findL M name) < List.length (α := NodeD) d.2.2.2.1) :
    Calls Tryz.prog 67 #[.agg cs.toArray, .string name] w fun e w' => Below w.heap.size w w' ∧ ((hasL M name = false ∧ e = .returned (.tuple #[.slice none 0 0, .bool false])) ∨
      ∃ v F x, hasL M name = true ∧ shNode.at d.2.2.2.1 (placeN d.2.2.2.1 (findL M name)) = some x ∧ e = .returned (.tuple #[v, .bool true]) ∧ Own (.sl .u8) w' w.heap.size [v] x.2.1 F ∧ F.Nodup) := by
  obtain ⟨a3, n3, c3, F3, a4, n4, c4, F4, a5, n5, c5, F5, rfl, _, o3, o4, o5⟩ := openO_Disk ho
  have l3m : n3 ≤ c3 ∧ c3 ≤ maxLen := (reads_len o3.reads).2
  unfold maxLen at l3m
  obtain ⟨x0, e0⟩ : ∃ x : Int, x = d.1 := ⟨_, rfl⟩
  obtain ⟨x1, e1⟩ : ∃ x : Int, x = d.2.1 := ⟨_, rfl⟩
  obtain ⟨x2, e2⟩ : ∃ x : Int, x = d.2.2.1 := ⟨_, rfl⟩
  have qok : Hid (∀ w', Below w.heap.size w w' → Calls Tryz.prog 26 #[.agg #[.int .i64 x0, .int .i64 x1, .int .i64 x2, .slice a3 n3 c3, .slice a4 n4 c4, .slice a5 n5 c5]] w' fun e w'' => e = .returned (.bool true) ∧ Below w'.heap.size w' w'') := fun w' h' => by
    rw [e0, e1, e2, ← hok]; exact implOk_ok _ d w' (ho.reads.later h') hs
  have s45 : n4 + n5 ≤ 1048576 := by
    have h1 := hs
    rw [sz_Disk] at h1
    have l4 : List.length (α := LinkD) d.2.2.2.2.1 = n4 := (reads_len o4.reads).1
    have l5 : List.length (α := TurnD) d.2.2.2.2.2.1 = n5 := (reads_len o5.reads).1
    have s4 : List.length (α := LinkD) d.2.2.2.2.1 ≤ Sh.sz (.sl shLink) d.2.2.2.2.1 := Nat.le_add_right _ _
    have s5 : List.length (α := TurnD) d.2.2.2.2.2.1 ≤ Sh.sz (.sl shTurn) d.2.2.2.2.2.1 := Nat.le_add_right _ _
    omega
  have qdir : Hid (∀ w', Below w.heap.size w w' → Calls Tryz.prog 91 #[.slice a4 n4 c4, .slice a5 n5 c5] w' fun e w'' => e = .returned (.map (some w'.heap.size)) ∧ MapIs w'' w'.heap.size (n4 + n5) M ∧ Below w'.heap.size w' w'') := fun w' h' => by
    rw [hM]; exact directory_ok a4 n4 c4 _ a5 n5 c5 _ w' (o4.reads.later h') (o5.reads.later h') s45
  obtain ⟨nd, hnd⟩ : ∃ l : List NodeD, l = d.2.2.2.1 := ⟨_, rfl⟩
  rw [← hnd] at o3 hin ⊢
  have l3 : nd.length = n3 := (reads_len o3.reads).1
  obtain ⟨Id, hId⟩ : ∃ z, z = findL M name := ⟨_, rfl⟩
  rw [← hId] at hin ⊢
  have qpl : Hid (hasL M name = true → ∀ w', Below w.heap.size w w' → Calls Tryz.prog 102 #[.slice a3 n3 c3, .int .i64 Id] w' fun e w'' => e = .returned (.int .i64 (placeN nd Id)) ∧ Below w'.heap.size w' w'') := fun hh w' h' => nodePlace_ok a3 n3 c3 nd Id w' (o3.reads.later h') (hin hh)
  have HO : Hid (Own (.sl shNode) w B [.slice a3 n3 c3] nd F3 ∧ (hasL M name = true → placeN nd Id < n3)) := ⟨o3, fun h => by have := hin h; omega⟩
  have HID : Hid (Id = findL M name) := hId
  have HSZ : Hid (∀ (i : Nat) (x : shNode.D), shNode.at nd i = some x → List.length (α := Int) x.2.1 ≤ 1048576) := fun i x hx => by
    have h1 := hs
    rw [sz_Disk, ← hnd] at h1
    have h2 := sz_elem shNode nd i x hx
    have h3 : List.length (α := Int) x.2.1 ≤ shNode.sz x := (sz_len x).1
    have h4 : Sh.sz (.sl shNode) nd = List.length (α := NodeD) nd + (List.map shNode.sz nd).sum := rfl
    omega
  rw [← e0, ← e1, ← e2]
  obtain ⟨W0, hW0⟩ : ∃ W0, W0 = w.alloc (.cells #[.int .i64 x0, .int .i64 x1, .int .i64 x2, .slice a3 n3 c3, .slice a4 n4 c4, .slice a5 n5 c5] 36) := ⟨_, rfl⟩
  have bW0 : Below w.heap.size w W0 := by rw [hW0]; exact (Below.refl _ _).alloc (Nat.le_refl _) _
  have hbox : W0.heap[w.heap.size]? = some (.cells #[.int .i64 x0, .int .i64 x1, .int .i64 x2, .slice a3 n3 c3, .slice a4 n4 c4, .slice a5 n5 c5] 36 (0, 0)) := by rw [hW0]; exact heap_alloc_new w _
  have zW0 : W0.heap.size = w.heap.size + 1 := by rw [hW0]; simp
  have HW0 : Hid (W0 = w.alloc (.cells #[.int .i64 x0, .int .i64 x1, .int .i64 x2, .slice a3 n3 c3, .slice a4 n4 c4, .slice a5 n5 c5] 36)) := hW0
  have BX : Hid (∀ w', Below W0.heap.size W0 w' → w'.heap[w.heap.size]? = some (.cells #[.int .i64 x0, .int .i64 x1, .int .i64 x2, .slice a3 n3 c3, .slice a4 n4 c4, .slice a5 n5 c5] 36 (0, 0))) := fun w' h' => (h'.block _ (by omega)).trans hbox
  clear ho hs o3 o4 o5 e0 e1 e2 hok hM hW0 hbox hnd hin hId l3
  go_enter Tryz.func67, Tryz.ntmps67
  go_wp2_with fail
  rw [← HW0.out]
  refine (qok.out _ bW0).mono ?_
  rintro e w1 ⟨rfl, hb1⟩
  have i1 := BX.out w1 hb1
  have b1 := bW0.trans (hb1.mono bW0.size)
  have d1 : Below W0.heap.size W0 w1 := hb1
  have y0 := box_cell (j := 0) i1 rfl
  have y1 := box_cell (j := 1) i1 rfl
  have y2 := box_cell (j := 2) i1 rfl
  have y3 := box_cell (j := 3) i1 rfl
  have y4 := box_cell (j := 4) i1 rfl
  have y5 := box_cell (j := 5) i1 rfl
  clear i1 hb1
  go_wp2_with fail
  refine (qdir.out _ b1).mono ?_
  rintro e w2 ⟨rfl, hm2, hb2⟩
  have d2 := d1.trans (hb2.mono d1.size)
  have b2 := b1.trans (hb2.mono b1.size)
  have HM : Hid (MapIs w2 w1.heap.size (n4 + n5) M) := hm2
  clear hb2 y0 y1 y2 y3 y4 y5 hm2
  have hidr : findL M name = Id := HID.out.symm
  cases hh : hasL M name with
  | false =>
    go_wp2_with (at_lookup; refine wp_look_ok _ rfl _ _ rfl w1.heap.size (n4 + n5) M rfl HM.out name rfl hname ?_)
    go_ret2
    exact ⟨b2, .inl ⟨hh, rfl⟩⟩
  | true =>
    go_wp2_with (first | (at_lookup; refine wp_look_ok _ rfl _ _ rfl w1.heap.size (n4 + n5) M rfl HM.out name rfl hname ?_) | fail)
    clear hidr
    have HH : Hid (hasL M name = true) := hh
    have hpl := HO.out.2 hh
    have qp := qpl.out hh
    obtain ⟨bb, off, cc, x, ha3, hb, hx, hrx, hcell⟩ := reads_elem HO.out.1.reads (placeN nd Id) hpl
    subst ha3
    obtain ⟨p1, m1, k1, p2, m2, k2, rfl, rb, _⟩ := open_Node hrx
    have HB : Hid (∀ w', Below w.heap.size w w' → Calls Tryz.prog 101 #[.slice p1 m1 k1] w' fun e w'' => ∃ v' F, e = .returned v' ∧ Own (.sl .u8) w'' w'.heap.size [v'] x.2.1 F ∧ F.Nodup ∧ Below w'.heap.size w' w'') :=
      fun w' h' => clone_v _ x.2.1 w' (rb.later h') (by have := HSZ.out _ x hx; omega)
    obtain ⟨P, hP⟩ : ∃ P, P = placeN nd Id := ⟨_, rfl⟩
    have HP : Hid (P = placeN nd Id) := hP
    rw [← hP] at hpl qp hcell hx
    have HX : Hid (shNode.at nd P = some x) := hx
    have QP : Hid (∀ w', Below w.heap.size w w' → Calls Tryz.prog 102 #[.slice (some ⟨bb, off, none⟩) n3 c3, .int .i64 Id] w' fun e w'' => e = .returned (.int .i64 P) ∧ Below w'.heap.size w' w'') := qp
    have hplI : (P : Int) < (n3 : Int) := by omega
    have g1 : w2.cell? ⟨bb, off + P * 3 + 1, none⟩ = some (.slice p1 m1 k1) := (b2.cell (p := ⟨bb, off + (P * 3 + 1), none⟩) hb).trans (hcell 1 (by decide))
    have i2 := BX.out w2 d2
    have y3 := box_cell (j := 3) i2 rfl
    have zlt : w.heap.size < w2.heap.size := by have := d2.size; omega
    have zbb : bb < w2.heap.size := by have := b2.size; omega
    have hbb : Below w2.heap.size w2 w2 := Below.refl _ _
    clear hcell hrx hx rb qp hP i2 hh qpl
    go_region_held (fun w' => w'.cell? ⟨w.heap.size, 3, none⟩ = some (.slice (some ⟨bb, off, none⟩) n3 c3) ∧ w'.cell? ⟨bb, off + P * 3 + 1, none⟩ = some (.slice p1 m1 k1))
      (first | go_keep | (refine ⟨?_, ?_⟩ <;> first | (refine (hb7.cell ?_).trans ?_; (have h6 := hb6.size; simp at h6 ⊢; omega); assumption) | (refine (hb6.cell ?_).trans ?_; (simp; omega); assumption)))
      (first | ((go_at_call 102; refine (QP.out _ (b2.drew)).mono ?_; rintro e w6 ⟨rfl, hb6⟩; have za : w6.cell? ⟨w.heap.size, 3, none⟩ = some (.slice (some ⟨bb, off, none⟩) n3 c3) := (hb6.cell (p := ⟨w.heap.size, 3, none⟩) (by simp; omega)).trans y3; have zb : w6.cell? ⟨bb, off + P * 3 + 1, none⟩ = some (.slice p1 m1 k1) := (hb6.cell (p := ⟨bb, off + P * 3 + 1, none⟩) (by simp; omega)).trans g1)) | ((go_at_call 101; refine (HB.out _ (b2.drew.trans (hb6.mono (by simp; omega)))).mono ?_; rintro e w7 ⟨v7, F7, rfl, p7, nd7, hb7⟩)))
    have hb27 : Below w2.heap.size w2 w7 := hbb.drew.trans ((hb6.trans (hb7.mono hb6.size)).mono hbb.drew.size)
    have b7 := b2.trans (hb27.mono b2.size)
    have hb6s : w.heap.size ≤ w6.heap.size := by have h1 := hb6.size; have h2 := b2.size; simp at h1; omega
    have p8 := p7.base hb6s
    clear hb6 hb7 y3 g1 za zb
    go_wp2
    go_ret2
    exact ⟨b7, .inr ⟨v7, F7, x, HH.out, by rw [← HP.out]; exact HX.out, rfl, p8, nd7⟩⟩

end Go.Proofs.YtkfmpfbhhmmllaaGreat

/- LDiskRead: The walk of the law FnExactDiskRead over the contracts of its two functions. By program (lawgen3.py). -/
namespace Go.Proofs.YtkfmpfbhhmmllaaGreat
open Go.RowKit
set_option linter.unusedVariables false


end Go.Proofs.YtkfmpfbhhmmllaaGreat

/- WDiskRead: The law FnExactDiskRead over the contracts of its two functions. -/
namespace Go.Proofs.YtkfmpfbhhmmllaaGreat
open Go.RowKit
set_option linter.unusedVariables false

theorem wd_Disk : shDisk.wd = 12 := rfl

theorem cntV_small (d : shDisk.D) (h : shDisk.sz d ≤ 1048576) : shDisk.cntV d ≤ 1000000000 := by
  have h1 := shDisk.cnt_le d
  have h2 := shDisk.cntV_le d
  rw [wd_Disk] at h1
  omega

theorem nil_reads (w : World) : Reads (.sl .u8) w [.slice none 0 0] ([] : List Int) := ⟨none, 0, rfl, Nat.le_refl _, Nat.zero_le _, .inl rfl⟩
theorem nil_own (w : World) (B : Nat) : Own (.sl .u8) w B [.slice none 0 0] ([] : List Int) [] := .inl ⟨rfl, rfl, rfl⟩

theorem body_small (d : shDisk.D) (h : shDisk.sz d ≤ 1048576) (i : Nat) (x : shNode.D) (hx : shNode.at d.2.2.2.1 i = some x) : List.length (α := Int) x.2.1 ≤ 1048576 := by
  rw [sz_Disk] at h
  have h2 := sz_elem shNode d.2.2.2.1 i x hx
  have h3 : List.length (α := Int) x.2.1 ≤ shNode.sz x := (sz_len x).1
  have h4 : Sh.sz (.sl shNode) d.2.2.2.1 = List.length (α := NodeD) d.2.2.2.1 + (List.map shNode.sz d.2.2.2.1).sum := rfl
  omega

end Go.Proofs.YtkfmpfbhhmmllaaGreat

/- Put: PutNum, the model's: what it hands back. For a slice of at most 2097152 bytes whose address is known, and any two integers. -/
namespace Go.Proofs.YtkfmpfbhhmmllaaGreat
open Go.RowKit
set_option linter.unusedVariables false

def pw : Nat → Int
  | 0 => 1
  | k + 1 => pw k * 256

theorem pw_pos : ∀ k, 1 ≤ pw k
  | 0 => by simp [pw]
  | k + 1 => by have := pw_pos k; simp [pw]; omega

theorem pw_le (k : Nat) (h : k ≤ 3) : pw k ≤ 16777216 := by
  match k, h with
  | 0, _ => simp [pw]
  | 1, _ => simp [pw]
  | 2, _ => simp [pw]
  | 3, _ => simp [pw]

def pdig (N : Int) (S k : Nat) : List Int := (List.range k).map fun i => N / pw (S - 1 - i) % 256

theorem pdig_succ (N : Int) (S k : Nat) : pdig N S (k + 1) = pdig N S k ++ [N / pw (S - 1 - k) % 256] := by
  simp [pdig, List.range_succ]

theorem pdig_len (N : Int) (S k : Nat) : (pdig N S k).length = k := by simp [pdig]

theorem put_bytes (zs : List Int) (hz : ∀ i : Nat, 0 ≤ zs[i]?.getD 0 ∧ zs[i]?.getD 0 ≤ 255) (N : Int) (S k : Nat) : ∀ i : Nat, 0 ≤ (zs ++ pdig N S k)[i]?.getD 0 ∧ (zs ++ pdig N S k)[i]?.getD 0 ≤ 255 := by
  intro i
  rw [List.getElem?_append]
  split
  · exact hz i
  · simp only [pdig, List.getElem?_map]
    cases (List.range k)[i - zs.length]? with
    | none => simp
    | some j => simp; omega

set_option maxHeartbeats 400000 in
theorem pow_any (S : Nat) (w : World) (h : S ≤ 4) :
    Calls Tryz.prog 109 #[.int .i64 S] w fun e w' => e = .returned (.int .i64 (pw S)) ∧ w' = w := by
  go_enter Tryz.func109, Tryz.ntmps109
  go_wp2
  go_loop [3, 4] (fun p i => ∃ k : Nat, k ≤ S ∧ p = .int .i64 (pw k) ∧ i = .int .i64 k) (fun _ i => S - (intOf i).toNat)
  case atStart => exact ⟨0, Nat.zero_le _, rfl, rfl⟩
  case round =>
    obtain ⟨k, hk, rfl, rfl⟩ := hrel
    by_cases hlt : k < S
    · have h1 := pw_pos k
      have h2 := pw_le k (by omega)
      go_wp2
      go_round
      case rel => exact ⟨k + 1, by omega, rfl, by go_num⟩
      case measure => simp [intOf]; omega
    · have e : k = S := by omega
      subst e
      go_wp2
      go_ret
      exact ⟨rfl, rfl⟩

/-- The tests of PutNum. -/
def pok (n : Nat) (N s : Int) : Prop := 1 ≤ s ∧ s ≤ 4 ∧ 0 ≤ N ∧ N < pw s.toNat ∧ (n : Int) ≤ 65536 - s

set_option maxHeartbeats 1000000 in
theorem specPut_no (a : Option Addr) (n cap : Nat) (N s : Int) (w : World) (hn : n ≤ 2097152) (hN : -9223372036854775808 ≤ N ∧ N ≤ 9223372036854775807) (hs : -9223372036854775808 ≤ s ∧ s ≤ 9223372036854775807) (h : ¬ pok n N s) :
    Calls Tryz.prog 87 #[.slice a n cap, .int .i64 N, .int .i64 s] w fun e w' => e = .returned (.tuple #[.slice none 0 0, .bool false]) ∧ w' = w := by
  unfold pok at h
  by_cases h1 : s < 1
  · clear h
    go_enter Tryz.func87, Tryz.ntmps87
    go_wp2
    go_ret2
    exact ⟨rfl, rfl⟩
  by_cases h2 : 4 < s
  · clear h
    go_enter Tryz.func87, Tryz.ntmps87
    go_wp2
    go_ret2
    exact ⟨rfl, rfl⟩
  by_cases h3 : N < 0
  · clear h
    go_enter Tryz.func87, Tryz.ntmps87
    go_wp2
    go_ret2
    exact ⟨rfl, rfl⟩
  obtain ⟨S, rfl⟩ := Int.eq_ofNat_of_zero_le (show 0 ≤ s by omega)
  have e : ((S : Int)).toNat = S := by omega
  rw [e] at h
  by_cases h4 : pw S ≤ N
  · clear h
    go_enter Tryz.func87, Tryz.ntmps87
    go_wp2_with fail
    refine (pow_any S _ (by omega)).mono ?_
    rintro e w' ⟨rfl, rfl⟩
    go_wp2
    go_ret2
    exact ⟨rfl, rfl⟩
  have h5 : (65536 : Int) - S < n := by omega
  have h4' : N < pw S := by omega
  clear h
  go_enter Tryz.func87, Tryz.ntmps87
  go_wp2_with fail
  refine (pow_any S _ (by omega)).mono ?_
  rintro e w' ⟨rfl, rfl⟩
  go_wp2
  go_ret2
  exact ⟨rfl, rfl⟩

end Go.Proofs.YtkfmpfbhhmmllaaGreat

/- Crc: Crc32, the model's: the sum of a slice of bytes, bit by bit. -/
namespace Go.Proofs.YtkfmpfbhhmmllaaGreat
open Go.RowKit
set_option linter.unusedVariables false

def cstep (r : Nat) : Nat := if r % 2 = 1 then r / 2 ^^^ 3988292384 else r / 2
def cits : Nat → Nat → Nat
  | 0, r => r
  | j + 1, r => cstep (cits j r)
def csum (zs : List Int) : Nat → Nat
  | 0 => 4294967295
  | k + 1 => cits 8 (csum zs k ^^^ (zs[k]?.getD 0).toNat)

theorem cstep_lt (r : Nat) (h : r < 4294967296) : cstep r < 4294967296 := by
  unfold cstep
  split
  · have : r / 2 ^^^ 3988292384 < 2 ^ 32 := Nat.xor_lt_two_pow (by omega) (by omega)
    omega
  · omega
theorem cits_lt : ∀ (j r : Nat), r < 4294967296 → cits j r < 4294967296
  | 0, r, h => h
  | j + 1, r, h => cstep_lt _ (cits_lt j r h)
theorem cxor_lt (r c : Nat) (h : r < 4294967296) (hc : c < 256) : r ^^^ c < 4294967296 := by
  have : r ^^^ c < 2 ^ 32 := Nat.xor_lt_two_pow (by omega) (by omega)
  omega
theorem csum_lt (zs : List Int) (hz : ∀ i : Nat, 0 ≤ zs[i]?.getD 0 ∧ zs[i]?.getD 0 ≤ 255) : ∀ k, csum zs k < 4294967296
  | 0 => by simp [csum]
  | k + 1 => cits_lt 8 _ (cxor_lt _ _ (csum_lt zs hz k) (by have := hz k; omega))

theorem cstep_odd (r : Nat) (h : r % 2 = 1) : cstep r = r / 2 ^^^ 3988292384 := by simp [cstep, h]
theorem cstep_even (r : Nat) (h : ¬ r % 2 = 1) : cstep r = r / 2 := by simp [cstep, h]

theorem xor_half (r : Nat) (h : r < 4294967296) : bits .xor .i64 ((r : Int) / 2) 3988292384 = ((r / 2 ^^^ 3988292384 : Nat) : Int) := by
  have e : ((r : Int) / 2) = ((r / 2 : Nat) : Int) := by omega
  rw [e]
  exact i64_xor_nat (r / 2) 3988292384 (by omega) (by omega)

set_option maxHeartbeats 1000000 in
theorem specCrc_any (a : Option Addr) (n cap : Nat) (zs : List Int) (w : World) (hl : Hid (zs.length = n)) (hr : Rd w a zs) (hn : n ≤ 2097152) :
    Calls Tryz.prog 88 #[.slice a n cap] w fun e w' => e = .returned (.int .i64 ((csum zs n ^^^ 4294967295 : Nat) : Int)) ∧ w' = w := by
  have hz := hr.1
  go_enter Tryz.func88, Tryz.ntmps88
  go_wp2
  go_loop [3, 4] (fun r i => ∃ k : Nat, k ≤ n ∧ r = .int .i64 (csum zs k) ∧ i = .int .i64 k) (fun _ i => n - (intOf i).toNat)
  case atStart => exact ⟨0, Nat.zero_le _, rfl, rfl⟩
  case round =>
    obtain ⟨k, hk, rfl, rfl⟩ := hrel
    have hR := csum_lt zs hz k
    by_cases hlt : k < n
    · have hne : zs ≠ [] := by intro h; have := hl.out; subst h; simp at this; omega
      obtain ⟨b, off, rfl, hb, hc⟩ := hr.2.resolve_left hne
      obtain ⟨c, hce⟩ : ∃ c : Nat, zs[k]?.getD 0 = (c : Int) := Int.eq_ofNat_of_zero_le (hz k).1
      have hc255 : c ≤ 255 := by have := (hz k).2; omega
      have hcell : w.cell? ⟨b, off + k, none⟩ = some (.int .u8 (c : Int)) := by rw [← hce]; exact hc k (by have := hl.out; omega)
      obtain ⟨R, hRe⟩ : ∃ R, R = csum zs k := ⟨_, rfl⟩
      have HS : Hid (csum zs (k + 1) = cits 8 (R ^^^ c)) := by show csum zs (k + 1) = _; rw [csum, hRe, hce]; rfl
      rw [← hRe] at hR ⊢
      have hx : bits .xor .i64 (R : Int) (c : Int) = ((R ^^^ c : Nat) : Int) := i64_xor_nat _ _ (by omega) (by omega)
      obtain ⟨X, hX⟩ : ∃ X, X = R ^^^ c := ⟨_, rfl⟩
      have hXl : X < 4294967296 := by rw [hX]; exact cxor_lt _ _ hR (by omega)
      rw [← hX] at hx HS
      clear hX hRe hce hc hz hne hr
      go_wp2
      go_loop [3, 5] (fun r i => ∃ j : Nat, j ≤ 8 ∧ r = .int .i64 (cits j X) ∧ i = .int .i64 j) (fun _ i => 8 - (intOf i).toNat)
      case atStart => exact ⟨0, Nat.zero_le _, rfl, rfl⟩
      case round =>
        obtain ⟨j, hj, rfl, rfl⟩ := hrel
        have hYl := cits_lt j X hXl
        by_cases hjl : j < 8
        · have hY' : cits (j + 1) X = cstep (cits j X) := rfl
          obtain ⟨Y, hY⟩ : ∃ Y, Y = cits j X := ⟨_, rfl⟩
          rw [← hY] at hYl hY' ⊢
          by_cases hodd : Y % 2 = 1
          · have hxr := xor_half Y hYl
            rw [cstep_odd Y hodd] at hY'
            have HY : Hid (cits (j + 1) X = Y / 2 ^^^ 3988292384) := hY'
            have hd : ((Y : Int) % 2 == 1) = true := by simp; omega
            clear hY' hY hx hcell
            go_wp2
            go_round
            case rel => exact ⟨j + 1, by omega, by rw [HY.out], by go_num⟩
            case measure => simp [intOf]; omega
          · rw [cstep_even Y hodd] at hY'
            have HY : Hid (cits (j + 1) X = Y / 2) := hY'
            have hd : ((Y : Int) % 2 == 1) = false := by simp; omega
            clear hY' hY hx hcell
            go_wp2
            go_round
            case rel => exact ⟨j + 1, by omega, by rw [HY.out]; go_num, by go_num⟩
            case measure => simp [intOf]; omega
        · have e : j = 8 := by omega
          subst e
          go_wp2
          go_round
          case rel => exact ⟨k + 1, by omega, by rw [HS.out], by go_num⟩
          case measure => simp [intOf]; omega
    · have e : k = n := by omega
      subst e
      have hx : bits .xor .i64 (csum zs k : Int) 4294967295 = ((csum zs k ^^^ 4294967295 : Nat) : Int) := i64_xor_nat _ 4294967295 (by omega) (by omega)
      go_wp2
      go_ret
      exact ⟨rfl, rfl⟩

end Go.Proofs.YtkfmpfbhhmmllaaGreat

/- FrP: A record: its bytes (plain facts). -/
namespace Go.Proofs.YtkfmpfbhhmmllaaGreat
open Go.RowKit
set_option linter.unusedVariables false

/-- The bytes of a text. -/
def sB (s : ByteArray) : List Int := s.data.toList.map fun b => (b.toNat : Int)

theorem sB_cells (s : ByteArray) : Lib.strCells s = (sB s).map (Value.int .u8) := by simp [Lib.strCells, sB]
theorem sB_len (s : ByteArray) : (sB s).length = s.size := by rw [sB, List.length_map, Array.length_toList]; rfl

def Byt (l : List Int) : Prop := ∀ i : Nat, 0 ≤ l[i]?.getD 0 ∧ l[i]?.getD 0 ≤ 255

theorem byt_iff (l : List Int) : Byt l ↔ ∀ x ∈ l, 0 ≤ x ∧ x ≤ 255 := by
  constructor
  · intro h x hx
    obtain ⟨i, hi, rfl⟩ := List.getElem_of_mem hx
    have := h i
    rw [List.getElem?_eq_getElem hi] at this
    exact this
  · intro h i
    by_cases hi : i < l.length
    · rw [List.getElem?_eq_getElem hi]; exact h _ (List.getElem_mem hi)
    · rw [List.getElem?_eq_none (by omega)]; simp

theorem byt_append {a b : List Int} (ha : Byt a) (hb : Byt b) : Byt (a ++ b) := by
  rw [byt_iff] at *
  intro x hx
  rcases List.mem_append.1 hx with h | h
  · exact ha x h
  · exact hb x h

theorem byt_sB (s : ByteArray) : Byt (sB s) := by
  rw [byt_iff]
  intro x hx
  simp only [sB, List.mem_map] at hx
  obtain ⟨b, _, rfl⟩ := hx
  have := b.toNat_lt
  omega

theorem byt_pdig (N : Int) (S k : Nat) : Byt (pdig N S k) := by
  rw [byt_iff]
  intro x hx
  simp only [pdig, List.mem_map] at hx
  obtain ⟨i, _, rfl⟩ := hx
  have h1 := Int.emod_nonneg (N / pw (S - 1 - i)) (b := 256) (by omega)
  have h2 := Int.emod_lt_of_pos (N / pw (S - 1 - i)) (b := 256) (by omega)
  omega

/-- The sum of bytes. -/
def crcI (zs : List Int) : Int := ((csum zs zs.length ^^^ 4294967295 : Nat) : Int)

theorem crcI_bd (zs : List Int) (h : Byt zs) : 0 ≤ crcI zs ∧ crcI zs < 4294967296 := by
  have h1 := csum_lt zs h zs.length
  have h2 : csum zs zs.length ^^^ 4294967295 < 2 ^ 32 := Nat.xor_lt_two_pow (by omega) (by omega)
  unfold crcI
  omega

def headL (x : Int) (n : Nat) : List Int := pdig n 2 2 ++ pdig x 4 4

def frameL (x : Int) (t : List Int) : List Int := headL x t.length ++ pdig (crcI (headL x t.length ++ t)) 4 4 ++ t

theorem headL_len (x : Int) (n : Nat) : (headL x n).length = 6 := by simp [headL, pdig_len]
theorem byt_headL (x : Int) (n : Nat) : Byt (headL x n) := byt_append (byt_pdig _ _ _) (byt_pdig _ _ _)
theorem frameL_len (x : Int) (t : List Int) : (frameL x t).length = 10 + t.length := by simp [frameL, headL_len, pdig_len]; omega
theorem byt_frameL (x : Int) (t : List Int) (h : Byt t) : Byt (frameL x t) := byt_append (byt_append (byt_headL _ _) (byt_pdig _ _ _)) h

end Go.Proofs.YtkfmpfbhhmmllaaGreat

/- RdA: DiskRead of both sides as one answer: the bytes of the file and whether it is there. -/
namespace Go.Proofs.YtkfmpfbhhmmllaaGreat
open Go.RowKit
set_option linter.unusedVariables false

/-- The bytes of a file of a disk, and whether it is there. -/
def rdA (d : shDisk.D) (name : ByteArray) : List Int × Bool :=
  if implOkB d = true ∧ hasL (dirL d.2.2.2.2.1 d.2.2.2.2.2.1) name = true then
    ((match shNode.at d.2.2.2.1 (placeN d.2.2.2.1 (findL (dirL d.2.2.2.2.1 d.2.2.2.2.2.1) name)) with | some x => x.2.1 | none => []), true)
  else ([], false)

theorem rdA_bad {d : shDisk.D} {name : ByteArray} (h : ¬ (implOkB d = true ∧ hasL (dirL d.2.2.2.2.1 d.2.2.2.2.2.1) name = true)) : rdA d name = ([], false) := if_neg h
theorem rdA_good {d : shDisk.D} {name : ByteArray} (h : implOkB d = true ∧ hasL (dirL d.2.2.2.2.1 d.2.2.2.2.2.1) name = true) {x : shNode.D} (hx : shNode.at d.2.2.2.1 (placeN d.2.2.2.1 (findL (dirL d.2.2.2.2.1 d.2.2.2.2.2.1) name)) = some x) : rdA d name = (x.2.1, true) := by
  unfold rdA
  rw [if_pos h, hx]
  rfl

theorem rdA_small {d : shDisk.D} (name : ByteArray) (hs : shDisk.sz d ≤ 1048576) : (rdA d name).1.length ≤ 1048576 := by
  unfold rdA
  split
  · show List.length (match shNode.at d.2.2.2.1 _ with | some x => x.2.1 | none => []) ≤ _
    split
    · rename_i x hx
      exact body_small d hs _ x hx
    · simp
  · simp

theorem rdA_byt {w : World} {cs : List Value} {d : shDisk.D} (hr : Reads shDisk w cs d) (name : ByteArray) : Byt (rdA d name).1 := by
  have nilB : Byt ([] : List Int) := fun i => by simp
  obtain ⟨a3, n3, c3, a4, n4, c4, a5, n5, c5, _, r3, r4, r5⟩ := open_Disk hr
  unfold rdA
  split
  · show Byt (match shNode.at d.2.2.2.1 _ with | some x => x.2.1 | none => [])
    split
    · rename_i x hx
      obtain ⟨hlt, _⟩ := List.getElem?_eq_some_iff.1 hx
      obtain ⟨b, off, c, y, _, _, hy, ry, _⟩ := reads_elem r3 _ (by rw [← (reads_len r3).1]; exact hlt)
      rw [hx] at hy
      obtain rfl := Option.some.inj hy
      obtain ⟨a1, n1, c1, a2, n2, c2, _, r1, r2⟩ := open_Node ry
      exact (reads_bytes r1).2.1.1
    · exact nilB
  · exact nilB

theorem specRead_any (cs : List Value) (d : shDisk.D) (name : ByteArray) (B : Nat) (G : List Nat) (w : World) (ho : Own shDisk w B cs d G) (hs : shDisk.sz d ≤ 1048576) :
    Calls Tryz.prog 23 #[.agg cs.toArray, .string name] w fun e w' => ∃ v F, e = .returned (.tuple #[v, .bool (rdA d name).2]) ∧ Own (.sl .u8) w' w.heap.size [v] (rdA d name).1 F ∧ F.Nodup ∧ Below w.heap.size w w' := by
  cases hok : implOkB d with
  | false =>
    have hnp : ¬ specOkP d := fun h => by rw [(ok_same d).1 h] at hok; cases hok
    rw [rdA_bad (fun h => by rw [hok] at h; cases h.1)]
    refine (specRead_none cs d name B G w ho hs (fun h => absurd h hnp) (.inr hnp)).mono ?_
    rintro e w'' ⟨rfl, hb⟩
    exact ⟨_, _, rfl, nil_own _ _, by simp, hb⟩
  | true =>
    have hp : specOkP d := (ok_same d).2 hok
    cases hh : hasL (dirL d.2.2.2.2.1 d.2.2.2.2.2.1) name with
    | false =>
      rw [rdA_bad (fun h => by rw [hh] at h; cases h.2)]
      refine (specRead_none cs d name B G w ho hs (fun _ => hh) (.inl hp)).mono ?_
      rintro e w'' ⟨rfl, hb⟩
      exact ⟨_, _, rfl, nil_own _ _, by simp, hb⟩
    | true =>
      refine (specRead_yes cs d name B G w ho hs hp hh).mono ?_
      rintro e w'' ⟨v, F, y, hy, rfl, p, nd, hb⟩
      rw [rdA_good ⟨hok, hh⟩ hy]
      exact ⟨v, F, rfl, p, nd, hb⟩

theorem implRead_any (cs : List Value) (d : shDisk.D) (name : ByteArray) (B : Nat) (G : List Nat) (w : World) (ho : Own shDisk w B cs d G) (hs : shDisk.sz d ≤ 1048576) (hname : name.size ≤ maxLen) :
    Calls Tryz.prog 67 #[.agg cs.toArray, .string name] w fun e w' => ∃ v F, e = .returned (.tuple #[v, .bool (rdA d name).2]) ∧ Own (.sl .u8) w' w.heap.size [v] (rdA d name).1 F ∧ F.Nodup ∧ Below w.heap.size w w' := by
  cases hok : implOkB d with
  | false =>
    rw [rdA_bad (fun h => by rw [hok] at h; cases h.1)]
    refine (implRead_bad cs d name B G w ho hs hok).mono ?_
    rintro e w'' ⟨rfl, hb⟩
    exact ⟨_, _, rfl, nil_own _ _, by simp, hb⟩
  | true =>
    have hp : specOkP d := (ok_same d).2 hok
    obtain ⟨hal, hpos, hpl⟩ := dir_alike hp
    obtain ⟨L, hL⟩ : ∃ L, L = dirL d.2.2.2.2.1 d.2.2.2.2.2.1 := ⟨_, rfl⟩
    obtain ⟨M, hM⟩ : ∃ M, M = dirF (List.reverse (α := LinkD) d.2.2.2.2.1) d.2.2.2.2.2.1 := ⟨_, rfl⟩
    rw [← hL, ← hM] at hal
    rw [← hL] at hpos hpl
    have hhs : hasL M name = hasL L name := ((hal name).1).symm
    have hfs : findL M name = findL L name := ((hal name).2).symm
    have hin : hasL M name = true → placeN d.2.2.2.1 (findL M name) < List.length (α := NodeD) d.2.2.2.1 := fun h => by
      rw [hhs] at h
      obtain ⟨x, hx, _, hx2⟩ := findL_mem h
      have := hpl x hx
      rw [hfs, ← hx2]; exact this
    refine (implRead_good cs d name B G w ho hs hok hname M hM hin).mono ?_
    rintro e w'' ⟨hb, ⟨h1, rfl⟩ | ⟨v, F, x, h1, hx, rfl, p, nd⟩⟩
    · rw [rdA_bad (fun h => by rw [hhs, hL, h.2] at h1; cases h1)]
      exact ⟨_, _, rfl, nil_own _ _, by simp, hb⟩
    · rw [hhs, hL] at h1
      rw [hfs, hL] at hx
      rw [rdA_good ⟨hok, h1⟩ hx]
      exact ⟨v, F, rfl, p, nd, hb⟩

end Go.Proofs.YtkfmpfbhhmmllaaGreat

/- Get: GetNum, the model's and the program's: both read the same number, or say no at the same arguments. For slices of at most 1048576 + 1048576 bytes and any two integers. -/
namespace Go.Proofs.YtkfmpfbhhmmllaaGreat
open Go.RowKit
set_option linter.unusedVariables false

def gnum (zs : List Int) (p : Nat) : Nat → Int
  | 0 => 0
  | k + 1 => gnum zs p k * 256 + zs[p + k]?.getD 0

theorem gnum_bd (zs : List Int) (hz : ∀ i : Nat, 0 ≤ zs[i]?.getD 0 ∧ zs[i]?.getD 0 ≤ 255) (p : Nat) : ∀ k, k ≤ 4 → 0 ≤ gnum zs p k ∧ gnum zs p k ≤ 256 ^ k - 1
  | 0, _ => by simp [gnum]
  | 1, _ => by have := hz (p + 0); simp [gnum] at *; omega
  | 2, _ => by have := hz (p + 0); have := hz (p + 1); simp [gnum] at *; omega
  | 3, _ => by have := hz (p + 0); have := hz (p + 1); have := hz (p + 2); simp [gnum] at *; omega
  | 4, _ => by have := hz (p + 0); have := hz (p + 1); have := hz (p + 2); have := hz (p + 3); simp [gnum] at *; omega
  | k + 5, h => by omega

theorem gnum_lt (zs : List Int) (hz : ∀ i : Nat, 0 ≤ zs[i]?.getD 0 ∧ zs[i]?.getD 0 ≤ 255) (p k : Nat) (h : k < 4) : 0 ≤ gnum zs p k ∧ gnum zs p k ≤ 16777215 := by
  have := gnum_bd zs hz p k (by omega)
  match k, h with
  | 0, _ => omega
  | 1, _ => omega
  | 2, _ => omega
  | 3, _ => omega

/-- The tests of GetNum. -/
def gok (n : Nat) (p s : Int) : Prop := 1 ≤ s ∧ s ≤ 4 ∧ 0 ≤ p ∧ p ≤ (n : Int) - s

set_option maxHeartbeats 400000 in
theorem specGet_no (a : Option Addr) (n cap : Nat) (p s : Int) (w : World) (hn : n ≤ 2097152) (hp : -9223372036854775808 ≤ p ∧ p ≤ 9223372036854775807) (hs : -9223372036854775808 ≤ s ∧ s ≤ 9223372036854775807) (h : ¬ gok n p s) :
    Calls Tryz.prog 105 #[.slice a n cap, .int .i64 p, .int .i64 s] w fun e w' => e = .returned (.tuple #[.int .i64 0, .bool false]) ∧ w' = w := by
  unfold gok at h
  by_cases h1 : s < 1
  · go_enter Tryz.func105, Tryz.ntmps105
    go_wp2
    go_ret2
    exact ⟨rfl, rfl⟩
  by_cases h2 : 4 < s
  · go_enter Tryz.func105, Tryz.ntmps105
    go_wp2
    go_ret2
    exact ⟨rfl, rfl⟩
  by_cases h3 : p < 0
  · go_enter Tryz.func105, Tryz.ntmps105
    go_wp2
    go_ret2
    exact ⟨rfl, rfl⟩
  have h4 : (n : Int) - s < p := by omega
  clear h
  go_enter Tryz.func105, Tryz.ntmps105
  go_wp2
  go_ret2
  exact ⟨rfl, rfl⟩

set_option maxHeartbeats 400000 in
theorem specGet_yes (a : Option Addr) (n cap : Nat) (zs : List Int) (p s : Nat) (w : World) (hl : Hid (zs.length = n)) (hr : Rd w a zs) (hn : n ≤ 2097152) (hs1 : 1 ≤ s) (hs4 : s ≤ 4) (hps : p + s ≤ n) :
    Calls Tryz.prog 105 #[.slice a n cap, .int .i64 p, .int .i64 s] w fun e w' => e = .returned (.tuple #[.int .i64 (gnum zs p s), .bool true]) ∧ w' = w := by
  have hne : zs ≠ [] := by intro h; have := hl.out; subst h; simp at this; omega
  obtain ⟨b, off, rfl, hb, hc⟩ := hr.2.resolve_left hne
  have hz := hr.1
  clear hr hne
  go_enter Tryz.func105, Tryz.ntmps105
  go_wp2
  go_loop [8, 9] (fun m i => ∃ k : Nat, k ≤ s ∧ m = .int .i64 (gnum zs p k) ∧ i = .int .i64 k) (fun _ i => s - (intOf i).toNat)
  case atStart => exact ⟨0, Nat.zero_le _, rfl, rfl⟩
  case round =>
    obtain ⟨k, hk, rfl, rfl⟩ := hrel
    by_cases hlt : k < s
    · have hce : w.cell? ⟨b, off + (p + k), none⟩ = some (.int .u8 (zs[p + k]?.getD 0)) := hc (p + k) (by have := hl.out; omega)
      have hg := gnum_lt zs hz p k (by omega)
      have hzk := hz (p + k)
      clear hc hz
      go_wp2
      go_round
      case rel => exact ⟨k + 1, by omega, rfl, by go_num⟩
      case measure => simp [intOf]; omega
    · have e : k = s := by omega
      subst e
      go_wp2
      go_ret2
      exact ⟨rfl, rfl⟩

end Go.Proofs.YtkfmpfbhhmmllaaGreat

/- RfP: Reading a record: what it answers (plain facts). -/
namespace Go.Proofs.YtkfmpfbhhmmllaaGreat
open Go.RowKit
set_option linter.unusedVariables false

/-- The bytes from p on, n of them. -/
def cutL (zs : List Int) (p n : Nat) : List Int := (zs.drop p).take n

theorem cutL_len (zs : List Int) (p n : Nat) (h : p + n ≤ zs.length) : (cutL zs p n).length = n := by
  unfold cutL; rw [List.length_take, List.length_drop]; omega

theorem byt_cutL (zs : List Int) (h : Byt zs) (p n : Nat) : Byt (cutL zs p n) := by
  rw [byt_iff] at *
  intro x hx
  exact h x (List.mem_of_mem_drop (List.mem_of_mem_take hx))

theorem cutL_at (zs : List Int) (p n i : Nat) (h : i < n) : (cutL zs p n)[i]? = zs[p + i]? := by
  unfold cutL; rw [List.getElem?_take_of_lt h, List.getElem?_drop]

theorem cutL_split (zs : List Int) (p m n : Nat) : cutL zs p (m + n) = cutL zs p m ++ cutL zs (p + m) n := by
  unfold cutL
  rw [List.take_add, List.drop_drop]

theorem get_some (zs : List Int) (i : Nat) (h : i < zs.length) : zs[i]? = some (zs[i]?.getD 0) := by
  rw [List.getElem?_eq_getElem h]; rfl

theorem pdig2 (X : Int) : pdig X 2 2 = [X / 256 % 256, X / 1 % 256] := by
  have : List.range 2 = [0, 1] := by decide
  simp [pdig, this, pw]

theorem pdig4 (X : Int) : pdig X 4 4 = [X / 16777216 % 256, X / 65536 % 256, X / 256 % 256, X / 1 % 256] := by
  have : List.range 4 = [0, 1, 2, 3] := by decide
  simp [pdig, this, pw]

theorem dig_get2 (zs : List Int) (h : Byt zs) (p : Nat) (hp : p + 2 ≤ zs.length) : pdig (gnum zs p 2) 2 2 = cutL zs p 2 := by
  have h0 := h p; have h1 := h (p + 1)
  refine List.ext_getElem? fun i => ?_
  by_cases hi : i < 2
  · rw [cutL_at _ _ _ _ hi, get_some zs _ (by omega), pdig2]
    match i, hi with
    | 0, _ => simp [gnum]; omega
    | 1, _ => simp [gnum]; omega
  · rw [List.getElem?_eq_none (by rw [pdig_len]; omega), List.getElem?_eq_none (by rw [cutL_len _ _ _ hp]; omega)]

theorem dig_get4 (zs : List Int) (h : Byt zs) (p : Nat) (hp : p + 4 ≤ zs.length) : pdig (gnum zs p 4) 4 4 = cutL zs p 4 := by
  have h0 := h p; have h1 := h (p + 1); have h2 := h (p + 2); have h3 := h (p + 3)
  refine List.ext_getElem? fun i => ?_
  by_cases hi : i < 4
  · rw [cutL_at _ _ _ _ hi, get_some zs _ (by omega), pdig4]
    match i, hi with
    | 0, _ => simp [gnum]; omega
    | 1, _ => simp [gnum]; omega
    | 2, _ => simp [gnum]; omega
    | 3, _ => simp [gnum]; omega
  · rw [List.getElem?_eq_none (by rw [pdig_len]; omega), List.getElem?_eq_none (by rw [cutL_len _ _ _ hp]; omega)]

theorem pdig4_inj (X Y : Int) (hx : 0 ≤ X ∧ X < 4294967296) (hy : 0 ≤ Y ∧ Y < 4294967296) (h : pdig X 4 4 = pdig Y 4 4) : X = Y := by
  rw [pdig4, pdig4] at h
  simp only [List.cons.injEq, and_true] at h
  omega

theorem gnum4_bd (zs : List Int) (h : Byt zs) (p : Nat) : 0 ≤ gnum zs p 4 ∧ gnum zs p 4 < 4294967296 := by
  have := gnum_bd zs h p 4 (by omega)
  omega

theorem gnum2_bd (zs : List Int) (h : Byt zs) (p : Nat) : 0 ≤ gnum zs p 2 ∧ gnum zs p 2 < 65536 := by
  have := gnum_bd zs h p 2 (by omega)
  omega

/-- A record stands at p just where its sum is right. -/
theorem frame_at (zs : List Int) (h : Byt zs) (p s : Nat) (hp : p + 10 + s ≤ zs.length) (hs : gnum zs p 2 = (s : Int)) :
    frameL (gnum zs (p + 2) 4) (cutL zs (p + 10) s) = cutL zs p (10 + s) ↔ gnum zs (p + 6) 4 = crcI (cutL zs p 6 ++ cutL zs (p + 10) s) := by
  have hl : (cutL zs (p + 10) s).length = s := cutL_len _ _ _ (by omega)
  have hh : headL (gnum zs (p + 2) 4) s = cutL zs p 6 := by
    unfold headL
    rw [← hs, dig_get2 zs h p (by omega), dig_get4 zs h (p + 2) (by omega)]
    exact (cutL_split zs p 2 4).symm
  have hY : cutL zs p (10 + s) = cutL zs p 6 ++ cutL zs (p + 6) 4 ++ cutL zs (p + 10) s := by
    rw [cutL_split zs p 10 s, cutL_split zs p 6 4]
  unfold frameL
  rw [hl, hh, hY, List.append_left_inj, List.append_right_inj, ← dig_get4 zs h (p + 6) (by omega)]
  have hb := crcI_bd (cutL zs p 6 ++ cutL zs (p + 10) s) (byt_append (byt_cutL zs h _ _) (byt_cutL zs h _ _))
  constructor
  · intro e; exact (pdig4_inj _ _ hb (gnum4_bd zs h _) e).symm
  · intro e; rw [← e]

/-- What reading answers: number, text, next place, code. -/
def frAns (zs : List Int) (p : Int) : Int × ByteArray × Int × Int :=
  if p < 0 ∨ (zs.length : Int) < p then (0, ByteArray.empty, 0, 1)
  else if (zs.length : Int) - p < 10 then (0, ByteArray.empty, 0, 2)
  else if gnum zs p.toNat 2 = 0 ∨ 1000 < gnum zs p.toNat 2 then (0, ByteArray.empty, 0, 3)
  else if (zs.length : Int) - p - 10 < gnum zs p.toNat 2 then (0, ByteArray.empty, 0, 4)
  else if gnum zs (p.toNat + 2) 4 = 0 ∨ 1000000000 < gnum zs (p.toNat + 2) 4 then (0, ByteArray.empty, 0, 5)
  else if gnum zs (p.toNat + 6) 4 = crcI (cutL zs p.toNat 6 ++ cutL zs (p.toNat + 10) (gnum zs p.toNat 2).toNat) then
    (gnum zs (p.toNat + 2) 4, strOfNums (cutL zs (p.toNat + 10) (gnum zs p.toNat 2).toNat), p + 10 + gnum zs p.toNat 2, 0)
  else (0, ByteArray.empty, 0, 6)

theorem strNums_inj : ∀ (xs ys : List Int), Byt xs → Byt ys → strOfNums xs = strOfNums ys → xs = ys := by
  intro xs ys hx hy h
  rw [byt_iff] at hx hy
  have h1 : (strOfNums xs).data.toList = (strOfNums ys).data.toList := by rw [h]
  rw [strOfNums_data, strOfNums_data] at h1
  have hinj : ∀ a b : Int, 0 ≤ a ∧ a ≤ 255 → 0 ≤ b ∧ b ≤ 255 → UInt8.ofNat a.toNat = UInt8.ofNat b.toNat → a = b := by
    intro a b ha hb e
    have e1 := congrArg UInt8.toNat e
    simp only [UInt8.toNat_ofNat'] at e1
    omega
  clear h
  induction xs generalizing ys with
  | nil => cases ys with
    | nil => rfl
    | cons b ys => simp at h1
  | cons a xs ih => cases ys with
    | nil => simp at h1
    | cons b ys =>
      simp only [List.map_cons, List.cons.injEq] at h1
      rw [hinj a b (hx a List.mem_cons_self) (hy b List.mem_cons_self) h1.1, ih ys (fun x hm => hx x (List.mem_cons_of_mem _ hm)) (fun x hm => hy x (List.mem_cons_of_mem _ hm)) h1.2]

theorem sB_nums (xs : List Int) (h : Byt xs) : sB (strOfNums xs) = xs := by
  rw [byt_iff] at h
  unfold sB
  rw [strOfNums_data, List.map_map]
  conv => rhs; rw [← List.map_id xs]
  refine List.map_congr_left fun x hx => ?_
  have := h x hx
  simp only [Function.comp, UInt8.toNat_ofNat', id]
  omega

end Go.Proofs.YtkfmpfbhhmmllaaGreat

/- Ent: EntryOk, the model's and the program's: the number is from 1 to 1000000000, the text has 1 to 1000 bytes. -/
namespace Go.Proofs.YtkfmpfbhhmmllaaGreat
open Go.RowKit
set_option linter.unusedVariables false

def entB (x : Int) (n : Nat) : Bool := decide (1 ≤ x) && decide (x ≤ 1000000000) && decide (1 ≤ n) && decide (n ≤ 1000)

theorem entB_iff (x : Int) (n : Nat) : entB x n = true ↔ 1 ≤ x ∧ x ≤ 1000000000 ∧ 1 ≤ n ∧ n ≤ 1000 := by
  simp only [entB, Bool.and_eq_true, decide_eq_true_eq, and_assoc]

set_option maxRecDepth 100000 in
set_option maxHeartbeats 2000000 in
theorem specEnt_any (x0 : Int) (x1 : ByteArray) (w : World) (h1 : x1.size ≤ maxLen) :
    Calls Tryz.prog 53 #[.agg #[.int .i64 x0, .string x1]] w fun e w' => e = .returned (.bool (entB x0 x1.size)) ∧ Below w.heap.size w w' := by
  unfold maxLen at h1
  obtain ⟨n, hn⟩ : ∃ n, n = x1.size := ⟨_, rfl⟩
  go_enter Tryz.func53, Tryz.ntmps53
  go_wp2
  all_goals (go_ret; refine ⟨?_, (Below.refl _ _).alloc (Nat.le_refl _) _⟩)
  all_goals (show Ending.returned (Value.bool _) = Ending.returned (Value.bool _))
  all_goals (congr 2; rw [Bool.eq_iff_iff, entB_iff]; simp_all <;> omega)

theorem seqOk_any (n : Int) (w : World) :
    Calls Tryz.prog 99 #[.int .i64 n] w fun e w' => e = .returned (.bool (decide (1 ≤ n) && decide (n ≤ 1000000000))) ∧ w' = w := by
  go_enter Tryz.func99, Tryz.ntmps99
  go_wp2
  all_goals (go_ret; refine ⟨?_, rfl⟩)
  all_goals (show Ending.returned (Value.bool _) = Ending.returned (Value.bool _))
  all_goals (congr 2; rw [Bool.eq_iff_iff]; simp_all <;> omega)

theorem textSizeOk_any (n : Int) (w : World) :
    Calls Tryz.prog 100 #[.int .i64 n] w fun e w' => e = .returned (.bool (decide (1 ≤ n) && decide (n ≤ 1000))) ∧ w' = w := by
  go_enter Tryz.func100, Tryz.ntmps100
  go_wp2
  all_goals (go_ret; refine ⟨?_, rfl⟩)
  all_goals (show Ending.returned (Value.bool _) = Ending.returned (Value.bool _))
  all_goals (congr 2; rw [Bool.eq_iff_iff]; simp_all <;> omega)

set_option maxRecDepth 100000 in
set_option maxHeartbeats 2000000 in
theorem implEnt_any (x0 : Int) (x1 : ByteArray) (w : World) (h1 : x1.size ≤ maxLen) :
    Calls Tryz.prog 65 #[.agg #[.int .i64 x0, .string x1]] w fun e w' => e = .returned (.bool (entB x0 x1.size)) ∧ Below w.heap.size w w' := by
  unfold maxLen at h1
  go_enter Tryz.func65, Tryz.ntmps65
  go_wp2_with (first | (go_at_call 99; refine (seqOk_any _ _).mono ?_; rintro e w9 ⟨rfl, rfl⟩) | (go_at_call 100; refine (textSizeOk_any _ _).mono ?_; rintro e w9 ⟨rfl, rfl⟩))
  all_goals (go_ret; refine ⟨?_, (Below.refl _ _).alloc (Nat.le_refl _) _⟩)
  all_goals (show Ending.returned (Value.bool _) = Ending.returned (Value.bool _))
  all_goals (congr 2; rw [Bool.eq_iff_iff, entB_iff]; simp_all <;> omega)

end Go.Proofs.YtkfmpfbhhmmllaaGreat

/- EnsP: Lists of entries: when they are right (plain facts). -/
namespace Go.Proofs.YtkfmpfbhhmmllaaGreat
open Go.RowKit
set_option linter.unusedVariables false

abbrev EntD := Int × ByteArray × Unit

/-- Whether an entry may follow a number. -/
def linkB (p : Option Int) (x : Int) : Bool := match p with | none => true | some q => decide (x = q + 1)

/-- Whether each is right and follows the one ahead of it, the first p. -/
def entsFrom : Option Int → List EntD → Bool
  | _, [] => true
  | p, x :: l => entB x.1 (ByteArray.size x.2.1) && linkB p x.1 && entsFrom (some x.1) l

def entsB (l : List EntD) : Bool := entsFrom none l

/-- The number of the last of the first k. -/
def prevN (l : List EntD) (k : Nat) : Option Int := if k = 0 then none else (l[k - 1]?).map (·.1)

theorem prevN_zero (l : List EntD) : prevN l 0 = none := rfl
theorem prevN_succ (l : List EntD) (j : Nat) (x : EntD) (h : l[j]? = some x) : prevN l (j + 1) = some x.1 := by simp [prevN, h]

theorem ents_step (l : List EntD) (k : Nat) (x : EntD) (h : l[k]? = some x) :
    entsFrom (prevN l k) (l.drop k) = (entB x.1 (ByteArray.size x.2.1) && linkB (prevN l k) x.1 && entsFrom (prevN l (k + 1)) (l.drop (k + 1))) := by
  have hk : k < l.length := (List.getElem?_eq_some_iff.1 h).1
  have hx : l[k] = x := (List.getElem?_eq_some_iff.1 h).2
  rw [List.drop_eq_getElem_cons hk, hx, prevN_succ l k x h]
  rfl

theorem ents_end (l : List EntD) (k : Nat) (h : l.length ≤ k) (p : Option Int) : entsFrom p (l.drop k) = true := by
  rw [List.drop_eq_nil_of_le h]; rfl

end Go.Proofs.YtkfmpfbhhmmllaaGreat

/- EntC: Rows of entries: their cells; a slice of the last ones. -/
namespace Go.Proofs.YtkfmpfbhhmmllaaGreat
open Go.RowKit
set_option linter.unusedVariables false

def cellsE (l : List EntD) : List Value := l.flatMap fun x => [.int .i64 x.1, .string x.2.1]

theorem cellsE_snoc (l : List EntD) (x : EntD) : cellsE (l ++ [x]) = cellsE l ++ [.int .i64 x.1, .string x.2.1] := by simp [cellsE]

theorem cellsE_len (l : List EntD) : (cellsE l).length = l.length * 2 := by
  unfold cellsE
  induction l with
  | nil => rfl
  | cons a l ih => rw [List.flatMap_cons, List.length_append, ih, List.length_cons]; simp; omega

theorem cellsE_one (l : List EntD) : ∀ u ∈ cellsE l, u.oneCell' = true := by
  intro u hu
  unfold cellsE at hu
  obtain ⟨x, _, hx⟩ := List.mem_flatMap.1 hu
  simp at hx
  rcases hx with rfl | rfl <;> rfl

theorem take_cellsE (d : List EntD) (k : Nat) (x : EntD) (h : d[k]? = some x) : cellsE (d.take (k + 1)) = cellsE (d.take k) ++ [.int .i64 x.1, .string x.2.1] := by
  have hk : k < d.length := (List.getElem?_eq_some_iff.1 h).1
  have hx : d[k] = x := (List.getElem?_eq_some_iff.1 h).2
  rw [List.take_succ_eq_append_getElem hk, hx, cellsE_snoc]

def SmallE (l : List EntD) : Prop := ∀ x ∈ l, ByteArray.size x.2.1 ≤ maxLen

theorem reads_smallE {w : World} {a : Option Addr} {n cap : Nat} {d : List EntD} (h : Reads (.sl shEntry) w [.slice a n cap] d) : SmallE d := by
  intro x hx
  obtain ⟨i, hi, rfl⟩ := List.mem_iff_getElem.1 hx
  have hl := (reads_len h).1
  have hl' : List.length (α := EntD) d = n := hl
  obtain ⟨b, off, c, y, _, _, hy, hr, _⟩ := reads_elem h i (by omega)
  obtain ⟨_, hh⟩ := open_Entry hr
  have : (d : List EntD)[i]? = some y := hy
  rw [List.getElem?_eq_getElem hi] at this
  obtain rfl := Option.some.inj this
  exact hh

/-- A row of entries that the call owns, nil or not. -/
theorem own_entsV {w : World} {B n : Nat} {v : Value} {t : TypeId} {l : List EntD} (hl : l.length = n) (hs : SmallE l) (h : w.ownsRow B t 2 v n (cellsE l)) : ∃ F, Own (.sl shEntry) w B [v] l F ∧ F.Nodup ∧ ∃ a c, v = .slice a n c := by
  rcases h.2 with ⟨h1, h2⟩ | ⟨g, cap, cur, hv, _⟩
  · refine ⟨[], .inl ⟨by rw [h1], ?_, rfl⟩, by simp, none, 0, by rw [h1, h2]⟩
    show l.length = 0; omega
  · subst hv
    exact ⟨[g], own_flat shEntry (fun x => [.int .i64 x.1, .string x.2.1]) hl (fun x hx => own_Entry (d := x) (hs x hx)) h, by simp, _, _, rfl⟩

theorem ents_src {w : World} {ad : Addr} {n cap : Nat} {l : List EntD} (h : Reads (.sl shEntry) w [.slice (some ad) n cap] l) : ∀ (j : Nat) (u : Value), (cellsE l)[j]? = some u → w.cell? (ad.add j) = some u :=
  reads_flat shEntry (fun x => [.int .i64 x.1, .string x.2.1]) (by decide) (fun w c x hr => (open_Entry hr).1) h

/-- The elements from k on. -/
theorem reads_drop {e : Sh} {w : World} {b off n c : Nat} {d : List e.D} (h : Reads (.sl e) w [.slice (some ⟨b, off, none⟩) n c] d) (k : Nat) (hk : k ≤ n) : Reads (.sl e) w [.slice (some ⟨b, off + k * e.size, none⟩) (n - k) (c - k)] (List.drop k d) := by
  obtain ⟨a, cp, e1, hl, hm, h0⟩ := h
  simp only [List.cons.injEq, Value.slice.injEq, and_true] at e1
  obtain ⟨rfl, hn, rfl⟩ := e1
  have hdl : (List.drop k d).length = n - k := by rw [List.length_drop]; omega
  refine ⟨some ⟨b, off + k * e.size, none⟩, c - k, ?_, ?_, by omega, ?_⟩
  · show _ = [Value.slice _ (List.drop k d).length _]; rw [hdl]
  · show (List.drop k d).length ≤ c - k; omega
  · rcases h0 with h0 | ⟨b', off', hb, hlt, hx⟩
    · left
      have h0' : d.length = 0 := h0
      show (List.drop k d).length = 0
      omega
    · simp only [Option.some.injEq, Addr.mk.injEq, and_true] at hb
      obtain ⟨rfl, rfl⟩ := hb
      refine .inr ⟨b, off + k * e.size, rfl, hlt, fun i x hi => ?_⟩
      have hi' : d[k + i]? = some x := by
        have : (List.drop k d)[i]? = some x := hi
        rwa [List.getElem?_drop] at this
      obtain ⟨cc, hc, hcell, hr⟩ := hx (k + i) x hi'
      refine ⟨cc, hc, fun j hj => ?_, hr⟩
      have := hcell j hj
      rw [Nat.add_mul] at this
      rw [← this]
      congr 2
      omega

/-- No elements: whatever the address. -/
theorem reads_none {e : Sh} (w : World) (a : Option Addr) (c : Nat) (hc : c ≤ maxLen) : Reads (.sl e) w [.slice a 0 c] ([] : List e.D) := ⟨a, c, rfl, Nat.zero_le _, hc, .inl rfl⟩

end Go.Proofs.YtkfmpfbhhmmllaaGreat

/- ScP: Scanning a log: what it answers (plain facts). -/
namespace Go.Proofs.YtkfmpfbhhmmllaaGreat
open Go.RowKit
set_option linter.unusedVariables false

/-- What reading says where the code is 0. -/
theorem fr_ok (zs : List Int) (hz : Byt zs) (p : Nat) (h : (frAns zs (p : Int)).2.2.2 = 0) :
    1 ≤ (frAns zs (p : Int)).1 ∧ (frAns zs (p : Int)).1 ≤ 1000000000 ∧ (frAns zs (p : Int)).2.1.size ≤ 1000 ∧ ∃ nx : Nat, (frAns zs (p : Int)).2.2.1 = (nx : Int) ∧ p + 11 ≤ nx ∧ nx ≤ zs.length := by
  unfold frAns at h ⊢
  have eP : ((p : Int)).toNat = p := by omega
  rw [eP] at h ⊢
  have hs := gnum2_bd zs hz p
  have hn := gnum4_bd zs hz (p + 2)
  split at h
  · simp at h
  rename_i h1
  rw [if_neg h1]
  split at h
  · simp at h
  rename_i h2
  rw [if_neg h2]
  split at h
  · simp at h
  rename_i h3
  rw [if_neg h3]
  split at h
  · simp at h
  rename_i h4
  rw [if_neg h4]
  split at h
  · simp at h
  rename_i h5
  rw [if_neg h5]
  split at h
  · rename_i h6
    rw [if_pos h6]
    refine ⟨by show 1 ≤ gnum zs (p + 2) 4; omega, by show gnum zs (p + 2) 4 ≤ _; omega, ?_, p + 10 + (gnum zs p 2).toNat, ?_, by omega, by omega⟩
    · show (strOfNums _).size ≤ 1000
      rw [strOfNums_size, cutL_len _ _ _ (by omega)]
      omega
    · show (p : Int) + 10 + gnum zs p 2 = _
      omega
  · simp at h

def lastNum (acc : List EntD) : Option Int := prevN acc acc.length

def recOf (zs : List Int) (p : Nat) : EntD := ((frAns zs (p : Int)).1, (frAns zs (p : Int)).2.1, ())

/-- Whether reading goes on at p. -/
def goesOn (zs : List Int) (acc : List EntD) (p : Nat) : Bool := decide ((frAns zs (p : Int)).2.2.2 = 0) && linkB (lastNum acc) (frAns zs (p : Int)).1

def scanL (zs : List Int) : Nat → List EntD → Nat → List EntD × Nat
  | 0, acc, p => (acc, p)
  | f + 1, acc, p => if goesOn zs acc p then scanL zs f (acc ++ [recOf zs p]) (frAns zs (p : Int)).2.2.1.toNat else (acc, p)

def scanA (zs : List Int) : List EntD × Nat := scanL zs (zs.length + 1) [] 0

theorem scanL_on (zs : List Int) (f : Nat) (acc : List EntD) (p : Nat) (h : goesOn zs acc p = true) (hf : 0 < f) : scanL zs f acc p = scanL zs (f - 1) (acc ++ [recOf zs p]) (frAns zs (p : Int)).2.2.1.toNat := by
  cases f with
  | zero => omega
  | succ f => show (if goesOn zs acc p then _ else _) = _; rw [if_pos h]; rfl

theorem scanL_end (zs : List Int) (f : Nat) (acc : List EntD) (p : Nat) (h : goesOn zs acc p = false) : scanL zs f acc p = (acc, p) := by
  cases f with
  | zero => rfl
  | succ f => show (if goesOn zs acc p then _ else _) = _; rw [if_neg (by simp [h])]

def AccOk (acc : List EntD) : Prop := ∀ x ∈ acc, 1 ≤ x.1 ∧ x.1 ≤ 1000000000 ∧ ByteArray.size x.2.1 ≤ 1000

theorem accOk_snoc (acc : List EntD) (x : EntD) (h : AccOk acc) (hx : 1 ≤ x.1 ∧ x.1 ≤ 1000000000 ∧ ByteArray.size x.2.1 ≤ 1000) : AccOk (acc ++ [x]) := by
  intro y hy
  rcases List.mem_append.1 hy with h1 | h1
  · exact h y h1
  · simp at h1; subst h1; exact hx

theorem cellsE_at (l : List EntD) (k : Nat) (x : EntD) (h : l[k]? = some x) : (cellsE l)[k * 2]? = some (.int .i64 x.1) := by
  induction l generalizing k with
  | nil => simp at h
  | cons a l ih =>
    cases k with
    | zero => simp at h; subst h; simp [cellsE]
    | succ k =>
      simp at h
      have h1 := ih k h
      have e : cellsE (a :: l) = [Value.int .i64 a.1, Value.string a.2.1] ++ cellsE l := by simp [cellsE]
      rw [e, List.getElem?_append_right (by simp; omega)]
      have e2 : (k + 1) * 2 - [Value.int .i64 a.1, Value.string a.2.1].length = k * 2 := by simp; omega
      rw [e2]; exact h1

/-- The last entry of an owned row. -/
theorem own_last {w : World} {B g j c : Nat} {t : TypeId} {acc : List EntD} (h : w.ownsRow B t 2 (.slice (some ⟨g, 0, none⟩) (j + 1) c) (j + 1) (cellsE acc)) (hl : acc.length = j + 1) : ∃ z, acc[j]? = some z ∧ lastNum acc = some z.1 ∧ z ∈ acc ∧ w.cell? ⟨g, 0 + j * 2, none⟩ = some (.int .i64 z.1) := by
  have hj : j < acc.length := by omega
  have hz : acc[j]? = some acc[j] := List.getElem?_eq_getElem hj
  refine ⟨acc[j], hz, ?_, List.getElem_mem hj, ?_⟩
  · unfold lastNum; rw [hl]; exact prevN_succ acc j _ hz
  · have h1 := h.cells (g := g) rfl (j * 2) _ (cellsE_at acc j _ hz)
    have e : (⟨g, 0, none⟩ : Addr).add (j * 2) = ⟨g, 0 + j * 2, none⟩ := by simp [Addr.add]; omega
    rw [e] at h1
    exact h1

theorem own_sliceE {w : World} {B n : Nat} {e : TypeId} {size : Nat} {v : Value} {xs : List Value} (h : w.ownsRow B e size v n xs) : ∃ a c, v = .slice a n c := by
  rcases h.2 with ⟨h1, h2⟩ | ⟨g, cap, cur, hv, _⟩
  · exact ⟨none, 0, by rw [h1, h2]⟩
  · exact ⟨_, _, hv⟩

end Go.Proofs.YtkfmpfbhhmmllaaGreat

/- PutY: PutNum, the model's, where it says yes: the old bytes and the number's bytes, in new memory. -/
namespace Go.Proofs.YtkfmpfbhhmmllaaGreat
open Go.RowKit
set_option linter.unusedVariables false
set_option maxRecDepth 100000

theorem src_cells {w : World} {b off n : Nat} {zs : List Int} (hl : zs.length = n) (hc : ∀ i, i < n → w.cell? ⟨b, off + i, none⟩ = some (.int .u8 (zs[i]?.getD 0))) :
    ∀ j u, (zs.map (Value.int .u8))[j]? = some u → w.cell? ((⟨b, off, none⟩ : Addr).add j) = some u := by
  intro j u hj
  have hlt : j < zs.length := by
    by_cases h : j < zs.length
    · exact h
    · rw [List.getElem?_eq_none (by simp; omega)] at hj; cases hj
  have e : (⟨b, off, none⟩ : Addr).add j = ⟨b, off + j, none⟩ := by cases j <;> simp [Addr.add]
  rw [e, hc j (by omega)]
  simp [hlt] at hj ⊢
  exact hj

set_option maxHeartbeats 1000000 in
theorem specPut_yes (b off n cap : Nat) (zs : List Int) (N : Int) (S : Nat) (w : World) (hl : Hid (zs.length = n)) (hb : b < w.heap.size) (hc : ∀ i, i < n → w.cell? ⟨b, off + i, none⟩ = some (.int .u8 (zs[i]?.getD 0)))
    (hs1 : 1 ≤ S) (hs4 : S ≤ 4) (hN : 0 ≤ N) (hNp : N < pw S) (hn : n + S ≤ 65536) :
    Calls Tryz.prog 87 #[.slice (some ⟨b, off, none⟩) n cap, .int .i64 N, .int .i64 S] w fun e w' => ∃ v, e = .returned (.tuple #[v, .bool true]) ∧
      w'.ownsRow w.heap.size 5 1 v (n + S) ((zs ++ pdig N S S).map (Value.int .u8)) ∧ Below w.heap.size w w' := by
  obtain ⟨i0, hi, hz0, hz1, hz2⟩ := info_parts Tryz.infoB
  have hNb : N < 4294967296 := by
    match S, hs1, hs4, hNp with
    | 1, _, _, h => simp [pw] at h; omega
    | 2, _, _, h => simp [pw] at h; omega
    | 3, _, _, h => simp [pw] at h; omega
    | 4, _, _, h => simp [pw] at h; omega
  have hm0 : (0 : Nat) ≤ maxLen := Nat.zero_le _
  have hown00 := World.ownsRow_lit (base := w.heap.size) (e := 5) (size := 1) w #[] 0 (Nat.le_refl _) hm0 rfl
  go_enter Tryz.func87, Tryz.ntmps87
  go_wp2_with fail
  refine (pow_any S _ (by omega)).mono ?_
  rintro e w' ⟨rfl, rfl⟩
  go_wp2_with (at_builtin; refine wpList_append_own _ rfl _ _ 55 rfl w'.heap.size 5 i0 (.int .u8 0) 1 1 Tryz.underlying55 hi hz0 hz1 hz2 rfl (by decide) _ _ _ rfl hown00 ⟨b, off, none⟩ n _ (zs.map (Value.int .u8)) rfl ?c0 ?c1 ?c2 ?c3 ?c4 ?c5 ?_)
  case c0 => simp; exact hl.out
  case c1 =>
    refine src_cells hl.out fun i h => ?_
    exact (World.cell?_alloc_lt (a := ⟨b, off + i, none⟩) (h := hb) ..).trans (hc i h)
  case c2 => exact ints_oneCell _ _
  case c3 => unfold maxLen; omega
  case c4 => omega
  case c5 => simp
  intro v0 w1 hown1 hgrow1 _
  have hbel1 : Below w'.heap.size w' w1 := ((Below.refl _ _).alloc (Nat.le_refl _) _).grown hgrow1 (by simp) (fun k h => by simp [Value.ownBlock] at h; omega)
  clear hgrow1 hown00 hc hb
  go_wp2
  go_loopw [8, 9] (fun v i wr => ∃ j k : Nat, j + k = S ∧ i = .int .i64 ((j : Int) - 1) ∧ wr.ownsRow w'.heap.size 5 1 v (n + k) ((zs ++ pdig N S k).map (Value.int .u8)) ∧ Below w'.heap.size w' wr)
    (fun _ i _ => (intOf i + 1).toNat)
  case atStart => exact ⟨S, 0, rfl, rfl, by simpa [pdig] using hown1, hbel1⟩
  case round =>
    obtain ⟨j, k, hjk, rfl, hown, hbel⟩ := hrel
    match j, hjk with
    | 0, hjk =>
      have e : k = S := by omega
      subst e
      go_wp2
      go_ret2
      exact ⟨_, rfl, hown, hbel⟩
    | j + 1, hjk =>
      have e1 : (((j + 1 : Nat) : Int) - 1) = (j : Int) := by omega
      rw [e1]
      have hj0 : (0 : Int) ≤ (j : Int) := by omega
      have hp1 := pw_pos j
      have hp2 := pw_le j (by omega)
      have eS : S - 1 - k = j := by omega
      have hq0 : 0 ≤ N / pw j := Int.ediv_nonneg hN (by omega)
      have hq1 : N / pw j ≤ N := Int.ediv_le_self _ hN
      have hdig := pdig_succ N S k
      rw [eS] at hdig
      have HD : Hid (pdig N S (k + 1) = pdig N S k ++ [N / pw j % 256]) := hdig
      have hbs := hbel.size
      clear hdig eS e1
      go_wp2_with fail
      refine (pow_any j _ (by omega)).mono ?_
      rintro e w2 ⟨rfl, rfl⟩
      go_wp2_with (at_builtin; refine wpList_append_own _ rfl _ _ 55 rfl w'.heap.size 5 i0 (.int .u8 0) 1 1 Tryz.underlying55 hi hz0 hz1 hz2 rfl (by decide) _ _ _ rfl (hown.alloc _) ⟨_, 0, none⟩ 1 _ [.int .u8 (N / pw j % 256)] rfl rfl ?c1 ?c2 ?c3 ?c4 ?c5 ?_)
      case c1 => exact cell_one_new _ _ _
      case c2 => intro u hu; simp at hu; subst hu; rfl
      case c3 => unfold maxLen; omega
      case c4 => omega
      case c5 => simp; omega
      intro v3 w3 hown3 hgrow3 _
      have hlt3 := hown.lt
      have hbel3 : Below w'.heap.size w' w3 := (hbel.alloc hbs _).grown hgrow3 (by simp; omega) (fun x h => (hlt3 x h).1)
      have hown4 : w3.ownsRow w'.heap.size 5 1 v3 (n + (k + 1)) ((zs ++ pdig N S (k + 1)).map (Value.int .u8)) := by
        rw [HD.out]
        simpa [Nat.add_assoc] using hown3
      clear hown3 hgrow3 hlt3 hown
      go_wp2
      go_roundw
      case rel => exact ⟨j, k + 1, by omega, by go_num, hown4, hbel3⟩
      case measure => simp [intOf]

end Go.Proofs.YtkfmpfbhhmmllaaGreat

/- PutI: PutNum, the program's. -/
namespace Go.Proofs.YtkfmpfbhhmmllaaGreat
open Go.RowKit
set_option linter.unusedVariables false
set_option maxRecDepth 100000

theorem pw_two : ∀ j : Nat, pw j = 2 ^ (8 * j)
  | 0 => by simp [pw]
  | j + 1 => by
    have e : 8 * (j + 1) = 8 * j + 8 := by omega
    rw [pw, pw_two j, e, Int.pow_add]
    rfl

theorem sh_pw (S : Nat) (h1 : 1 ≤ S) (h4 : S ≤ 4) : wrap64 (2 ^ (8 * S)) = pw S := by
  match S, h1, h4 with
  | 1, _, _ => simp [wrap64, pw]
  | 2, _, _ => simp [wrap64, pw]
  | 3, _, _ => simp [wrap64, pw]
  | 4, _, _ => simp [wrap64, pw]

set_option maxHeartbeats 1000000 in
theorem implPut_no (a : Option Addr) (n cap : Nat) (N s : Int) (w : World) (hn : n ≤ 2097152) (hN : -9223372036854775808 ≤ N ∧ N ≤ 9223372036854775807) (hs : -9223372036854775808 ≤ s ∧ s ≤ 9223372036854775807) (h : ¬ pok n N s) :
    Calls Tryz.prog 114 #[.slice a n cap, .int .i64 N, .int .i64 s] w fun e w' => e = .returned (.tuple #[.slice none 0 0, .bool false]) ∧ w' = w := by
  unfold pok at h
  by_cases h1 : s < 1
  · clear h
    go_enter Tryz.func114, Tryz.ntmps114
    go_wp2
    go_ret2
    exact ⟨rfl, rfl⟩
  by_cases h2 : 4 < s
  · clear h
    go_enter Tryz.func114, Tryz.ntmps114
    go_wp2
    go_ret2
    exact ⟨rfl, rfl⟩
  by_cases h3 : N < 0
  · clear h
    go_enter Tryz.func114, Tryz.ntmps114
    go_wp2
    go_ret2
    exact ⟨rfl, rfl⟩
  obtain ⟨S, rfl⟩ := Int.eq_ofNat_of_zero_le (show 0 ≤ s by omega)
  have e : ((S : Int)).toNat = S := by omega
  rw [e] at h
  have hsh := sh_pw S (by omega) (by omega)
  by_cases h4 : pw S ≤ N
  · clear h
    go_enter Tryz.func114, Tryz.ntmps114
    go_wp2
    go_ret2
    exact ⟨rfl, rfl⟩
  have h5 : (65536 : Int) - S < n := by omega
  have h4' : N < pw S := by omega
  clear h
  go_enter Tryz.func114, Tryz.ntmps114
  go_wp2
  go_ret2
  exact ⟨rfl, rfl⟩

set_option maxHeartbeats 1000000 in
theorem implPut_yes (b off n cap : Nat) (zs : List Int) (N : Int) (S : Nat) (w : World) (hl : Hid (zs.length = n)) (hb : b < w.heap.size) (hc : ∀ i, i < n → w.cell? ⟨b, off + i, none⟩ = some (.int .u8 (zs[i]?.getD 0)))
    (hs1 : 1 ≤ S) (hs4 : S ≤ 4) (hN : 0 ≤ N) (hNp : N < pw S) (hn : n + S ≤ 65536) :
    Calls Tryz.prog 114 #[.slice (some ⟨b, off, none⟩) n cap, .int .i64 N, .int .i64 S] w fun e w' => ∃ v, e = .returned (.tuple #[v, .bool true]) ∧
      w'.ownsRow w.heap.size 5 1 v (n + S) ((zs ++ pdig N S S).map (Value.int .u8)) ∧ Below w.heap.size w w' := by
  obtain ⟨i0, hi, hz0, hz1, hz2⟩ := info_parts Tryz.infoB
  have hNb : N < 4294967296 := by
    match S, hs1, hs4, hNp with
    | 1, _, _, h => simp [pw] at h; omega
    | 2, _, _, h => simp [pw] at h; omega
    | 3, _, _, h => simp [pw] at h; omega
    | 4, _, _, h => simp [pw] at h; omega
  have hsh := sh_pw S (by omega) (by omega)
  go_enter Tryz.func114, Tryz.ntmps114
  go_wp2_with (first | (at_make; refine wpList_make_own _ rfl _ _ 55 rfl w.heap.size 5 i0 (.int .u8 0) 1 Tryz.underlying55 hi hz0 hz1 _ _ _ (n + S) rfl rfl ?b1 ?b2 ?b3 (Nat.le_refl _) ?_) | go_in)
  case b1 => omega
  case b2 => rw [hz2]; omega
  case b3 => unfold maxLen; omega
  intro w0 hown0 hgrow0
  have hbel0 : Below w.heap.size w w0 := (Below.refl _ _).grown hgrow0 (Nat.le_refl _) (fun k h => by cases h)
  have hbs0 := hbel0.size
  clear hgrow0
  go_wp2_with (at_builtin; refine wpList_append_own _ rfl _ _ 55 rfl w.heap.size 5 i0 (.int .u8 0) 1 1 Tryz.underlying55 hi hz0 hz1 hz2 rfl (by decide) _ _ _ rfl hown0 ⟨b, off, none⟩ n _ (zs.map (Value.int .u8)) rfl ?c0 ?c1 ?c2 ?c3 ?c4 ?c5 ?_)
  case c0 => simp; exact hl.out
  case c1 =>
    refine src_cells hl.out fun i h => ?_
    exact (hbel0.cell (p := ⟨b, off + i, none⟩) hb).trans (hc i h)
  case c2 => exact ints_oneCell _ _
  case c3 => unfold maxLen; omega
  case c4 => omega
  case c5 => omega
  intro v1 w1 hown1 hgrow1 _
  have hbel1 : Below w.heap.size w w1 := hbel0.grown hgrow1 hbs0 (fun k h => by simp [Value.ownBlock] at h; omega)
  clear hgrow1 hown0 hc hb hbel0 hbs0
  go_wp2
  go_loopw [8, 40] (fun v i wr => ∃ k : Nat, k ≤ S ∧ i = .int .i64 k ∧ wr.ownsRow w.heap.size 5 1 v (n + k) ((zs ++ pdig N S k).map (Value.int .u8)) ∧ Below w.heap.size w wr)
    (fun _ i _ => S - (intOf i).toNat)
  case atStart => exact ⟨0, Nat.zero_le _, rfl, by simpa [pdig] using hown1, hbel1⟩
  case round =>
    obtain ⟨k, hk, rfl, hown, hbel⟩ := hrel
    by_cases hlt : k < S
    · have hbs := hbel.size
      have HD : Hid (pdig N S (k + 1) = pdig N S k ++ [N / 2 ^ (8 * (S - 1 - k)) % 256]) := by
        show pdig N S (k + 1) = _
        rw [pdig_succ, pw_two]
      go_wp2_with (at_builtin; refine wpList_append_own _ rfl _ _ 55 rfl w.heap.size 5 i0 (.int .u8 0) 1 1 Tryz.underlying55 hi hz0 hz1 hz2 rfl (by decide) _ _ _ rfl (hown.alloc _) ⟨_, 0, none⟩ 1 _ [.int .u8 (N / 2 ^ (8 * (S - 1 - k)) % 256)] rfl rfl ?c1 ?c2 ?c3 ?c4 ?c5 ?_)
      case c1 => exact cell_one_new _ _ _
      case c2 => intro u hu; simp at hu; subst hu; rfl
      case c3 => unfold maxLen; omega
      case c4 => omega
      case c5 => simp; omega
      intro v3 w3 hown3 hgrow3 _
      have hlt3 := hown.lt
      have hbel3 : Below w.heap.size w w3 := (hbel.alloc hbs _).grown hgrow3 (by simp; omega) (fun x h => (hlt3 x h).1)
      have hown4 : w3.ownsRow w.heap.size 5 1 v3 (n + (k + 1)) ((zs ++ pdig N S (k + 1)).map (Value.int .u8)) := by
        rw [HD.out]
        simpa [Nat.add_assoc] using hown3
      clear hown3 hgrow3 hlt3 hown
      go_wp2
      go_roundw
      case rel => exact ⟨k + 1, by omega, by go_num, hown4, hbel3⟩
      case measure => simp [intOf]; omega
    · have e : k = S := by omega
      subst e
      go_wp2
      go_ret2
      exact ⟨_, rfl, hown, hbel⟩

end Go.Proofs.YtkfmpfbhhmmllaaGreat

/- PutV: PutNum, the model's and the program's, where it says yes: of a slice that may be nil. -/
namespace Go.Proofs.YtkfmpfbhhmmllaaGreat
open Go.RowKit
set_option linter.unusedVariables false
set_option maxRecDepth 100000

set_option maxHeartbeats 1000000 in
theorem specPut_src (a : Option Addr) (n cap : Nat) (zs : List Int) (N : Int) (S : Nat) (w : World) (hl : Hid (zs.length = n)) (hc : Src w (.slice a n cap) n (zs.map (Value.int .u8)))
    (hs1 : 1 ≤ S) (hs4 : S ≤ 4) (hN : 0 ≤ N) (hNp : N < pw S) (hn : n + S ≤ 65536) :
    Calls Tryz.prog 87 #[.slice a n cap, .int .i64 N, .int .i64 S] w fun e w' => ∃ v, e = .returned (.tuple #[v, .bool true]) ∧
      w'.ownsRow w.heap.size 5 1 v (n + S) ((zs ++ pdig N S S).map (Value.int .u8)) ∧ Below w.heap.size w w' := by
  obtain ⟨i0, hi, hz0, hz1, hz2⟩ := info_parts Tryz.infoB
  have hNb : N < 4294967296 := by
    match S, hs1, hs4, hNp with
    | 1, _, _, h => simp [pw] at h; omega
    | 2, _, _, h => simp [pw] at h; omega
    | 3, _, _, h => simp [pw] at h; omega
    | 4, _, _, h => simp [pw] at h; omega
  have hm0 : (0 : Nat) ≤ maxLen := Nat.zero_le _
  have hown00 := World.ownsRow_lit (base := w.heap.size) (e := 5) (size := 1) w #[] 0 (Nat.le_refl _) hm0 rfl
  go_enter Tryz.func87, Tryz.ntmps87
  go_wp2_with fail
  refine (pow_any S _ (by omega)).mono ?_
  rintro e w' ⟨rfl, rfl⟩
  go_wp2_with (at_builtin; refine wpList_append_src rfl _ _ 55 rfl w'.heap.size 5 i0 (.int .u8 0) 1 1 Tryz.underlying55 hi hz0 hz1 hz2 rfl (by decide) _ _ _ rfl hown00 (.slice a n cap) n (zs.map (Value.int .u8)) rfl ?c0 ?c1 ?c2 ?c3 ?c4 ?c5 ?_)
  case c0 => simp; exact hl.out
  case c1 => exact src_later hc ((Below.refl _ _).alloc (Nat.le_refl _) _)
  case c2 => exact ints_oneCell _ _
  case c3 => unfold maxLen; omega
  case c4 => omega
  case c5 => simp
  intro v0 w1 hown1 hgrow1
  have hbel1 : Below w'.heap.size w' w1 := ((Below.refl _ _).alloc (Nat.le_refl _) _).grown hgrow1 (by simp) (fun k h => by simp [Value.ownBlock] at h; omega)
  clear hgrow1 hown00 hc
  go_wp2
  go_loopw [8, 9] (fun v i wr => ∃ j k : Nat, j + k = S ∧ i = .int .i64 ((j : Int) - 1) ∧ wr.ownsRow w'.heap.size 5 1 v (n + k) ((zs ++ pdig N S k).map (Value.int .u8)) ∧ Below w'.heap.size w' wr)
    (fun _ i _ => (intOf i + 1).toNat)
  case atStart => exact ⟨S, 0, rfl, rfl, by simpa [pdig] using hown1, hbel1⟩
  case round =>
    obtain ⟨j, k, hjk, rfl, hown, hbel⟩ := hrel
    match j, hjk with
    | 0, hjk =>
      have e : k = S := by omega
      subst e
      go_wp2
      go_ret2
      exact ⟨_, rfl, hown, hbel⟩
    | j + 1, hjk =>
      have e1 : (((j + 1 : Nat) : Int) - 1) = (j : Int) := by omega
      rw [e1]
      have hj0 : (0 : Int) ≤ (j : Int) := by omega
      have hp1 := pw_pos j
      have hp2 := pw_le j (by omega)
      have eS : S - 1 - k = j := by omega
      have hq0 : 0 ≤ N / pw j := Int.ediv_nonneg hN (by omega)
      have hq1 : N / pw j ≤ N := Int.ediv_le_self _ hN
      have hdig := pdig_succ N S k
      rw [eS] at hdig
      have HD : Hid (pdig N S (k + 1) = pdig N S k ++ [N / pw j % 256]) := hdig
      have hbs := hbel.size
      clear hdig eS e1
      go_wp2_with fail
      refine (pow_any j _ (by omega)).mono ?_
      rintro e w2 ⟨rfl, rfl⟩
      go_wp2_with (at_builtin; refine wpList_append_own _ rfl _ _ 55 rfl w'.heap.size 5 i0 (.int .u8 0) 1 1 Tryz.underlying55 hi hz0 hz1 hz2 rfl (by decide) _ _ _ rfl (hown.alloc _) ⟨_, 0, none⟩ 1 _ [.int .u8 (N / pw j % 256)] rfl rfl ?c1 ?c2 ?c3 ?c4 ?c5 ?_)
      case c1 => exact cell_one_new _ _ _
      case c2 => intro u hu; simp at hu; subst hu; rfl
      case c3 => unfold maxLen; omega
      case c4 => omega
      case c5 => simp; omega
      intro v3 w3 hown3 hgrow3 _
      have hlt3 := hown.lt
      have hbel3 : Below w'.heap.size w' w3 := (hbel.alloc hbs _).grown hgrow3 (by simp; omega) (fun x h => (hlt3 x h).1)
      have hown4 : w3.ownsRow w'.heap.size 5 1 v3 (n + (k + 1)) ((zs ++ pdig N S (k + 1)).map (Value.int .u8)) := by
        rw [HD.out]
        simpa [Nat.add_assoc] using hown3
      clear hown3 hgrow3 hlt3 hown
      go_wp2
      go_roundw
      case rel => exact ⟨j, k + 1, by omega, by go_num, hown4, hbel3⟩
      case measure => simp [intOf]

set_option maxHeartbeats 1000000 in
theorem implPut_src (a : Option Addr) (n cap : Nat) (zs : List Int) (N : Int) (S : Nat) (w : World) (hl : Hid (zs.length = n)) (hc : Src w (.slice a n cap) n (zs.map (Value.int .u8)))
    (hs1 : 1 ≤ S) (hs4 : S ≤ 4) (hN : 0 ≤ N) (hNp : N < pw S) (hn : n + S ≤ 65536) :
    Calls Tryz.prog 114 #[.slice a n cap, .int .i64 N, .int .i64 S] w fun e w' => ∃ v, e = .returned (.tuple #[v, .bool true]) ∧
      w'.ownsRow w.heap.size 5 1 v (n + S) ((zs ++ pdig N S S).map (Value.int .u8)) ∧ Below w.heap.size w w' := by
  obtain ⟨i0, hi, hz0, hz1, hz2⟩ := info_parts Tryz.infoB
  have hNb : N < 4294967296 := by
    match S, hs1, hs4, hNp with
    | 1, _, _, h => simp [pw] at h; omega
    | 2, _, _, h => simp [pw] at h; omega
    | 3, _, _, h => simp [pw] at h; omega
    | 4, _, _, h => simp [pw] at h; omega
  have hsh := sh_pw S (by omega) (by omega)
  go_enter Tryz.func114, Tryz.ntmps114
  go_wp2_with (first | (at_make; refine wpList_make_own _ rfl _ _ 55 rfl w.heap.size 5 i0 (.int .u8 0) 1 Tryz.underlying55 hi hz0 hz1 _ _ _ (n + S) rfl rfl ?b1 ?b2 ?b3 (Nat.le_refl _) ?_) | go_in)
  case b1 => omega
  case b2 => rw [hz2]; omega
  case b3 => unfold maxLen; omega
  intro w0 hown0 hgrow0
  have hbel0 : Below w.heap.size w w0 := (Below.refl _ _).grown hgrow0 (Nat.le_refl _) (fun k h => by cases h)
  have hbs0 := hbel0.size
  clear hgrow0
  go_wp2_with (at_builtin; refine wpList_append_src rfl _ _ 55 rfl w.heap.size 5 i0 (.int .u8 0) 1 1 Tryz.underlying55 hi hz0 hz1 hz2 rfl (by decide) _ _ _ rfl hown0 (.slice a n cap) n (zs.map (Value.int .u8)) rfl ?c0 ?c1 ?c2 ?c3 ?c4 ?c5 ?_)
  case c0 => simp; exact hl.out
  case c1 => exact src_later hc hbel0
  case c2 => exact ints_oneCell _ _
  case c3 => unfold maxLen; omega
  case c4 => omega
  case c5 => omega
  intro v1 w1 hown1 hgrow1
  have hbel1 : Below w.heap.size w w1 := hbel0.grown hgrow1 hbs0 (fun k h => by simp [Value.ownBlock] at h; omega)
  clear hgrow1 hown0 hc hbel0 hbs0
  go_wp2
  go_loopw [8, 40] (fun v i wr => ∃ k : Nat, k ≤ S ∧ i = .int .i64 k ∧ wr.ownsRow w.heap.size 5 1 v (n + k) ((zs ++ pdig N S k).map (Value.int .u8)) ∧ Below w.heap.size w wr)
    (fun _ i _ => S - (intOf i).toNat)
  case atStart => exact ⟨0, Nat.zero_le _, rfl, by simpa [pdig] using hown1, hbel1⟩
  case round =>
    obtain ⟨k, hk, rfl, hown, hbel⟩ := hrel
    by_cases hlt : k < S
    · have hbs := hbel.size
      have HD : Hid (pdig N S (k + 1) = pdig N S k ++ [N / 2 ^ (8 * (S - 1 - k)) % 256]) := by
        show pdig N S (k + 1) = _
        rw [pdig_succ, pw_two]
      go_wp2_with (at_builtin; refine wpList_append_own _ rfl _ _ 55 rfl w.heap.size 5 i0 (.int .u8 0) 1 1 Tryz.underlying55 hi hz0 hz1 hz2 rfl (by decide) _ _ _ rfl (hown.alloc _) ⟨_, 0, none⟩ 1 _ [.int .u8 (N / 2 ^ (8 * (S - 1 - k)) % 256)] rfl rfl ?c1 ?c2 ?c3 ?c4 ?c5 ?_)
      case c1 => exact cell_one_new _ _ _
      case c2 => intro u hu; simp at hu; subst hu; rfl
      case c3 => unfold maxLen; omega
      case c4 => omega
      case c5 => simp; omega
      intro v3 w3 hown3 hgrow3 _
      have hlt3 := hown.lt
      have hbel3 : Below w.heap.size w w3 := (hbel.alloc hbs _).grown hgrow3 (by simp; omega) (fun x h => (hlt3 x h).1)
      have hown4 : w3.ownsRow w.heap.size 5 1 v3 (n + (k + 1)) ((zs ++ pdig N S (k + 1)).map (Value.int .u8)) := by
        rw [HD.out]
        simpa [Nat.add_assoc] using hown3
      clear hown3 hgrow3 hlt3 hown
      go_wp2
      go_roundw
      case rel => exact ⟨k + 1, by omega, by go_num, hown4, hbel3⟩
      case measure => simp [intOf]; omega
    · have e : k = S := by omega
      subst e
      go_wp2
      go_ret2
      exact ⟨_, rfl, hown, hbel⟩

end Go.Proofs.YtkfmpfbhhmmllaaGreat
