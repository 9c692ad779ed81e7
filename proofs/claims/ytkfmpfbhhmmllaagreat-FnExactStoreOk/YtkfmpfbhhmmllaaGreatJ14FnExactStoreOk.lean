/-
  Joined: StOk, LStoreOk, WStoreOk.
-/
import Derived.Test.YtkfmpfbhhmmllaaGreatJ2FnExactStoreOk
import Derived.Test.YtkfmpfbhhmmllaaGreatJ13FnExactStoreOk
import Derived.Test.YtkfmpfbhhmmllaaGreatJ12FnExactStoreOk
/- StOk: StoreOk of both sides. By program (stokgen.py). -/
namespace Go.Proofs.YtkfmpfbhhmmllaaGreat
open Go.RowKit
set_option linter.unusedVariables false
set_option maxRecDepth 100000
set_option linter.unusedSimpArgs false

theorem specOkS_ok (cs : List Value) (d : shDisk.D) (w : World) (hr : Reads shDisk w cs d) (hs : shDisk.sz d ≤ 1048576) :
    Calls Tryz.prog 20 #[.agg cs.toArray] w fun e w' => e = .returned (.bool (implOkB d)) ∧ Below w.heap.size w w' :=
  specOk_ok (implOkB d) cs d w (fun h => (ok_same d).1 h) (fun h => by
    cases e : implOkB d with
    | false => rfl
    | true => exact absurd ((ok_same d).2 e) h) hr hs

/-- Bytes of the call's own as a string. -/
theorem conv_own {w : World} {B : Nat} {a : Option Addr} {n c : Nat} {zs : List Int} {F : List Nat} (hl : zs.length = n) (h : Own (.sl .u8) w B [.slice a n c] zs F) :
    (convert 55 9 (.slice a n c)).run Tryz.prog w = .ok (.string (strOfNums zs)) w := by
  cases a with
  | none =>
    obtain ⟨rfl, rfl, rfl⟩ := own_nil h
    exact run_convert_bytes_nil w 55 5 Tryz.underlying55 Tryz.underlying5 0 0 9 Tryz.underlying9
  | some ad =>
    obtain ⟨g, rfl, _, hg, _⟩ := own_block h
    refine run_convert_bytes_arg (P := Tryz.prog) w 55 5 Tryz.underlying55 Tryz.underlying5 g 0 n c zs hl ?_ 9 Tryz.underlying9
    intro i hi
    rcases (reads_bytes h.reads).2.1.2 with hz | ⟨b, off, e, _, hc⟩
    · subst hz; simp at hl; omega
    · simp only [Option.some.injEq, Addr.mk.injEq, and_true] at e
      obtain ⟨rfl, rfl⟩ := e
      have := hc i (by omega)
      simpa using this

theorem str_eq_iff {xs ys : List Int} (hx : Byt xs) (hy : Byt ys) : ((strOfNums xs).toList == (strOfNums ys).toList) = decide (xs = ys) := by
  by_cases h : xs = ys
  · subst h; simp
  · rw [decide_eq_false h]
    cases e : ((strOfNums xs).toList == (strOfNums ys).toList) with
    | false => rfl
    | true => exact absurd (strNums_inj xs ys hx hy (toList_inj (eq_of_beq e))) h

set_option maxRecDepth 100000 in
set_option maxHeartbeats 1000000 in
theorem bytesEqual_ok (a1 : Option Addr) (n1 c1 : Nat) (xs : List Int) (a2 : Option Addr) (n2 c2 : Nat) (ys : List Int) (B1 B2 : Nat) (F1 F2 : List Nat) (w : World) (l1 : xs.length = n1) (l2 : ys.length = n2) (h1 : Own (.sl .u8) w B1 [.slice a1 n1 c1] xs F1) (h2 : Own (.sl .u8) w B2 [.slice a2 n2 c2] ys F2) :
    Calls Tryz.prog 69 #[.slice a1 n1 c1, .slice a2 n2 c2] w fun e w' => e = .returned (.bool (decide (xs = ys))) ∧ Below w.heap.size w w' := by
  have k1 := conv_own l1 h1
  have k2 := conv_own l2 h2
  have ke := str_eq_iff (reads_bytes h1.reads).2.1.1 (reads_bytes h2.reads).2.1.1
  have HE : Hid (((strOfNums xs).toList == (strOfNums ys).toList) = decide (xs = ys)) := ke
  clear h1 h2 ke l1 l2
  go_enter Tryz.func69, Tryz.ntmps69
  go_wp2
  go_ret
  exact ⟨by rw [← HE.out]; rfl, Below.refl _ _⟩

/-- Keep and Size are within their limits. -/
def keepB (k s : Int) : Bool := decide (1 ≤ k) && decide (k ≤ 100) && decide (0 ≤ s) && decide (s ≤ 60000)

theorem implKeep_ok (k s : Int) (w : World) : Calls Tryz.prog 27 #[.int .i64 k, .int .i64 s] w fun e w' => e = .returned (.bool (keepB k s)) ∧ w' = w := by
  by_cases h1 : 1 ≤ k
  rotate_left
  · have HB : Hid (keepB k s = false) := by show _ = _; unfold keepB; simp only [Bool.and_eq_false_iff, decide_eq_false_iff_not]; omega
    go_enter Tryz.func27, Tryz.ntmps27
    go_wp2
    go_ret
    exact ⟨by rw [HB.out]; rfl, rfl⟩
  by_cases h2 : k ≤ 100
  rotate_left
  · have HB : Hid (keepB k s = false) := by show _ = _; unfold keepB; simp only [Bool.and_eq_false_iff, decide_eq_false_iff_not]; omega
    go_enter Tryz.func27, Tryz.ntmps27
    go_wp2
    go_ret
    exact ⟨by rw [HB.out]; rfl, rfl⟩
  by_cases h3 : 0 ≤ s
  rotate_left
  · have HB : Hid (keepB k s = false) := by show _ = _; unfold keepB; simp only [Bool.and_eq_false_iff, decide_eq_false_iff_not]; omega
    go_enter Tryz.func27, Tryz.ntmps27
    go_wp2
    go_ret
    exact ⟨by rw [HB.out]; rfl, rfl⟩
  by_cases h4 : s ≤ 60000
  rotate_left
  · have HB : Hid (keepB k s = false) := by show _ = _; unfold keepB; simp only [Bool.and_eq_false_iff, decide_eq_false_iff_not]; omega
    go_enter Tryz.func27, Tryz.ntmps27
    go_wp2
    go_ret
    exact ⟨by rw [HB.out]; rfl, rfl⟩
  have HB : Hid (keepB k s = true) := by show _ = _; unfold keepB; simp [h1, h2, h3, h4]
  go_enter Tryz.func27, Tryz.ntmps27
  go_wp2
  go_ret
  exact ⟨by rw [HB.out]; rfl, rfl⟩

theorem specKeep_ok (k s : Int) (w : World) : Calls Tryz.prog 21 #[.int .i64 k, .int .i64 s] w fun e w' => e = .returned (.bool (keepB k s)) ∧ w' = w := by
  by_cases h1 : 1 ≤ k
  rotate_left
  · have HB : Hid (keepB k s = false) := by show _ = _; unfold keepB; simp only [Bool.and_eq_false_iff, decide_eq_false_iff_not]; omega
    go_enter Tryz.func21, Tryz.ntmps21
    go_wp2
    go_ret
    exact ⟨by rw [HB.out]; rfl, rfl⟩
  by_cases h2 : k ≤ 100
  rotate_left
  · have HB : Hid (keepB k s = false) := by show _ = _; unfold keepB; simp only [Bool.and_eq_false_iff, decide_eq_false_iff_not]; omega
    go_enter Tryz.func21, Tryz.ntmps21
    go_wp2
    go_ret
    exact ⟨by rw [HB.out]; rfl, rfl⟩
  by_cases h3 : 0 ≤ s
  rotate_left
  · have HB : Hid (keepB k s = false) := by show _ = _; unfold keepB; simp only [Bool.and_eq_false_iff, decide_eq_false_iff_not]; omega
    go_enter Tryz.func21, Tryz.ntmps21
    go_wp2
    go_ret
    exact ⟨by rw [HB.out]; rfl, rfl⟩
  by_cases h4 : s ≤ 60000
  rotate_left
  · have HB : Hid (keepB k s = false) := by show _ = _; unfold keepB; simp only [Bool.and_eq_false_iff, decide_eq_false_iff_not]; omega
    go_enter Tryz.func21, Tryz.ntmps21
    go_wp2
    go_ret
    exact ⟨by rw [HB.out]; rfl, rfl⟩
  have HB : Hid (keepB k s = true) := by show _ = _; unfold keepB; simp [h1, h2, h3, h4]
  go_enter Tryz.func21, Tryz.ntmps21
  go_wp2
  go_ret
  exact ⟨by rw [HB.out]; rfl, rfl⟩

def isZ (x : Int) : Bool := decide (x = 0)

/-- The file is the list's. -/
def fileB (d : shDisk.D) (l : List EntD) (len : Int) : Bool := (rdA d histB).2 && decide ((logL l).length ≤ 65536) && decide ((rdA d histB).1 = logL l) && decide (len = ((rdA d histB).1.length : Int)) && !(rdA d tempB).2
def storeB (d : shStore.D) : Bool := implOkB d.1 && keepB d.2.1 d.2.2.1 && entsB d.2.2.2.1 && (isZ d.1.2.1 || fileB d.1 d.2.2.2.1 d.2.2.2.2.1)

set_option maxRecDepth 100000 in
set_option maxHeartbeats 1000000 in
theorem fileThere_ok (cs : List Value) (d : shDisk.D) (name : ByteArray) (B : Nat) (G : List Nat) (w : World) (ho : Own shDisk w B cs d G) (hs : shDisk.sz d ≤ 1048576) (hname : name.size ≤ maxLen) :
    Calls Tryz.prog 70 #[.agg cs.toArray, .string name] w fun e w' => e = .returned (.bool (rdA d name).2) ∧ Below w.heap.size w w' := by
  obtain ⟨a3, n3, c3, F3, a4, n4, c4, F4, a5, n5, c5, F5, rfl, _, o3, o4, o5⟩ := openO_Disk ho
  obtain ⟨x0, e0⟩ : ∃ x : Int, x = d.1 := ⟨_, rfl⟩
  obtain ⟨x1, e1⟩ : ∃ x : Int, x = d.2.1 := ⟨_, rfl⟩
  obtain ⟨x2, e2⟩ : ∃ x : Int, x = d.2.2.1 := ⟨_, rfl⟩
  obtain ⟨vb, hvb⟩ : ∃ z, z = (rdA d name).2 := ⟨_, rfl⟩
  have qrd : Hid (∀ w', Below w.heap.size w w' → Calls Tryz.prog 67 #[.agg #[.int .i64 x0, .int .i64 x1, .int .i64 x2, .slice a3 n3 c3, .slice a4 n4 c4, .slice a5 n5 c5], .string name] w' fun e w'' => ∃ v, e = .returned (.tuple #[v, .bool vb]) ∧ Below w'.heap.size w' w'') := fun w' h' => by
    rw [e0, e1, e2, hvb]
    refine (implRead_any _ d name B G w' (ho.later h') hs hname).mono ?_
    rintro e w'' ⟨v, F, rfl, _, _, hb⟩
    exact ⟨v, rfl, hb⟩
  rw [← e0, ← e1, ← e2, ← hvb]
  have bW0 : Below w.heap.size w (w.alloc (.cells #[.int .i64 x0, .int .i64 x1, .int .i64 x2, .slice a3 n3 c3, .slice a4 n4 c4, .slice a5 n5 c5] 36)) := (Below.refl _ _).alloc (Nat.le_refl _) _
  clear ho hs o3 o4 o5 e0 e1 e2 hvb hname
  go_enter Tryz.func70, Tryz.ntmps70
  go_wp2_with fail
  refine (qrd.out _ bW0).mono ?_
  rintro e w1 ⟨v, rfl, hb1⟩
  have b1 := bW0.trans (hb1.mono bW0.size)
  clear hb1
  go_wp2
  go_ret
  exact ⟨rfl, b1⟩

theorem ownD_Store {w : World} {B : Nat} {d : shStore.D} {F : List Nat} {v0 v1 v2 v3 v4 v5 v6 v7 v8 v9 : Value} (h : Own shStore w B [v0, v1, v2, v3, v4, v5, v6, v7, v8, v9] d F) : ∃ G, Own shDisk w B [v0, v1, v2, v3, v4, v5] d.1 G := by
  obtain ⟨c1, c2, F1, F2, e, _, h1, _⟩ := h
  have hl : c1.length = 6 := shDisk.ow_length h1
  have e1 : c1 = [v0, v1, v2, v3, v4, v5] := by
    have := congrArg (List.take 6) e
    rw [List.take_left' hl] at this
    simpa using this.symm
  exact ⟨F1, e1 ▸ h1⟩

theorem sz_StoreD {d : shStore.D} (h : shStore.sz d ≤ 1048576) : shDisk.sz d.1 ≤ 1048576 := by
  rw [sz_Store] at h
  have : Sh.sz shDisk d.1 = shDisk.sz d.1 := rfl
  omega

/-- The bytes of a list. -/
theorem implLogA (a : Option Addr) (n c : Nat) (l : List EntD) (w : World) (hr : Reads (.sl shEntry) w [.slice a n c] l) (hE : entsB l = true) :
    Calls Tryz.prog 68 #[.slice a n c] w fun e w' => ∃ va nv vc, ∃ zs : List Int, ∃ F, e = .returned (.tuple #[.slice va nv vc, .bool (decide ((logL l).length ≤ 65536))]) ∧ Own (.sl .u8) w' w.heap.size [.slice va nv vc] zs F ∧ zs.length = nv ∧ (decide ((logL l).length ≤ 65536) = true → zs = logL l) ∧ Below w.heap.size w w' := by
  refine (implLog_good a n c l w hr hE).mono ?_
  rintro e w' ⟨hb, ⟨h1, v, rfl, ho⟩ | ⟨h1, rfl⟩⟩
  · obtain ⟨F, hF, _⟩ := own_row rfl (byt_logL l) ho
    obtain ⟨a', c', rfl, _⟩ := own_val hF
    exact ⟨a', _, c', logL l, F, by rw [decide_eq_true h1], hF, rfl, fun _ => rfl, hb⟩
  · refine ⟨none, 0, 0, [], [], by rw [decide_eq_false (by omega)], .inl ⟨rfl, rfl, rfl⟩, rfl, fun h => ?_, hb⟩
    have := of_decide_eq_true h; omega
theorem specLogA (a : Option Addr) (n c : Nat) (l : List EntD) (w : World) (hr : Reads (.sl shEntry) w [.slice a n c] l) (hE : entsB l = true) :
    Calls Tryz.prog 24 #[.slice a n c] w fun e w' => ∃ va nv vc, ∃ zs : List Int, ∃ F, e = .returned (.tuple #[.slice va nv vc, .bool (decide ((logL l).length ≤ 65536))]) ∧ Own (.sl .u8) w' w.heap.size [.slice va nv vc] zs F ∧ zs.length = nv ∧ (decide ((logL l).length ≤ 65536) = true → zs = logL l) ∧ Below w.heap.size w w' := by
  refine (specLog_good a n c l w hr hE).mono ?_
  rintro e w' ⟨hb, ⟨h1, v, rfl, ho⟩ | ⟨h1, rfl⟩⟩
  · obtain ⟨F, hF, _⟩ := own_row rfl (byt_logL l) ho
    obtain ⟨a', c', rfl, _⟩ := own_val hF
    exact ⟨a', _, c', logL l, F, by rw [decide_eq_true h1], hF, rfl, fun _ => rfl, hb⟩
  · refine ⟨none, 0, 0, [], [], by rw [decide_eq_false (by omega)], .inl ⟨rfl, rfl, rfl⟩, rfl, fun h => ?_, hb⟩
    have := of_decide_eq_true h; omega

set_option maxRecDepth 100000 in
set_option maxHeartbeats 4000000 in
theorem fileOk_ok (cs : List Value) (d : shStore.D) (B : Nat) (G : List Nat) (w : World) (ho : Own shStore w B cs d G) (hs : shStore.sz d ≤ 1048576) (hE0 : entsB d.2.2.2.1 = true) :
    Calls Tryz.prog 29 #[.agg cs.toArray] w fun e w' => e = .returned (.bool (fileB d.1 d.2.2.2.1 d.2.2.2.2.1)) ∧ Below w.heap.size w w' := by
  have hsd := sz_StoreD hs
  obtain ⟨a3, n3, c3, a4, n4, c4, a5, n5, c5, a8, n8, c8, rfl, r0, r3⟩ := open_Store ho.reads
  obtain ⟨G0, o0⟩ := ownD_Store ho
  obtain ⟨x0, e0⟩ : ∃ x : Int, x = d.1.1 := ⟨_, rfl⟩
  obtain ⟨x1, e1⟩ : ∃ x : Int, x = d.1.2.1 := ⟨_, rfl⟩
  obtain ⟨x2, e2⟩ : ∃ x : Int, x = d.1.2.2.1 := ⟨_, rfl⟩
  obtain ⟨x6, e6⟩ : ∃ x : Int, x = d.2.1 := ⟨_, rfl⟩
  obtain ⟨x7, e7⟩ : ∃ x : Int, x = d.2.2.1 := ⟨_, rfl⟩
  obtain ⟨x9, e9⟩ : ∃ x : Int, x = d.2.2.2.2.1 := ⟨_, rfl⟩
  obtain ⟨zs, hzs⟩ : ∃ z : List Int, z = (rdA d.1 histB).1 := ⟨_, rfl⟩
  obtain ⟨vb, hvb⟩ : ∃ z, z = (rdA d.1 histB).2 := ⟨_, rfl⟩
  obtain ⟨zt, hzt⟩ : ∃ z : List Int, z = (rdA d.1 tempB).1 := ⟨_, rfl⟩
  obtain ⟨vt, hvt⟩ : ∃ z, z = (rdA d.1 tempB).2 := ⟨_, rfl⟩
  obtain ⟨l, hl⟩ : ∃ l : List EntD, l = d.2.2.2.1 := ⟨_, rfl⟩
  obtain ⟨ft, hft⟩ : ∃ b, b = decide ((logL l).length ≤ 65536) := ⟨_, rfl⟩
  have HF : Hid (fileB d.1 d.2.2.2.1 d.2.2.2.2.1 = (vb && ft && decide (zs = logL l) && decide (x9 = (zs.length : Int)) && !vt)) := by
    show _ = _
    unfold fileB
    rw [← hvb, ← hvt, ← hzs, ← hl, ← hft, e9]
  have hE : entsB l = true := by rw [hl]; exact hE0
  have qrd : Hid (∀ w', Below w.heap.size w w' → Calls Tryz.prog 67 #[.agg #[.int .i64 x0, .int .i64 x1, .int .i64 x2, .slice a3 n3 c3, .slice a4 n4 c4, .slice a5 n5 c5], .string histB] w' fun e w'' => ∃ va nv vc F, e = .returned (.tuple #[.slice va nv vc, .bool vb]) ∧ Own (.sl .u8) w'' w'.heap.size [.slice va nv vc] zs F ∧ nv = zs.length ∧ Below w'.heap.size w' w'') := fun w' h' => by
    rw [e0, e1, e2, hvb, hzs]
    refine (implRead_any _ d.1 histB B G0 w' (o0.later h') hsd histB_small).mono ?_
    rintro e w'' ⟨v, F, rfl, p, _, hb⟩
    obtain ⟨a', c', rfl, _⟩ := own_val p
    exact ⟨a', _, c', F, rfl, p, rfl, hb⟩
  have qlg : Hid (∀ w', Below w.heap.size w w' → Calls Tryz.prog 68 #[.slice a8 n8 c8] w' fun e w'' => ∃ va nv vc, ∃ ys : List Int, ∃ F, e = .returned (.tuple #[.slice va nv vc, .bool ft]) ∧ Own (.sl .u8) w'' w'.heap.size [.slice va nv vc] ys F ∧ ys.length = nv ∧ (ft = true → ys = logL l) ∧ Below w'.heap.size w' w'') := fun w' h' => by
    rw [hft]
    exact implLogA a8 n8 c8 l w' (by rw [hl]; exact r3.later h') hE
  have qth : Hid (∀ w', Below w.heap.size w w' → Calls Tryz.prog 70 #[.agg #[.int .i64 x0, .int .i64 x1, .int .i64 x2, .slice a3 n3 c3, .slice a4 n4 c4, .slice a5 n5 c5], .string tempB] w' fun e w'' => e = .returned (.bool vt) ∧ Below w'.heap.size w' w'') := fun w' h' => by
    rw [e0, e1, e2, hvt]; exact fileThere_ok _ d.1 tempB B G0 w' (o0.later h') hsd tempB_small
  rw [HF.out, ← e0, ← e1, ← e2, ← e6, ← e7, ← e9]
  obtain ⟨W0, hW0⟩ : ∃ W0, W0 = w.alloc (.cells #[.int .i64 x0, .int .i64 x1, .int .i64 x2, .slice a3 n3 c3, .slice a4 n4 c4, .slice a5 n5 c5, .int .i64 x6, .int .i64 x7, .slice a8 n8 c8, .int .i64 x9] 39) := ⟨_, rfl⟩
  have bW0 : Below w.heap.size w W0 := by rw [hW0]; exact (Below.refl _ _).alloc (Nat.le_refl _) _
  have hbox : W0.heap[w.heap.size]? = some (.cells #[.int .i64 x0, .int .i64 x1, .int .i64 x2, .slice a3 n3 c3, .slice a4 n4 c4, .slice a5 n5 c5, .int .i64 x6, .int .i64 x7, .slice a8 n8 c8, .int .i64 x9] 39 (0, 0)) := by rw [hW0]; exact heap_alloc_new w _
  have zW0 : W0.heap.size = w.heap.size + 1 := by rw [hW0]; simp
  have HW0 : Hid (W0 = _) := hW0
  have BX : Hid (∀ w', Below W0.heap.size W0 w' → w'.heap[w.heap.size]? = some (.cells #[.int .i64 x0, .int .i64 x1, .int .i64 x2, .slice a3 n3 c3, .slice a4 n4 c4, .slice a5 n5 c5, .int .i64 x6, .int .i64 x7, .slice a8 n8 c8, .int .i64 x9] 39 (0, 0))) := fun w' h' => (h'.block _ (by omega)).trans hbox
  have HQ : Hid (ft = true → True) := fun _ => trivial
  clear ho hs hsd hE0 r0 r3 o0 e0 e1 e2 e6 e7 e9 hzs hvb hzt hvt hft hE hW0 hbox HF hl
  go_enter Tryz.func29, Tryz.ntmps29
  go_wp2_with fail
  rw [← HW0.out]
  refine (qrd.out _ bW0).mono ?_
  rintro e w1 ⟨va, nv, vc, F1, rfl, p1, hnv, hb1⟩
  have i9 := BX.out w1 hb1
  have b1 := bW0.trans (hb1.mono bW0.size)
  have d1 : Below W0.heap.size W0 w1 := hb1
  have y8 : w1.cell? ⟨w.heap.size, 8, none⟩ = some (.slice a8 n8 c8) := box_cell i9 rfl
  have P1 : Hid (Own (.sl .u8) w1 W0.heap.size [.slice va nv vc] zs F1) := p1
  have HN : Hid (nv = zs.length) := hnv
  clear i9 hb1 p1 hnv
  go_wp2_with fail
  refine (qlg.out _ b1).mono ?_
  rintro e w2 ⟨ua, nu, uc, ys, F2, rfl, p2, hnu, hyl, hb2⟩
  have b2 := b1.trans (hb2.mono b1.size)
  have d2 := d1.trans (hb2.mono d1.size)
  have i9 := BX.out w2 d2
  have HY : Hid (ft = true → ys = logL l) := hyl
  have HNU : Hid (ys.length = nu) := hnu
  have qbe : Hid (Calls Tryz.prog 69 #[.slice va nv vc, .slice ua nu uc] w2 fun e w' => e = .returned (.bool (decide (zs = ys))) ∧ Below w2.heap.size w2 w') := bytesEqual_ok va nv vc zs ua nu uc ys _ _ F1 F2 w2 HN.out.symm hnu (P1.out.later hb2) p2
  clear y8 p2 hyl hnu hb2 P1
  have BX2 : Hid (∀ w', Below w2.heap.size w2 w' → w'.heap[w.heap.size]? = some (.cells #[.int .i64 x0, .int .i64 x1, .int .i64 x2, .slice a3 n3 c3, .slice a4 n4 c4, .slice a5 n5 c5, .int .i64 x6, .int .i64 x7, .slice a8 n8 c8, .int .i64 x9] 39 (0, 0))) := fun w' h' => BX.out w' (d2.trans (h'.mono d2.size))
  clear i9
  cases vb with
  | false =>
    go_wp2
    go_ret
    exact ⟨by simp, b2⟩
  | true =>
    cases ft with
    | false =>
      go_wp2
      go_ret
      exact ⟨by simp, b2⟩
    | true =>
      have hyy := HY.out rfl
      subst hyy
      by_cases hq : zs = logL l
      case neg =>
        rw [decide_eq_false hq] at qbe
        have HQ2 : Hid (¬ zs = logL l) := hq
        clear hq
        go_wp2_with fail
        refine qbe.out.mono ?_
        rintro e w3 ⟨rfl, hb3⟩
        have b3 := b2.trans (hb3.mono b2.size)
        clear hb3
        go_wp2
        go_ret
        exact ⟨by simp [HQ2.out], b3⟩
      case pos =>
        rw [decide_eq_true hq] at qbe
        have HQ2 : Hid (zs = logL l) := hq
        have hnn : nu = nv := by rw [← HNU.out, HN.out, hq]
        subst hnn
        clear hq
        go_wp2_with fail
        refine qbe.out.mono ?_
        rintro e w3 ⟨rfl, hb3⟩
        have i9 := BX2.out w3 hb3
        have b3 := b2.trans (hb3.mono b2.size)
        have t0 : w3.cell? ⟨w.heap.size, 0, none⟩ = some (.int .i64 x0) := box_cell i9 rfl
        have t1 : w3.cell? ⟨w.heap.size, 1, none⟩ = some (.int .i64 x1) := box_cell i9 rfl
        have t2 : w3.cell? ⟨w.heap.size, 2, none⟩ = some (.int .i64 x2) := box_cell i9 rfl
        have t3 : w3.cell? ⟨w.heap.size, 3, none⟩ = some (.slice a3 n3 c3) := box_cell i9 rfl
        have t4 : w3.cell? ⟨w.heap.size, 4, none⟩ = some (.slice a4 n4 c4) := box_cell i9 rfl
        have t5 : w3.cell? ⟨w.heap.size, 5, none⟩ = some (.slice a5 n5 c5) := box_cell i9 rfl
        have t9 : w3.cell? ⟨w.heap.size, 9, none⟩ = some (.int .i64 x9) := box_cell i9 rfl
        clear hb3 i9
        by_cases hx : x9 = (nu : Int)
        case neg =>
          have hx1 : (x9 == (nu : Int)) = false := by simpa using hx
          have HX : Hid (¬ x9 = (zs.length : Int)) := by show ¬ _; rw [← HN.out]; exact hx
          clear hx
          go_wp2
          go_ret
          exact ⟨by simp [HX.out], b3⟩
        case pos =>
          have hx1 : (x9 == (nu : Int)) = true := by simpa using hx
          have HX : Hid (x9 = (zs.length : Int)) := by show _ = _; rw [← HN.out]; exact hx
          clear hx
          go_wp2_with fail
          refine (qth.out _ b3).mono ?_
          rintro e w4 ⟨rfl, hb4⟩
          have b4 := b3.trans (hb4.mono b3.size)
          have HV : Hid ((true && true && decide (zs = logL l) && decide (x9 = (zs.length : Int)) && !vt) = !vt) := by show _ = _; simp [HQ2.out, HX.out]
          clear hb4
          go_wp2
          go_ret
          exact ⟨by rw [HV.out]; rfl, b4⟩

set_option maxRecDepth 100000 in
set_option maxHeartbeats 4000000 in
theorem implStore_ok (cs : List Value) (d : shStore.D) (B : Nat) (G : List Nat) (w : World) (ho : Own shStore w B cs d G) (hs : shStore.sz d ≤ 1048576) :
    Calls Tryz.prog 8 #[.agg cs.toArray] w fun e w' => e = .returned (.bool (storeB d)) ∧ Below w.heap.size w w' := by
  have hsd := sz_StoreD hs
  obtain ⟨a3, n3, c3, a4, n4, c4, a5, n5, c5, a8, n8, c8, rfl, r0, r3⟩ := open_Store ho.reads
  obtain ⟨G0, o0⟩ := ownD_Store ho
  obtain ⟨x0, e0⟩ : ∃ x : Int, x = d.1.1 := ⟨_, rfl⟩
  obtain ⟨x1, e1⟩ : ∃ x : Int, x = d.1.2.1 := ⟨_, rfl⟩
  obtain ⟨x2, e2⟩ : ∃ x : Int, x = d.1.2.2.1 := ⟨_, rfl⟩
  obtain ⟨x6, e6⟩ : ∃ x : Int, x = d.2.1 := ⟨_, rfl⟩
  obtain ⟨x7, e7⟩ : ∃ x : Int, x = d.2.2.1 := ⟨_, rfl⟩
  obtain ⟨x9, e9⟩ : ∃ x : Int, x = d.2.2.2.2.1 := ⟨_, rfl⟩
  obtain ⟨zs, hzs⟩ : ∃ z : List Int, z = (rdA d.1 histB).1 := ⟨_, rfl⟩
  obtain ⟨vb, hvb⟩ : ∃ z, z = (rdA d.1 histB).2 := ⟨_, rfl⟩
  obtain ⟨zt, hzt⟩ : ∃ z : List Int, z = (rdA d.1 tempB).1 := ⟨_, rfl⟩
  obtain ⟨vt, hvt⟩ : ∃ z, z = (rdA d.1 tempB).2 := ⟨_, rfl⟩
  obtain ⟨l, hl⟩ : ∃ l : List EntD, l = d.2.2.2.1 := ⟨_, rfl⟩
  obtain ⟨ft, hft⟩ : ∃ b, b = decide ((logL l).length ≤ 65536) := ⟨_, rfl⟩
  have HF : Hid (fileB d.1 d.2.2.2.1 d.2.2.2.2.1 = (vb && ft && decide (zs = logL l) && decide (x9 = (zs.length : Int)) && !vt)) := by
    show _ = _
    unfold fileB
    rw [← hvb, ← hvt, ← hzs, ← hl, ← hft, e9]
  obtain ⟨v1, hv1⟩ : ∃ b, b = implOkB d.1 := ⟨_, rfl⟩
  obtain ⟨v2, hv2⟩ : ∃ b, b = keepB x6 x7 := ⟨_, rfl⟩
  obtain ⟨v3, hv3⟩ : ∃ b, b = entsB l := ⟨_, rfl⟩
  obtain ⟨fb, hfb⟩ : ∃ b, b = fileB d.1 d.2.2.2.1 d.2.2.2.2.1 := ⟨_, rfl⟩
  have HV : Hid (storeB d = (v1 && v2 && v3 && (isZ x1 || fb))) := by
    show _ = _
    unfold storeB
    rw [← hfb, ← e6, ← e7, ← hv1, ← hv2, ← hl, ← hv3, e1]
  have qok : Hid (∀ w', Below w.heap.size w w' → Calls Tryz.prog 26 #[.agg #[.int .i64 x0, .int .i64 x1, .int .i64 x2, .slice a3 n3 c3, .slice a4 n4 c4, .slice a5 n5 c5]] w' fun e w'' => e = .returned (.bool v1) ∧ Below w'.heap.size w' w'') := fun w' h' => by
    rw [e0, e1, e2, hv1]; exact implOk_ok _ d.1 w' (r0.later h') hsd
  have qkp : Hid (∀ w', Calls Tryz.prog 27 #[.int .i64 x6, .int .i64 x7] w' fun e w'' => e = .returned (.bool v2) ∧ w'' = w') := fun w' => by
    rw [hv2]; exact implKeep_ok x6 x7 w'
  have qen : Hid (∀ w', Below w.heap.size w w' → Calls Tryz.prog 28 #[.slice a8 n8 c8] w' fun e w'' => e = .returned (.bool v3) ∧ Below w'.heap.size w' w'') := fun w' h' => by
    rw [hv3]; exact implEnts_any a8 n8 c8 l w' (by rw [hl]; exact r3.later h')
  have qfo : Hid (v3 = true → ∀ w', Below w.heap.size w w' → Calls Tryz.prog 29 #[.agg #[.int .i64 x0, .int .i64 x1, .int .i64 x2, .slice a3 n3 c3, .slice a4 n4 c4, .slice a5 n5 c5, .int .i64 x6, .int .i64 x7, .slice a8 n8 c8, .int .i64 x9]] w' fun e w'' => e = .returned (.bool fb) ∧ Below w'.heap.size w' w'') := fun h3 w' h' => by
    rw [e0, e1, e2, e6, e7, e9, hfb]; exact fileOk_ok _ d B G w' (ho.later h') hs (by rw [← hl, ← hv3]; exact h3)
  rw [HV.out, ← e0, ← e1, ← e2, ← e6, ← e7, ← e9]
  obtain ⟨W0, hW0⟩ : ∃ W0, W0 = w.alloc (.cells #[.int .i64 x0, .int .i64 x1, .int .i64 x2, .slice a3 n3 c3, .slice a4 n4 c4, .slice a5 n5 c5, .int .i64 x6, .int .i64 x7, .slice a8 n8 c8, .int .i64 x9] 39) := ⟨_, rfl⟩
  have bW0 : Below w.heap.size w W0 := by rw [hW0]; exact (Below.refl _ _).alloc (Nat.le_refl _) _
  have hbox : W0.heap[w.heap.size]? = some (.cells #[.int .i64 x0, .int .i64 x1, .int .i64 x2, .slice a3 n3 c3, .slice a4 n4 c4, .slice a5 n5 c5, .int .i64 x6, .int .i64 x7, .slice a8 n8 c8, .int .i64 x9] 39 (0, 0)) := by rw [hW0]; exact heap_alloc_new w _
  have zW0 : W0.heap.size = w.heap.size + 1 := by rw [hW0]; simp
  have HW0 : Hid (W0 = _) := hW0
  have BX : Hid (∀ w', Below W0.heap.size W0 w' → w'.heap[w.heap.size]? = some (.cells #[.int .i64 x0, .int .i64 x1, .int .i64 x2, .slice a3 n3 c3, .slice a4 n4 c4, .slice a5 n5 c5, .int .i64 x6, .int .i64 x7, .slice a8 n8 c8, .int .i64 x9] 39 (0, 0))) := fun w' h' => (h'.block _ (by omega)).trans hbox
  clear ho hs hsd r0 r3 o0 e0 e1 e2 e6 e7 e9 hzs hvb hzt hvt hft hW0 hbox HF hv1 hv2 hv3 hfb HV hl
  go_enter Tryz.func8, Tryz.ntmps8
  go_wp2_with fail
  rw [← HW0.out]
  refine (qok.out _ bW0).mono ?_
  rintro e w1 ⟨rfl, hb1⟩
  have i9 := BX.out w1 hb1
  have b1 := bW0.trans (hb1.mono bW0.size)
  have d1 : Below W0.heap.size W0 w1 := hb1
  have y6 : w1.cell? ⟨w.heap.size, 6, none⟩ = some (.int .i64 x6) := box_cell i9 rfl
  have y7 : w1.cell? ⟨w.heap.size, 7, none⟩ = some (.int .i64 x7) := box_cell i9 rfl
  have y8 : w1.cell? ⟨w.heap.size, 8, none⟩ = some (.slice a8 n8 c8) := box_cell i9 rfl
  clear i9 hb1
  cases v1 with
  | false =>
    go_wp2
    go_ret
    exact ⟨by simp, b1⟩
  | true =>
  go_wp2_with fail
  refine (qkp.out _).mono ?_
  rintro e w2 ⟨rfl, rfl⟩
  cases v2 with
  | false =>
    go_wp2
    go_ret
    exact ⟨by simp, b1⟩
  | true =>
  go_wp2_with fail
  refine (qen.out _ b1).mono ?_
  rintro e w3 ⟨rfl, hb3⟩
  have b3 := b1.trans (hb3.mono b1.size)
  have d3 := d1.trans (hb3.mono d1.size)
  have i9 := BX.out w3 d3
  have t0 : w3.cell? ⟨w.heap.size, 0, none⟩ = some (.int .i64 x0) := box_cell i9 rfl
  have t1 : w3.cell? ⟨w.heap.size, 1, none⟩ = some (.int .i64 x1) := box_cell i9 rfl
  have t2 : w3.cell? ⟨w.heap.size, 2, none⟩ = some (.int .i64 x2) := box_cell i9 rfl
  have t3 : w3.cell? ⟨w.heap.size, 3, none⟩ = some (.slice a3 n3 c3) := box_cell i9 rfl
  have t4 : w3.cell? ⟨w.heap.size, 4, none⟩ = some (.slice a4 n4 c4) := box_cell i9 rfl
  have t5 : w3.cell? ⟨w.heap.size, 5, none⟩ = some (.slice a5 n5 c5) := box_cell i9 rfl
  have t6 : w3.cell? ⟨w.heap.size, 6, none⟩ = some (.int .i64 x6) := box_cell i9 rfl
  have t7 : w3.cell? ⟨w.heap.size, 7, none⟩ = some (.int .i64 x7) := box_cell i9 rfl
  have t8 : w3.cell? ⟨w.heap.size, 8, none⟩ = some (.slice a8 n8 c8) := box_cell i9 rfl
  have t9 : w3.cell? ⟨w.heap.size, 9, none⟩ = some (.int .i64 x9) := box_cell i9 rfl
  clear i9 hb3 y6 y7 y8
  cases v3 with
  | false =>
    go_wp2
    go_ret
    exact ⟨by simp, b3⟩
  | true =>
  by_cases hx1 : x1 = 0
  · subst hx1
    go_wp2
    go_ret
    exact ⟨by simp [isZ], b3⟩
  have hxf : (x1 == 0) = false := by simpa using hx1
  have HX1 : Hid (isZ x1 = false) := decide_eq_false hx1
  clear hx1
  go_wp2_with fail
  refine (qfo.out (by trivial) _ b3).mono ?_
  rintro e w4 ⟨rfl, hb4⟩
  have b4 := b3.trans (hb4.mono b3.size)
  clear hb4
  have HV2 : Hid ((true && true && true && (isZ x1 || fb)) = fb) := by show _ = _; rw [HX1.out]; simp
  go_wp2
  go_ret
  exact ⟨by rw [HV2.out]; rfl, b4⟩

set_option maxRecDepth 100000 in
set_option maxHeartbeats 4000000 in
theorem specStore_ok (cs : List Value) (d : shStore.D) (B : Nat) (G : List Nat) (w : World) (ho : Own shStore w B cs d G) (hs : shStore.sz d ≤ 1048576) :
    Calls Tryz.prog 6 #[.agg cs.toArray] w fun e w' => e = .returned (.bool (storeB d)) ∧ Below w.heap.size w w' := by
  have hsd := sz_StoreD hs
  obtain ⟨a3, n3, c3, a4, n4, c4, a5, n5, c5, a8, n8, c8, rfl, r0, r3⟩ := open_Store ho.reads
  obtain ⟨G0, o0⟩ := ownD_Store ho
  obtain ⟨x0, e0⟩ : ∃ x : Int, x = d.1.1 := ⟨_, rfl⟩
  obtain ⟨x1, e1⟩ : ∃ x : Int, x = d.1.2.1 := ⟨_, rfl⟩
  obtain ⟨x2, e2⟩ : ∃ x : Int, x = d.1.2.2.1 := ⟨_, rfl⟩
  obtain ⟨x6, e6⟩ : ∃ x : Int, x = d.2.1 := ⟨_, rfl⟩
  obtain ⟨x7, e7⟩ : ∃ x : Int, x = d.2.2.1 := ⟨_, rfl⟩
  obtain ⟨x9, e9⟩ : ∃ x : Int, x = d.2.2.2.2.1 := ⟨_, rfl⟩
  obtain ⟨zs, hzs⟩ : ∃ z : List Int, z = (rdA d.1 histB).1 := ⟨_, rfl⟩
  obtain ⟨vb, hvb⟩ : ∃ z, z = (rdA d.1 histB).2 := ⟨_, rfl⟩
  obtain ⟨zt, hzt⟩ : ∃ z : List Int, z = (rdA d.1 tempB).1 := ⟨_, rfl⟩
  obtain ⟨vt, hvt⟩ : ∃ z, z = (rdA d.1 tempB).2 := ⟨_, rfl⟩
  obtain ⟨l, hl⟩ : ∃ l : List EntD, l = d.2.2.2.1 := ⟨_, rfl⟩
  obtain ⟨ft, hft⟩ : ∃ b, b = decide ((logL l).length ≤ 65536) := ⟨_, rfl⟩
  have HF : Hid (fileB d.1 d.2.2.2.1 d.2.2.2.2.1 = (vb && ft && decide (zs = logL l) && decide (x9 = (zs.length : Int)) && !vt)) := by
    show _ = _
    unfold fileB
    rw [← hvb, ← hvt, ← hzs, ← hl, ← hft, e9]
  obtain ⟨v1, hv1⟩ : ∃ b, b = implOkB d.1 := ⟨_, rfl⟩
  obtain ⟨v2, hv2⟩ : ∃ b, b = keepB x6 x7 := ⟨_, rfl⟩
  obtain ⟨v3, hv3⟩ : ∃ b, b = entsB l := ⟨_, rfl⟩
  obtain ⟨fb, hfb⟩ : ∃ b, b = fileB d.1 d.2.2.2.1 d.2.2.2.2.1 := ⟨_, rfl⟩
  have HV : Hid (storeB d = (v1 && v2 && v3 && (isZ x1 || fb))) := by
    show _ = _
    unfold storeB
    rw [← hfb, ← e6, ← e7, ← hv1, ← hv2, ← hl, ← hv3, e1]
  have qok : Hid (∀ w', Below w.heap.size w w' → Calls Tryz.prog 20 #[.agg #[.int .i64 x0, .int .i64 x1, .int .i64 x2, .slice a3 n3 c3, .slice a4 n4 c4, .slice a5 n5 c5]] w' fun e w'' => e = .returned (.bool v1) ∧ Below w'.heap.size w' w'') := fun w' h' => by
    rw [e0, e1, e2, hv1]; exact specOkS_ok _ d.1 w' (r0.later h') hsd
  have qkp : Hid (∀ w', Calls Tryz.prog 21 #[.int .i64 x6, .int .i64 x7] w' fun e w'' => e = .returned (.bool v2) ∧ w'' = w') := fun w' => by
    rw [hv2]; exact specKeep_ok x6 x7 w'
  have qen : Hid (∀ w', Below w.heap.size w w' → Calls Tryz.prog 22 #[.slice a8 n8 c8] w' fun e w'' => e = .returned (.bool v3) ∧ Below w'.heap.size w' w'') := fun w' h' => by
    rw [hv3]; exact specEnts_any a8 n8 c8 l w' (by rw [hl]; exact r3.later h')
  have qrd : Hid (∀ w', Below w.heap.size w w' → Calls Tryz.prog 23 #[.agg #[.int .i64 x0, .int .i64 x1, .int .i64 x2, .slice a3 n3 c3, .slice a4 n4 c4, .slice a5 n5 c5], .string histB] w' fun e w'' => ∃ va nv vc F, e = .returned (.tuple #[.slice va nv vc, .bool vb]) ∧ Own (.sl .u8) w'' w'.heap.size [.slice va nv vc] zs F ∧ nv = zs.length ∧ Below w'.heap.size w' w'') := fun w' h' => by
    rw [e0, e1, e2, hvb, hzs]
    refine (specRead_any _ d.1 histB B G0 w' (o0.later h') hsd).mono ?_
    rintro e w'' ⟨v, F, rfl, p, _, hb⟩
    obtain ⟨a', c', rfl, _⟩ := own_val p
    exact ⟨a', _, c', F, rfl, p, rfl, hb⟩
  have qrt : Hid (∀ w', Below w.heap.size w w' → Calls Tryz.prog 23 #[.agg #[.int .i64 x0, .int .i64 x1, .int .i64 x2, .slice a3 n3 c3, .slice a4 n4 c4, .slice a5 n5 c5], .string tempB] w' fun e w'' => ∃ va nv vc F, e = .returned (.tuple #[.slice va nv vc, .bool vt]) ∧ Own (.sl .u8) w'' w'.heap.size [.slice va nv vc] zt F ∧ nv = zt.length ∧ Below w'.heap.size w' w'') := fun w' h' => by
    rw [e0, e1, e2, hvt, hzt]
    refine (specRead_any _ d.1 tempB B G0 w' (o0.later h') hsd).mono ?_
    rintro e w'' ⟨v, F, rfl, p, _, hb⟩
    obtain ⟨a', c', rfl, _⟩ := own_val p
    exact ⟨a', _, c', F, rfl, p, rfl, hb⟩
  have qlg : Hid (v3 = true → ∀ w', Below w.heap.size w w' → Calls Tryz.prog 24 #[.slice a8 n8 c8] w' fun e w'' => ∃ va nv vc, ∃ ys : List Int, ∃ F, e = .returned (.tuple #[.slice va nv vc, .bool ft]) ∧ Own (.sl .u8) w'' w'.heap.size [.slice va nv vc] ys F ∧ ys.length = nv ∧ (ft = true → ys = logL l) ∧ Below w'.heap.size w' w'') := fun h3 w' h' => by
    rw [hft]
    exact specLogA a8 n8 c8 l w' (by rw [hl]; exact r3.later h') (by rw [← hv3]; exact h3)
  have HFB : Hid (fb = (vb && ft && decide (zs = logL l) && decide (x9 = (zs.length : Int)) && !vt)) := by show _ = _; rw [hfb]; exact HF.out
  rw [HV.out, ← e0, ← e1, ← e2, ← e6, ← e7, ← e9]
  obtain ⟨W0, hW0⟩ : ∃ W0, W0 = w.alloc (.cells #[.int .i64 x0, .int .i64 x1, .int .i64 x2, .slice a3 n3 c3, .slice a4 n4 c4, .slice a5 n5 c5, .int .i64 x6, .int .i64 x7, .slice a8 n8 c8, .int .i64 x9] 39) := ⟨_, rfl⟩
  have bW0 : Below w.heap.size w W0 := by rw [hW0]; exact (Below.refl _ _).alloc (Nat.le_refl _) _
  have hbox : W0.heap[w.heap.size]? = some (.cells #[.int .i64 x0, .int .i64 x1, .int .i64 x2, .slice a3 n3 c3, .slice a4 n4 c4, .slice a5 n5 c5, .int .i64 x6, .int .i64 x7, .slice a8 n8 c8, .int .i64 x9] 39 (0, 0)) := by rw [hW0]; exact heap_alloc_new w _
  have zW0 : W0.heap.size = w.heap.size + 1 := by rw [hW0]; simp
  have HW0 : Hid (W0 = _) := hW0
  have BX : Hid (∀ w', Below W0.heap.size W0 w' → w'.heap[w.heap.size]? = some (.cells #[.int .i64 x0, .int .i64 x1, .int .i64 x2, .slice a3 n3 c3, .slice a4 n4 c4, .slice a5 n5 c5, .int .i64 x6, .int .i64 x7, .slice a8 n8 c8, .int .i64 x9] 39 (0, 0))) := fun w' h' => (h'.block _ (by omega)).trans hbox
  clear ho hs hsd r0 r3 o0 e0 e1 e2 e6 e7 e9 hzs hvb hzt hvt hft hW0 hbox HF hv1 hv2 hv3 hfb HV hl
  go_enter Tryz.func6, Tryz.ntmps6
  go_wp2_with fail
  rw [← HW0.out]
  refine (qok.out _ bW0).mono ?_
  rintro e w1 ⟨rfl, hb1⟩
  have i9 := BX.out w1 hb1
  have b1 := bW0.trans (hb1.mono bW0.size)
  have d1 : Below W0.heap.size W0 w1 := hb1
  have y6 : w1.cell? ⟨w.heap.size, 6, none⟩ = some (.int .i64 x6) := box_cell i9 rfl
  have y7 : w1.cell? ⟨w.heap.size, 7, none⟩ = some (.int .i64 x7) := box_cell i9 rfl
  have y8 : w1.cell? ⟨w.heap.size, 8, none⟩ = some (.slice a8 n8 c8) := box_cell i9 rfl
  clear i9 hb1
  cases v1 with
  | false =>
    go_wp2
    go_ret
    exact ⟨by simp, b1⟩
  | true =>
  go_wp2_with fail
  refine (qkp.out _).mono ?_
  rintro e w2 ⟨rfl, rfl⟩
  cases v2 with
  | false =>
    go_wp2
    go_ret
    exact ⟨by simp, b1⟩
  | true =>
  go_wp2_with fail
  refine (qen.out _ b1).mono ?_
  rintro e w3 ⟨rfl, hb3⟩
  have b3 := b1.trans (hb3.mono b1.size)
  have d3 := d1.trans (hb3.mono d1.size)
  have i9 := BX.out w3 d3
  have t0 : w3.cell? ⟨w.heap.size, 0, none⟩ = some (.int .i64 x0) := box_cell i9 rfl
  have t1 : w3.cell? ⟨w.heap.size, 1, none⟩ = some (.int .i64 x1) := box_cell i9 rfl
  have t2 : w3.cell? ⟨w.heap.size, 2, none⟩ = some (.int .i64 x2) := box_cell i9 rfl
  have t3 : w3.cell? ⟨w.heap.size, 3, none⟩ = some (.slice a3 n3 c3) := box_cell i9 rfl
  have t4 : w3.cell? ⟨w.heap.size, 4, none⟩ = some (.slice a4 n4 c4) := box_cell i9 rfl
  have t5 : w3.cell? ⟨w.heap.size, 5, none⟩ = some (.slice a5 n5 c5) := box_cell i9 rfl
  have t6 : w3.cell? ⟨w.heap.size, 6, none⟩ = some (.int .i64 x6) := box_cell i9 rfl
  have t7 : w3.cell? ⟨w.heap.size, 7, none⟩ = some (.int .i64 x7) := box_cell i9 rfl
  have t8 : w3.cell? ⟨w.heap.size, 8, none⟩ = some (.slice a8 n8 c8) := box_cell i9 rfl
  have t9 : w3.cell? ⟨w.heap.size, 9, none⟩ = some (.int .i64 x9) := box_cell i9 rfl
  clear i9 hb3 y6 y7 y8
  cases v3 with
  | false =>
    go_wp2
    go_ret
    exact ⟨by simp, b3⟩
  | true =>
  by_cases hx1 : x1 = 0
  · subst hx1
    go_wp2
    go_ret
    exact ⟨by simp [isZ], b3⟩
  have hxf : (x1 == 0) = false := by simpa using hx1
  have HX1 : Hid (isZ x1 = false) := decide_eq_false hx1
  clear hx1
  go_wp2_with fail
  refine (qrd.out _ b3).mono ?_
  rintro e w4 ⟨va, nv, vc, F1, rfl, p1, hnv, hb4⟩
  have b4 := b3.trans (hb4.mono b3.size)
  have d4 := d3.trans (hb4.mono d3.size)
  have i9 := BX.out w4 d4
  have s8 : w4.cell? ⟨w.heap.size, 8, none⟩ = some (.slice a8 n8 c8) := box_cell i9 rfl
  have P1 : Hid (Own (.sl .u8) w4 w3.heap.size [.slice va nv vc] zs F1) := p1
  have HN : Hid (nv = zs.length) := hnv
  clear i9 hb4 p1 hnv t0 t1 t2 t3 t4 t5 t6 t7 t8 t9
  go_wp2_with fail
  refine (qlg.out (by trivial) _ b4).mono ?_
  rintro e w5 ⟨ua, nu, uc, ys, F2, rfl, p2, hnu, hyl, hb5⟩
  have b5 := b4.trans (hb5.mono b4.size)
  have d5 := d4.trans (hb5.mono d4.size)
  have i9 := BX.out w5 d5
  have u0 : w5.cell? ⟨w.heap.size, 0, none⟩ = some (.int .i64 x0) := box_cell i9 rfl
  have u1 : w5.cell? ⟨w.heap.size, 1, none⟩ = some (.int .i64 x1) := box_cell i9 rfl
  have u2 : w5.cell? ⟨w.heap.size, 2, none⟩ = some (.int .i64 x2) := box_cell i9 rfl
  have u3 : w5.cell? ⟨w.heap.size, 3, none⟩ = some (.slice a3 n3 c3) := box_cell i9 rfl
  have u4 : w5.cell? ⟨w.heap.size, 4, none⟩ = some (.slice a4 n4 c4) := box_cell i9 rfl
  have u5 : w5.cell? ⟨w.heap.size, 5, none⟩ = some (.slice a5 n5 c5) := box_cell i9 rfl
  have P2 : Hid (Own (.sl .u8) w5 w4.heap.size [.slice ua nu uc] ys F2 ∧ ys.length = nu ∧ (ft = true → ys = logL l)) := ⟨p2, hnu, hyl⟩
  have P1' : Hid (Own (.sl .u8) w5 w3.heap.size [.slice va nv vc] zs F1) := P1.out.later hb5
  clear i9 hb5 p2 hnu hyl P1 s8
  go_wp2_with fail
  refine (qrt.out _ b5).mono ?_
  rintro e w6 ⟨qa, nq, qc, F3, rfl, p3, hnq, hb6⟩
  have b6 := b5.trans (hb6.mono b5.size)
  have d6 := d5.trans (hb6.mono d5.size)
  have i9 := BX.out w6 d6
  have z9 : w6.cell? ⟨w.heap.size, 9, none⟩ = some (.int .i64 x9) := box_cell i9 rfl
  have k1 := conv_own HN.out.symm (P1'.out.later hb6)
  have k2 := conv_own P2.out.2.1 (P2.out.1.later hb6)
  have KE : Hid (((strOfNums zs).toList == (strOfNums ys).toList) = decide (zs = ys)) := str_eq_iff (reads_bytes P1'.out.reads).2.1.1 (reads_bytes P2.out.1.reads).2.1.1
  clear i9 hb6 p3 hnq u0 u1 u2 u3 u4 u5
  have HV2 : Hid ((true && true && true && (isZ x1 || fb)) = (vb && ft && decide (zs = logL l) && decide (x9 = (zs.length : Int)) && !vt)) := by show _ = _; rw [HX1.out, HFB.out]; simp
  cases vb with
  | false =>
    go_wp2
    go_ret
    exact ⟨by rw [HV2.out]; simp, b6⟩
  | true =>
    cases ft with
    | false =>
      go_wp2
      go_ret
      exact ⟨by rw [HV2.out]; simp, b6⟩
    | true =>
      have hyy := P2.out.2.2 rfl
      subst hyy
      by_cases hq : zs = logL l
      case neg =>
        have ke := KE.out
        rw [decide_eq_false hq] at ke
        have HQ2 : Hid (¬ zs = logL l) := hq
        clear hq
        go_wp2
        go_ret
        exact ⟨by rw [HV2.out]; simp [HQ2.out], b6⟩
      case pos =>
        have ke := KE.out
        rw [decide_eq_true hq] at ke
        have HQ2 : Hid (zs = logL l) := hq
        clear hq
        by_cases hx : x9 = (nv : Int)
        case neg =>
          have hx1 : (x9 == (nv : Int)) = false := by simpa using hx
          have HX : Hid (¬ x9 = (zs.length : Int)) := by show ¬ _; rw [← HN.out]; exact hx
          clear hx
          go_wp2
          go_ret
          exact ⟨by rw [HV2.out]; simp [HX.out], b6⟩
        case pos =>
          have hx1 : (x9 == (nv : Int)) = true := by simpa using hx
          have HX : Hid (x9 = (zs.length : Int)) := by show _ = _; rw [← HN.out]; exact hx
          have HV : Hid ((true && true && decide (zs = logL l) && decide (x9 = (zs.length : Int)) && !vt) = !vt) := by show _ = _; simp [HQ2.out, HX.out]
          clear hx
          go_wp2
          go_ret
          exact ⟨by rw [HV2.out, HV.out]; rfl, b6⟩

end Go.Proofs.YtkfmpfbhhmmllaaGreat

/- LStoreOk: The walk of the law FnExactStoreOk over the contracts of its two functions. By program (lawgen3.py). -/
namespace Go.Proofs.YtkfmpfbhhmmllaaGreat
open Go.RowKit
set_option linter.unusedVariables false
set_option maxRecDepth 100000

set_option maxRecDepth 100000 in
set_option maxHeartbeats 8000000 in
theorem storeOk_over (cs0 : List Value) (d0 : shStore.D) (V0 : Bool) (w : World) (hr0 : Reads shStore w cs0 d0)
    (hcd0 : shStore.sz d0 ≤ 1048576 → shStore.cntV d0 ≤ 1000000000)
    (hS : ∀ w' c0 G0, Own shStore w' 0 c0 d0 G0 → shStore.sz d0 ≤ 1048576 → Calls Tryz.prog 6 #[.agg c0.toArray] w' fun e w'' => e = .returned (.bool V0) ∧ Below w'.heap.size w' w'')
    (hI : ∀ w' c0 G0, Own shStore w' 0 c0 d0 G0 → shStore.sz d0 ≤ 1048576 → Calls Tryz.prog 8 #[.agg c0.toArray] w' fun e w'' => e = .returned (.bool V0) ∧ Below w'.heap.size w' w'') :
    Calls Tryz.prog 3 #[.agg cs0.toArray] w fun e w' => e = .returned (.bool true) ∧ Below w.heap.size w w' := by
  have qsz0 : Hid (∀ w' left, Below w.heap.size w w' → 0 ≤ left → left ≤ 1048576 → Calls Tryz.prog 5 #[.agg cs0.toArray, .int .i64 left] w' fun e w'' => e = .returned (.int .i64 (szAns (shStore.sz d0) left)) ∧ Below w'.heap.size w' w'') := fun w' left h' h1 h2 => szStore_any cs0 d0 left w' (hr0.later h') h1 h2
  have qto0 : Hid (∀ w', Below w.heap.size w w' → shStore.sz d0 ≤ 1048576 → Calls Tryz.prog 7 #[.agg cs0.toArray] w' fun e w'' => ∃ cs' F, e = .returned (.agg cs'.toArray) ∧ Own shStore w'' w'.heap.size cs' d0 F ∧ F.Nodup ∧ Below w'.heap.size w' w'') := fun w' h' hs => toStore_any cs0 d0 w' (hr0.later h') hs
  have qeq0 : Hid (∀ w' c1 c2, Reads shStore w' c1 d0 → Reads shStore w' c2 d0 → shStore.sz d0 ≤ 1048576 → Calls Tryz.prog 9 #[.agg c1.toArray, .agg c2.toArray] w' fun e w'' => e = .returned (.bool true) ∧ Below w'.heap.size w' w'') := fun w' c1 c2 h1 h2 hs => eqStore_any c1 c2 d0 w' h1 h2 hs
  have qS : Hid (∀ w' c0 G0, Own shStore w' 0 c0 d0 G0 → shStore.sz d0 ≤ 1048576 → Calls Tryz.prog 6 #[.agg c0.toArray] w' fun e w'' => e = .returned (.bool V0) ∧ Below w'.heap.size w' w'') := hS
  have qI : Hid (∀ w' c0 G0, Own shStore w' 0 c0 d0 G0 → shStore.sz d0 ≤ 1048576 → Calls Tryz.prog 8 #[.agg c0.toArray] w' fun e w'' => e = .returned (.bool V0) ∧ Below w'.heap.size w' w'') := hI
  have qcd0 : Hid (shStore.sz d0 ≤ 1048576 → shStore.cntV d0 ≤ 1000000000) := hcd0
  have hne0 : (V0 != V0) = false := by cases V0 <;> rfl
  obtain ⟨aA0_3, nA0_3, cA0_3, aA0_4, nA0_4, cA0_4, aA0_5, nA0_5, cA0_5, aA0_8, nA0_8, cA0_8, hcs0, _⟩ := open_Store hr0
  obtain ⟨xL0_0, eL0_0⟩ : ∃ x : Int, x = d0.1.1 := ⟨_, rfl⟩
  obtain ⟨xL0_1, eL0_1⟩ : ∃ x : Int, x = d0.1.2.1 := ⟨_, rfl⟩
  obtain ⟨xL0_2, eL0_2⟩ : ∃ x : Int, x = d0.1.2.2.1 := ⟨_, rfl⟩
  obtain ⟨xL0_6, eL0_6⟩ : ∃ x : Int, x = d0.2.1 := ⟨_, rfl⟩
  obtain ⟨xL0_7, eL0_7⟩ : ∃ x : Int, x = d0.2.2.1 := ⟨_, rfl⟩
  obtain ⟨xL0_9, eL0_9⟩ : ∃ x : Int, x = d0.2.2.2.2.1 := ⟨_, rfl⟩
  have HEL0 : Hid (xL0_0 = d0.1.1 ∧ xL0_1 = d0.1.2.1 ∧ xL0_2 = d0.1.2.2.1 ∧ xL0_6 = d0.2.1 ∧ xL0_7 = d0.2.2.1 ∧ xL0_9 = d0.2.2.2.2.1 ∧ True ∧ True) := ⟨eL0_0, eL0_1, eL0_2, eL0_6, eL0_7, eL0_9, trivial, trivial⟩
  rw [← eL0_0, ← eL0_1, ← eL0_2, ← eL0_6, ← eL0_7, ← eL0_9] at hcs0
  subst hcs0
  obtain ⟨K0, hK0⟩ : ∃ K, K = shStore.sz d0 := ⟨_, rfl⟩
  rw [← hK0] at qsz0
  clear hS hI hr0 hcd0 eL0_0 eL0_1 eL0_2 eL0_6 eL0_7 eL0_9
  go_enter Tryz.func3, Tryz.ntmps3
  go_wp2_with fail
  obtain ⟨w1, hw1⟩ : ∃ W, W = w.alloc (.cells #[.int .i64 xL0_0, .int .i64 xL0_1, .int .i64 xL0_2, .slice aA0_3 nA0_3 cA0_3, .slice aA0_4 nA0_4 cA0_4, .slice aA0_5 nA0_5 cA0_5, .int .i64 xL0_6, .int .i64 xL0_7, .slice aA0_8 nA0_8 cA0_8, .int .i64 xL0_9] 29) := ⟨_, rfl⟩
  have hbw1 : Below w.heap.size w w1 := by rw [hw1]; exact (Below.refl _ _).alloc (Nat.le_refl _) _
  have i_a0_w1 : Hid (w1.heap[w.heap.size]? = some (.cells #[.int .i64 xL0_0, .int .i64 xL0_1, .int .i64 xL0_2, .slice aA0_3 nA0_3 cA0_3, .slice aA0_4 nA0_4 cA0_4, .slice aA0_5 nA0_5 cA0_5, .int .i64 xL0_6, .int .i64 xL0_7, .slice aA0_8 nA0_8 cA0_8, .int .i64 xL0_9] 29 (0, 0))) := by show _ = _; rw [hw1]; exact heap_alloc_new w _
  have zzw1 : w1.heap.size = w.heap.size + 1 := by rw [hw1]; simp
  rw [← hw1]
  clear hw1
  have zw1 : w.heap.size ≤ w1.heap.size := hbw1.size
  have bw1 := (Below.refl w.heap.size w).trans (hbw1.mono (Below.refl w.heap.size w).size)
  clear hbw1
  refine (qsz0.out _ (1048576) bw1 (by omega) (by omega)).mono ?_
  rintro e w2 ⟨rfl, hbw2⟩
  have zw2 : w1.heap.size ≤ w2.heap.size := hbw2.size
  have bw2 := bw1.trans (hbw2.mono bw1.size)
  clear bw1
  have i_a0_w2 : Hid (w2.heap[w.heap.size]? = some (.cells #[.int .i64 xL0_0, .int .i64 xL0_1, .int .i64 xL0_2, .slice aA0_3 nA0_3 cA0_3, .slice aA0_4 nA0_4 cA0_4, .slice aA0_5 nA0_5 cA0_5, .int .i64 xL0_6, .int .i64 xL0_7, .slice aA0_8 nA0_8 cA0_8, .int .i64 xL0_9] 29 (0, 0))) := (hbw2.block _ (by omega)).trans i_a0_w1.out
  clear i_a0_w1
  clear hbw2
  by_cases hk0 : ((K0 : Nat) : Int) ≤ 1048576
  case neg =>
    rw [szAns_no hk0]
    go_wp2
    go_ret
    exact ⟨rfl, bw2⟩
  rw [szAns_yes hk0]
  have hl0 : ¬ (1048576 - ((K0 : Nat) : Int) < 0) := by omega
  have HZ0 : Hid (shStore.sz d0 ≤ 1048576) := by show shStore.sz d0 ≤ 1048576; omega
  have hcc0 := qcd0.out HZ0.out
  have zl_a0 : w.heap.size < w2.heap.size := by omega
  have y_a0_0 : w2.cell? ⟨w.heap.size, 0, none⟩ = some (.int .i64 xL0_0) := box_cell i_a0_w2.out rfl
  have y_a0_1 : w2.cell? ⟨w.heap.size, 1, none⟩ = some (.int .i64 xL0_1) := box_cell i_a0_w2.out rfl
  have y_a0_2 : w2.cell? ⟨w.heap.size, 2, none⟩ = some (.int .i64 xL0_2) := box_cell i_a0_w2.out rfl
  have y_a0_3 : w2.cell? ⟨w.heap.size, 3, none⟩ = some (.slice aA0_3 nA0_3 cA0_3) := box_cell i_a0_w2.out rfl
  have y_a0_4 : w2.cell? ⟨w.heap.size, 4, none⟩ = some (.slice aA0_4 nA0_4 cA0_4) := box_cell i_a0_w2.out rfl
  have y_a0_5 : w2.cell? ⟨w.heap.size, 5, none⟩ = some (.slice aA0_5 nA0_5 cA0_5) := box_cell i_a0_w2.out rfl
  have y_a0_6 : w2.cell? ⟨w.heap.size, 6, none⟩ = some (.int .i64 xL0_6) := box_cell i_a0_w2.out rfl
  have y_a0_7 : w2.cell? ⟨w.heap.size, 7, none⟩ = some (.int .i64 xL0_7) := box_cell i_a0_w2.out rfl
  have y_a0_8 : w2.cell? ⟨w.heap.size, 8, none⟩ = some (.slice aA0_8 nA0_8 cA0_8) := box_cell i_a0_w2.out rfl
  have y_a0_9 : w2.cell? ⟨w.heap.size, 9, none⟩ = some (.int .i64 xL0_9) := box_cell i_a0_w2.out rfl
  go_wp2_with fail
  clear zl_a0 y_a0_0 y_a0_1 y_a0_2 y_a0_3 y_a0_4 y_a0_5 y_a0_6 y_a0_7 y_a0_8 y_a0_9
  refine (qto0.out _ bw2 HZ0.out).mono ?_
  rintro e w3 ⟨cs_y0, F_y0, he_y0, p_y0, nd_y0, hbw3⟩
  have zw3 : w2.heap.size ≤ w3.heap.size := hbw3.size
  have bw3 := bw2.trans (hbw3.mono bw2.size)
  clear bw2
  have i_a0_w3 : Hid (w3.heap[w.heap.size]? = some (.cells #[.int .i64 xL0_0, .int .i64 xL0_1, .int .i64 xL0_2, .slice aA0_3 nA0_3 cA0_3, .slice aA0_4 nA0_4 cA0_4, .slice aA0_5 nA0_5 cA0_5, .int .i64 xL0_6, .int .i64 xL0_7, .slice aA0_8 nA0_8 cA0_8, .int .i64 xL0_9] 29 (0, 0))) := (hbw3.block _ (by omega)).trans i_a0_w2.out
  clear i_a0_w2
  clear hbw3
  have lt_y0 : Hid (∀ g ∈ F_y0, w2.heap.size ≤ g ∧ g < w3.heap.size) := p_y0.lt
  obtain ⟨ay0_3, ny0_3, cy0_3, ay0_4, ny0_4, cy0_4, ay0_5, ny0_5, cy0_5, ay0_8, ny0_8, cy0_8, hq_y0, _⟩ := open_Store p_y0.reads
  rw [← HEL0.out.1, ← HEL0.out.2.1, ← HEL0.out.2.2.1, ← HEL0.out.2.2.2.1, ← HEL0.out.2.2.2.2.1, ← HEL0.out.2.2.2.2.2.1] at hq_y0
  subst hq_y0
  subst he_y0
  go_wp2_with fail
  refine (qS.out _ _ _ (p_y0.base (Nat.zero_le _)) HZ0.out).mono ?_
  rintro e w4 ⟨rfl, hbw4⟩
  have zw4 : w3.heap.size ≤ w4.heap.size := hbw4.size
  have bw4 := bw3.trans (hbw4.mono bw3.size)
  clear bw3
  have o_y0_w4 := p_y0.later hbw4
  clear p_y0
  have i_a0_w4 : Hid (w4.heap[w.heap.size]? = some (.cells #[.int .i64 xL0_0, .int .i64 xL0_1, .int .i64 xL0_2, .slice aA0_3 nA0_3 cA0_3, .slice aA0_4 nA0_4 cA0_4, .slice aA0_5 nA0_5 cA0_5, .int .i64 xL0_6, .int .i64 xL0_7, .slice aA0_8 nA0_8 cA0_8, .int .i64 xL0_9] 29 (0, 0))) := (hbw4.block _ (by omega)).trans i_a0_w3.out
  clear i_a0_w3
  clear hbw4
  have sw4 : Below w4.heap.size w4 w4 := Below.refl _ _
  clear o_y0_w4 nd_y0 lt_y0
  have zl_a0 : w.heap.size < w4.heap.size := by omega
  have y_a0_0 : w4.cell? ⟨w.heap.size, 0, none⟩ = some (.int .i64 xL0_0) := box_cell i_a0_w4.out rfl
  have y_a0_1 : w4.cell? ⟨w.heap.size, 1, none⟩ = some (.int .i64 xL0_1) := box_cell i_a0_w4.out rfl
  have y_a0_2 : w4.cell? ⟨w.heap.size, 2, none⟩ = some (.int .i64 xL0_2) := box_cell i_a0_w4.out rfl
  have y_a0_3 : w4.cell? ⟨w.heap.size, 3, none⟩ = some (.slice aA0_3 nA0_3 cA0_3) := box_cell i_a0_w4.out rfl
  have y_a0_4 : w4.cell? ⟨w.heap.size, 4, none⟩ = some (.slice aA0_4 nA0_4 cA0_4) := box_cell i_a0_w4.out rfl
  have y_a0_5 : w4.cell? ⟨w.heap.size, 5, none⟩ = some (.slice aA0_5 nA0_5 cA0_5) := box_cell i_a0_w4.out rfl
  have y_a0_6 : w4.cell? ⟨w.heap.size, 6, none⟩ = some (.int .i64 xL0_6) := box_cell i_a0_w4.out rfl
  have y_a0_7 : w4.cell? ⟨w.heap.size, 7, none⟩ = some (.int .i64 xL0_7) := box_cell i_a0_w4.out rfl
  have y_a0_8 : w4.cell? ⟨w.heap.size, 8, none⟩ = some (.slice aA0_8 nA0_8 cA0_8) := box_cell i_a0_w4.out rfl
  have y_a0_9 : w4.cell? ⟨w.heap.size, 9, none⟩ = some (.int .i64 xL0_9) := box_cell i_a0_w4.out rfl
  go_wp2_with fail
  clear zl_a0 y_a0_0 y_a0_1 y_a0_2 y_a0_3 y_a0_4 y_a0_5 y_a0_6 y_a0_7 y_a0_8 y_a0_9
  refine (qto0.out _ bw4 HZ0.out).mono ?_
  rintro e w5 ⟨cs_x0, F_x0, he_x0, p_x0, nd_x0, hbw5⟩
  have zw5 : w4.heap.size ≤ w5.heap.size := hbw5.size
  have bw5 := bw4.trans (hbw5.mono bw4.size)
  clear bw4
  have sw5 := sw4.trans (hbw5.mono sw4.size)
  clear sw4
  have i_a0_w5 : Hid (w5.heap[w.heap.size]? = some (.cells #[.int .i64 xL0_0, .int .i64 xL0_1, .int .i64 xL0_2, .slice aA0_3 nA0_3 cA0_3, .slice aA0_4 nA0_4 cA0_4, .slice aA0_5 nA0_5 cA0_5, .int .i64 xL0_6, .int .i64 xL0_7, .slice aA0_8 nA0_8 cA0_8, .int .i64 xL0_9] 29 (0, 0))) := (hbw5.block _ (by omega)).trans i_a0_w4.out
  clear i_a0_w4
  clear hbw5
  have lt_x0 : Hid (∀ g ∈ F_x0, w4.heap.size ≤ g ∧ g < w5.heap.size) := p_x0.lt
  obtain ⟨ax0_3, nx0_3, cx0_3, ax0_4, nx0_4, cx0_4, ax0_5, nx0_5, cx0_5, ax0_8, nx0_8, cx0_8, hq_x0, _⟩ := open_Store p_x0.reads
  rw [← HEL0.out.1, ← HEL0.out.2.1, ← HEL0.out.2.2.1, ← HEL0.out.2.2.2.1, ← HEL0.out.2.2.2.2.1, ← HEL0.out.2.2.2.2.2.1] at hq_x0
  subst hq_x0
  subst he_x0
  go_wp2_with fail
  obtain ⟨w6, hw6⟩ : ∃ W, W = w5.alloc (.cells #[.int .i64 xL0_0, .int .i64 xL0_1, .int .i64 xL0_2, .slice ax0_3 nx0_3 cx0_3, .slice ax0_4 nx0_4 cx0_4, .slice ax0_5 nx0_5 cx0_5, .int .i64 xL0_6, .int .i64 xL0_7, .slice ax0_8 nx0_8 cx0_8, .int .i64 xL0_9] 39) := ⟨_, rfl⟩
  have hbw6 : Below w5.heap.size w5 w6 := by rw [hw6]; exact (Below.refl _ _).alloc (Nat.le_refl _) _
  have i_x0_w6 : Hid (w6.heap[w5.heap.size]? = some (.cells #[.int .i64 xL0_0, .int .i64 xL0_1, .int .i64 xL0_2, .slice ax0_3 nx0_3 cx0_3, .slice ax0_4 nx0_4 cx0_4, .slice ax0_5 nx0_5 cx0_5, .int .i64 xL0_6, .int .i64 xL0_7, .slice ax0_8 nx0_8 cx0_8, .int .i64 xL0_9] 39 (0, 0))) := by show _ = _; rw [hw6]; exact heap_alloc_new w5 _
  have zzw6 : w6.heap.size = w5.heap.size + 1 := by rw [hw6]; simp
  rw [← hw6]
  clear hw6
  have zw6 : w5.heap.size ≤ w6.heap.size := hbw6.size
  have bw6 := bw5.trans (hbw6.mono bw5.size)
  clear bw5
  have sw6 := sw5.trans (hbw6.mono sw5.size)
  clear sw5
  have o_x0_w6 := p_x0.later hbw6
  clear p_x0
  have i_a0_w6 : Hid (w6.heap[w.heap.size]? = some (.cells #[.int .i64 xL0_0, .int .i64 xL0_1, .int .i64 xL0_2, .slice aA0_3 nA0_3 cA0_3, .slice aA0_4 nA0_4 cA0_4, .slice aA0_5 nA0_5 cA0_5, .int .i64 xL0_6, .int .i64 xL0_7, .slice aA0_8 nA0_8 cA0_8, .int .i64 xL0_9] 29 (0, 0))) := (hbw6.block _ (by omega)).trans i_a0_w5.out
  clear i_a0_w5
  clear hbw6
  refine (qI.out _ _ _ (o_x0_w6.base (Nat.zero_le _)) HZ0.out).mono ?_
  rintro e w7 ⟨rfl, hbw7⟩
  have zw7 : w6.heap.size ≤ w7.heap.size := hbw7.size
  have bw7 := bw6.trans (hbw7.mono bw6.size)
  clear bw6
  have sw7 := sw6.trans (hbw7.mono sw6.size)
  clear sw6
  have o_x0_w7 := o_x0_w6.later hbw7
  clear o_x0_w6
  have i_a0_w7 : Hid (w7.heap[w.heap.size]? = some (.cells #[.int .i64 xL0_0, .int .i64 xL0_1, .int .i64 xL0_2, .slice aA0_3 nA0_3 cA0_3, .slice aA0_4 nA0_4 cA0_4, .slice aA0_5 nA0_5 cA0_5, .int .i64 xL0_6, .int .i64 xL0_7, .slice aA0_8 nA0_8 cA0_8, .int .i64 xL0_9] 29 (0, 0))) := (hbw7.block _ (by omega)).trans i_a0_w6.out
  clear i_a0_w6
  have i_x0_w7 : Hid (w7.heap[w5.heap.size]? = some (.cells #[.int .i64 xL0_0, .int .i64 xL0_1, .int .i64 xL0_2, .slice ax0_3 nx0_3 cx0_3, .slice ax0_4 nx0_4 cx0_4, .slice ax0_5 nx0_5 cx0_5, .int .i64 xL0_6, .int .i64 xL0_7, .slice ax0_8 nx0_8 cx0_8, .int .i64 xL0_9] 39 (0, 0))) := (hbw7.block _ (by omega)).trans i_x0_w6.out
  clear i_x0_w6
  clear hbw7
  have zlt : w.heap.size < w7.heap.size := by omega
  have zlt4 : w5.heap.size < w7.heap.size := by omega
  have hbb : Below w7.heap.size w7 w7 := Below.refl _ _
  have ya0 : w7.cell? ⟨w.heap.size, 0, none⟩ = some (.int .i64 xL0_0) := box_cell i_a0_w7.out rfl
  have ya1 : w7.cell? ⟨w.heap.size, 1, none⟩ = some (.int .i64 xL0_1) := box_cell i_a0_w7.out rfl
  have ya2 : w7.cell? ⟨w.heap.size, 2, none⟩ = some (.int .i64 xL0_2) := box_cell i_a0_w7.out rfl
  have ya3 : w7.cell? ⟨w.heap.size, 3, none⟩ = some (.slice aA0_3 nA0_3 cA0_3) := box_cell i_a0_w7.out rfl
  have ya4 : w7.cell? ⟨w.heap.size, 4, none⟩ = some (.slice aA0_4 nA0_4 cA0_4) := box_cell i_a0_w7.out rfl
  have ya5 : w7.cell? ⟨w.heap.size, 5, none⟩ = some (.slice aA0_5 nA0_5 cA0_5) := box_cell i_a0_w7.out rfl
  have ya6 : w7.cell? ⟨w.heap.size, 6, none⟩ = some (.int .i64 xL0_6) := box_cell i_a0_w7.out rfl
  have ya7 : w7.cell? ⟨w.heap.size, 7, none⟩ = some (.int .i64 xL0_7) := box_cell i_a0_w7.out rfl
  have ya8 : w7.cell? ⟨w.heap.size, 8, none⟩ = some (.slice aA0_8 nA0_8 cA0_8) := box_cell i_a0_w7.out rfl
  have ya9 : w7.cell? ⟨w.heap.size, 9, none⟩ = some (.int .i64 xL0_9) := box_cell i_a0_w7.out rfl
  have yb0 : w7.cell? ⟨w5.heap.size, 0, none⟩ = some (.int .i64 xL0_0) := box_cell i_x0_w7.out rfl
  have yb1 : w7.cell? ⟨w5.heap.size, 1, none⟩ = some (.int .i64 xL0_1) := box_cell i_x0_w7.out rfl
  have yb2 : w7.cell? ⟨w5.heap.size, 2, none⟩ = some (.int .i64 xL0_2) := box_cell i_x0_w7.out rfl
  have yb3 : w7.cell? ⟨w5.heap.size, 3, none⟩ = some (.slice ax0_3 nx0_3 cx0_3) := box_cell i_x0_w7.out rfl
  have yb4 : w7.cell? ⟨w5.heap.size, 4, none⟩ = some (.slice ax0_4 nx0_4 cx0_4) := box_cell i_x0_w7.out rfl
  have yb5 : w7.cell? ⟨w5.heap.size, 5, none⟩ = some (.slice ax0_5 nx0_5 cx0_5) := box_cell i_x0_w7.out rfl
  have yb6 : w7.cell? ⟨w5.heap.size, 6, none⟩ = some (.int .i64 xL0_6) := box_cell i_x0_w7.out rfl
  have yb7 : w7.cell? ⟨w5.heap.size, 7, none⟩ = some (.int .i64 xL0_7) := box_cell i_x0_w7.out rfl
  have yb8 : w7.cell? ⟨w5.heap.size, 8, none⟩ = some (.slice ax0_8 nx0_8 cx0_8) := box_cell i_x0_w7.out rfl
  have yb9 : w7.cell? ⟨w5.heap.size, 9, none⟩ = some (.int .i64 xL0_9) := box_cell i_x0_w7.out rfl
  go_wp2_with fail
  go_region_held (fun w' => w'.cell? ⟨w.heap.size, 0, none⟩ = some (.int .i64 xL0_0) ∧ w'.cell? ⟨w.heap.size, 1, none⟩ = some (.int .i64 xL0_1) ∧ w'.cell? ⟨w.heap.size, 2, none⟩ = some (.int .i64 xL0_2) ∧ w'.cell? ⟨w.heap.size, 3, none⟩ = some (.slice aA0_3 nA0_3 cA0_3) ∧ w'.cell? ⟨w.heap.size, 4, none⟩ = some (.slice aA0_4 nA0_4 cA0_4) ∧ w'.cell? ⟨w.heap.size, 5, none⟩ = some (.slice aA0_5 nA0_5 cA0_5) ∧ w'.cell? ⟨w.heap.size, 6, none⟩ = some (.int .i64 xL0_6) ∧ w'.cell? ⟨w.heap.size, 7, none⟩ = some (.int .i64 xL0_7) ∧ w'.cell? ⟨w.heap.size, 8, none⟩ = some (.slice aA0_8 nA0_8 cA0_8) ∧ w'.cell? ⟨w.heap.size, 9, none⟩ = some (.int .i64 xL0_9) ∧ w'.cell? ⟨w5.heap.size, 0, none⟩ = some (.int .i64 xL0_0) ∧ w'.cell? ⟨w5.heap.size, 1, none⟩ = some (.int .i64 xL0_1) ∧ w'.cell? ⟨w5.heap.size, 2, none⟩ = some (.int .i64 xL0_2) ∧ w'.cell? ⟨w5.heap.size, 3, none⟩ = some (.slice ax0_3 nx0_3 cx0_3) ∧ w'.cell? ⟨w5.heap.size, 4, none⟩ = some (.slice ax0_4 nx0_4 cx0_4) ∧ w'.cell? ⟨w5.heap.size, 5, none⟩ = some (.slice ax0_5 nx0_5 cx0_5) ∧ w'.cell? ⟨w5.heap.size, 6, none⟩ = some (.int .i64 xL0_6) ∧ w'.cell? ⟨w5.heap.size, 7, none⟩ = some (.int .i64 xL0_7) ∧ w'.cell? ⟨w5.heap.size, 8, none⟩ = some (.slice ax0_8 nx0_8 cx0_8) ∧ w'.cell? ⟨w5.heap.size, 9, none⟩ = some (.int .i64 xL0_9))
    (first | go_keep | (refine ⟨?_, ?_, ?_, ?_, ?_, ?_, ?_, ?_, ?_, ?_, ?_, ?_, ?_, ?_, ?_, ?_, ?_, ?_, ?_, ?_⟩ <;> first | (refine (hb7.cell ?_).trans ?_; (have h6 := hb6.size; simp at h6 ⊢; omega); assumption) | (refine (hb6.cell ?_).trans ?_; (simp; omega); assumption)))
    (first | ((go_at_call 7; refine (qto0.out _ (bw7.drew) HZ0.out).mono ?_; rintro e w8 ⟨cs6, F6, rfl, o6, nd6, hb6⟩; have za0 : w8.cell? ⟨w.heap.size, 0, none⟩ = some (.int .i64 xL0_0) := (hb6.cell (p := ⟨w.heap.size, 0, none⟩) (by simp; omega)).trans ya0; have za1 : w8.cell? ⟨w.heap.size, 1, none⟩ = some (.int .i64 xL0_1) := (hb6.cell (p := ⟨w.heap.size, 1, none⟩) (by simp; omega)).trans ya1; have za2 : w8.cell? ⟨w.heap.size, 2, none⟩ = some (.int .i64 xL0_2) := (hb6.cell (p := ⟨w.heap.size, 2, none⟩) (by simp; omega)).trans ya2; have za3 : w8.cell? ⟨w.heap.size, 3, none⟩ = some (.slice aA0_3 nA0_3 cA0_3) := (hb6.cell (p := ⟨w.heap.size, 3, none⟩) (by simp; omega)).trans ya3; have za4 : w8.cell? ⟨w.heap.size, 4, none⟩ = some (.slice aA0_4 nA0_4 cA0_4) := (hb6.cell (p := ⟨w.heap.size, 4, none⟩) (by simp; omega)).trans ya4; have za5 : w8.cell? ⟨w.heap.size, 5, none⟩ = some (.slice aA0_5 nA0_5 cA0_5) := (hb6.cell (p := ⟨w.heap.size, 5, none⟩) (by simp; omega)).trans ya5; have za6 : w8.cell? ⟨w.heap.size, 6, none⟩ = some (.int .i64 xL0_6) := (hb6.cell (p := ⟨w.heap.size, 6, none⟩) (by simp; omega)).trans ya6; have za7 : w8.cell? ⟨w.heap.size, 7, none⟩ = some (.int .i64 xL0_7) := (hb6.cell (p := ⟨w.heap.size, 7, none⟩) (by simp; omega)).trans ya7; have za8 : w8.cell? ⟨w.heap.size, 8, none⟩ = some (.slice aA0_8 nA0_8 cA0_8) := (hb6.cell (p := ⟨w.heap.size, 8, none⟩) (by simp; omega)).trans ya8; have za9 : w8.cell? ⟨w.heap.size, 9, none⟩ = some (.int .i64 xL0_9) := (hb6.cell (p := ⟨w.heap.size, 9, none⟩) (by simp; omega)).trans ya9; have zb0 : w8.cell? ⟨w5.heap.size, 0, none⟩ = some (.int .i64 xL0_0) := (hb6.cell (p := ⟨w5.heap.size, 0, none⟩) (by simp; omega)).trans yb0; have zb1 : w8.cell? ⟨w5.heap.size, 1, none⟩ = some (.int .i64 xL0_1) := (hb6.cell (p := ⟨w5.heap.size, 1, none⟩) (by simp; omega)).trans yb1; have zb2 : w8.cell? ⟨w5.heap.size, 2, none⟩ = some (.int .i64 xL0_2) := (hb6.cell (p := ⟨w5.heap.size, 2, none⟩) (by simp; omega)).trans yb2; have zb3 : w8.cell? ⟨w5.heap.size, 3, none⟩ = some (.slice ax0_3 nx0_3 cx0_3) := (hb6.cell (p := ⟨w5.heap.size, 3, none⟩) (by simp; omega)).trans yb3; have zb4 : w8.cell? ⟨w5.heap.size, 4, none⟩ = some (.slice ax0_4 nx0_4 cx0_4) := (hb6.cell (p := ⟨w5.heap.size, 4, none⟩) (by simp; omega)).trans yb4; have zb5 : w8.cell? ⟨w5.heap.size, 5, none⟩ = some (.slice ax0_5 nx0_5 cx0_5) := (hb6.cell (p := ⟨w5.heap.size, 5, none⟩) (by simp; omega)).trans yb5; have zb6 : w8.cell? ⟨w5.heap.size, 6, none⟩ = some (.int .i64 xL0_6) := (hb6.cell (p := ⟨w5.heap.size, 6, none⟩) (by simp; omega)).trans yb6; have zb7 : w8.cell? ⟨w5.heap.size, 7, none⟩ = some (.int .i64 xL0_7) := (hb6.cell (p := ⟨w5.heap.size, 7, none⟩) (by simp; omega)).trans yb7; have zb8 : w8.cell? ⟨w5.heap.size, 8, none⟩ = some (.slice ax0_8 nx0_8 cx0_8) := (hb6.cell (p := ⟨w5.heap.size, 8, none⟩) (by simp; omega)).trans yb8; have zb9 : w8.cell? ⟨w5.heap.size, 9, none⟩ = some (.int .i64 xL0_9) := (hb6.cell (p := ⟨w5.heap.size, 9, none⟩) (by simp; omega)).trans yb9)) | ((go_at_call 9; refine (qeq0.out _ _ cs6 (o_x0_w7.later ((Below.drew hbb).trans (hb6.mono (by simp)))).reads o6.reads HZ0.out).mono ?_; rintro e w9 ⟨rfl, hb7⟩)))
  have hbw9 : Below w7.heap.size w7 w9 := hbb.drew.trans ((hb6.trans (hb7.mono hb6.size)).mono hbb.drew.size)
  clear hb6 hb7 o6 nd6 hbb zlt zlt4 ya0 ya1 ya2 ya3 ya4 ya5 ya6 ya7 ya8 ya9 yb0 yb1 yb2 yb3 yb4 yb5 yb6 yb7 yb8 yb9 za0 za1 za2 za3 za4 za5 za6 za7 za8 za9 zb0 zb1 zb2 zb3 zb4 zb5 zb6 zb7 zb8 zb9
  have zw9 : w7.heap.size ≤ w9.heap.size := hbw9.size
  have bw9 := bw7.trans (hbw9.mono bw7.size)
  clear bw7
  have sw9 := sw7.trans (hbw9.mono sw7.size)
  clear sw7
  have o_x0_w9 := o_x0_w7.later hbw9
  clear o_x0_w7
  have i_a0_w9 : Hid (w9.heap[w.heap.size]? = some (.cells #[.int .i64 xL0_0, .int .i64 xL0_1, .int .i64 xL0_2, .slice aA0_3 nA0_3 cA0_3, .slice aA0_4 nA0_4 cA0_4, .slice aA0_5 nA0_5 cA0_5, .int .i64 xL0_6, .int .i64 xL0_7, .slice aA0_8 nA0_8 cA0_8, .int .i64 xL0_9] 29 (0, 0))) := (hbw9.block _ (by omega)).trans i_a0_w7.out
  clear i_a0_w7
  have i_x0_w9 : Hid (w9.heap[w5.heap.size]? = some (.cells #[.int .i64 xL0_0, .int .i64 xL0_1, .int .i64 xL0_2, .slice ax0_3 nx0_3 cx0_3, .slice ax0_4 nx0_4 cx0_4, .slice ax0_5 nx0_5 cx0_5, .int .i64 xL0_6, .int .i64 xL0_7, .slice ax0_8 nx0_8 cx0_8, .int .i64 xL0_9] 39 (0, 0))) := (hbw9.block _ (by omega)).trans i_x0_w7.out
  clear i_x0_w7
  clear hbw9
  go_wp2
  go_ret
  exact ⟨rfl, bw9⟩

end Go.Proofs.YtkfmpfbhhmmllaaGreat

/- WStoreOk: The law FnExactStoreOk over the contracts of its two functions. -/
namespace Go.Proofs.YtkfmpfbhhmmllaaGreat
open Go.RowKit
set_option linter.unusedVariables false
set_option maxRecDepth 100000

theorem wd_Store : shStore.wd ≤ 100 := by decide

theorem cntV_Store (d : shStore.D) (h : shStore.sz d ≤ 1048576) : shStore.cntV d ≤ 1000000000 := by
  have h1 := shStore.cnt_le d
  have h2 := shStore.cntV_le d
  have h3 := wd_Store
  have h4 : shStore.wd * (shStore.sz d + 1) ≤ 100 * (1048576 + 1) := Nat.mul_le_mul h3 (by omega)
  omega

theorem storeOk_law (cs : List Value) (d : shStore.D) (w : World) (hr : Reads shStore w cs d) :
    Calls Tryz.prog 3 #[.agg cs.toArray] w fun e w' => e = .returned (.bool true) ∧ Below w.heap.size w w' :=
  storeOk_over cs d (storeB d) w hr (cntV_Store d) (fun w' c G h hs => specStore_ok c d 0 G w' h hs) (fun w' c G h hs => implStore_ok c d 0 G w' h hs)

end Go.Proofs.YtkfmpfbhhmmllaaGreat
