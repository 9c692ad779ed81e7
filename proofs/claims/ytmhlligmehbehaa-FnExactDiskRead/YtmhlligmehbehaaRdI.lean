/-
  nodePlace and DiskRead of the program.
-/
import Derived.Test.YtmhlligmehbehaaReadP
import Derived.Test.YtmhlligmehbehaaDOkI
import Derived.Test.YtmhlligmehbehaaCloneV
namespace Go.Proofs.Ytmhlligmehbehaa
open Go.RowKit
set_option linter.unusedVariables false

set_option maxHeartbeats 1000000 in
theorem placeClosure_ok (id y0 : Int) (p1 : Option Addr) (m1 k1 : Nat) (p2 : Option Addr) (m2 k2 : Nat) (b : Nat) (w : World) (hb : b < w.heap.size) (hc : w.cell? ⟨b, 0, none⟩ = some (.int .i64 id)) :
    Calls Try.prog 48 #[.agg #[.int .i64 y0, .slice p1 m1 k1, .slice p2 m2 k2], .pointer (some ⟨b, 0, none⟩)] w fun e w' => e = .returned (.bool (y0 == id)) ∧ Below w.heap.size w w' := by
  have bA : Below w.heap.size w (w.alloc (.cells #[.int .i64 y0, .slice p1 m1 k1, .slice p2 m2 k2] 48)) := (Below.refl _ _).alloc (Nat.le_refl _) _
  go_enter Try.func48, Try.ntmps48
  go_wp2
  go_ret
  exact ⟨rfl, bA⟩

set_option maxRecDepth 100000 in
set_option maxHeartbeats 2000000 in
theorem indexFunc_ok (a3 : Option Addr) (n3 c3 : Nat) (nd : List NodeD) (id : Int) (b : Nat) (w : World) (r3 : Reads (.sl shNode) w [.slice a3 n3 c3] nd) (hb0 : b < w.heap.size) (hc0 : w.cell? ⟨b, 0, none⟩ = some (.int .i64 id)) (hin : placeN nd id < nd.length) :
    Calls Try.prog 47 #[.slice a3 n3 c3, .func (.func 48) #[] #[.pointer (some ⟨b, 0, none⟩)]] w fun e w' => e = .returned (.int .i64 (placeN nd id)) ∧ Below w.heap.size w w' := by
  have l3 : nd.length = n3 := (reads_len r3).1
  have l3m : n3 ≤ c3 ∧ c3 ≤ maxLen := (reads_len r3).2
  unfold maxLen at l3m
  obtain ⟨Q, hQ⟩ : ∃ Q, Q = placeN nd id := ⟨_, rfl⟩
  have HNE : Hid (∀ k (hk : k < nd.length), k < Q → (nd[k]).1 ≠ id) := fun k hk h => placeN_ne (by omega) hk
  have HEQ : Hid (∀ hk : Q < nd.length, (nd[Q]).1 = id) := fun hk => by subst hQ; exact placeN_at hk
  have HR : Hid (Reads (.sl shNode) w [.slice a3 n3 c3] nd) := r3
  have HL : Hid (nd.length = n3) := l3
  rw [← hQ] at hin ⊢
  have hQn : Q < n3 := by omega
  have HC : Hid (w.cell? ⟨b, 0, none⟩ = some (.int .i64 id)) := hc0
  clear r3 hQ hin l3 hc0
  go_enter Try.func47, Try.ntmps47
  go_wp2
  go_loopw [8] (fun i wr => ∃ k : Nat, k ≤ Q ∧ i = .int .i64 k ∧ Below w.heap.size w wr) (fun i _ => n3 - (intOf i).toNat)
  case atStart => exact ⟨0, Nat.zero_le _, rfl, Below.refl _ _⟩
  case round =>
    obtain ⟨k, hk, rfl, hbel⟩ := hrel
    have hbs := hbel.size
    obtain ⟨bb, off, cc, x, rfl, hb, hx, hrx, hcell⟩ := reads_elem HR.out k (by omega)
    obtain ⟨p1, m1, k1, p2, m2, k2, rfl, _, _⟩ := open_Node hrx
    obtain ⟨hkd, hxe⟩ := at_some' hx
    obtain ⟨y0, ey0⟩ : ∃ y : Int, y = x.1 := ⟨_, rfl⟩
    have hy : (nd[k]'hkd).1 = y0 := by rw [ey0]; exact congrArg Prod.fst hxe
    have g0 : wr.cell? ⟨bb, off + k * 3, none⟩ = some (.int .i64 y0) := by rw [ey0]; exact (hbel.cell (p := ⟨bb, off + (k * 3 + 0), none⟩) hb).trans (hcell 0 (by decide))
    have g1 : wr.cell? ⟨bb, off + k * 3 + 1, none⟩ = some (.slice p1 m1 k1) := (hbel.cell (p := ⟨bb, off + (k * 3 + 1), none⟩) hb).trans (hcell 1 (by decide))
    have g2 : wr.cell? ⟨bb, off + k * 3 + 2, none⟩ = some (.slice p2 m2 k2) := (hbel.cell (p := ⟨bb, off + (k * 3 + 2), none⟩) hb).trans (hcell 2 (by decide))
    have hkn : (k : Int) < (n3 : Int) := by omega
    have hcr : Hid (wr.cell? ⟨b, 0, none⟩ = some (.int .i64 id)) := (hbel.cell (p := ⟨b, 0, none⟩) hb0).trans HC.out
    by_cases hlt : k < Q
    · have hne : (y0 == id) = false := by have := HNE.out k hkd hlt; rw [hy] at this; simpa using this
      clear hcell hrx hx hxe ey0 hy
      go_wp2_with fail
      refine (placeClosure_ok id y0 p1 m1 k1 p2 m2 k2 b _ (by omega) hcr.out).mono ?_
      rintro e w1 ⟨rfl, hb1⟩
      have b1 := hbel.trans (hb1.mono hbs)
      clear hb1 g0 g1 g2
      go_wp2
      go_roundw
      case rel => exact ⟨k + 1, by omega, by go_num, b1⟩
      case measure => simp [intOf]; omega
    · have e : k = Q := by omega
      subst e
      have hne : (y0 == id) = true := by have := HEQ.out hkd; rw [hy] at this; simpa using this
      clear hcell hrx hx hxe ey0 hy
      go_wp2_with fail
      refine (placeClosure_ok id y0 p1 m1 k1 p2 m2 k2 b _ (by omega) hcr.out).mono ?_
      rintro e w1 ⟨rfl, hb1⟩
      have b1 := hbel.trans (hb1.mono hbs)
      clear hb1 g0 g1 g2
      go_wp2
      go_ret
      exact ⟨rfl, b1⟩

set_option maxRecDepth 100000 in
set_option maxHeartbeats 2000000 in
theorem nodePlace_ok (a3 : Option Addr) (n3 c3 : Nat) (nd : List NodeD) (id : Int) (w : World) (r3 : Reads (.sl shNode) w [.slice a3 n3 c3] nd) (hin : placeN nd id < nd.length) :
    Calls Try.prog 25 #[.slice a3 n3 c3, .int .i64 id] w fun e w' => e = .returned (.int .i64 (placeN nd id)) ∧ Below w.heap.size w w' := by
  have bA : Below w.heap.size w (w.alloc (.cells #[.int .i64 id] 3)) := (Below.refl _ _).alloc (Nat.le_refl _) _
  have q := indexFunc_ok a3 n3 c3 nd id w.heap.size (w.alloc (.cells #[.int .i64 id] 3)) (r3.later bA) (by simp) (box_cell (heap_alloc_new w _) rfl) hin
  have HQ : Hid (Calls Try.prog 47 #[.slice a3 n3 c3, .func (.func 48) #[] #[.pointer (some ⟨w.heap.size, 0, none⟩)]] (w.alloc (.cells #[.int .i64 id] 3)) fun e w' => e = .returned (.int .i64 (placeN nd id)) ∧ Below (w.alloc (.cells #[.int .i64 id] 3)).heap.size (w.alloc (.cells #[.int .i64 id] 3)) w') := q
  clear q r3 hin
  go_enter Try.func25, Try.ntmps25
  go_wp2_with fail
  refine HQ.out.mono ?_
  rintro e w1 ⟨rfl, hb1⟩
  have b1 := bA.trans (hb1.mono bA.size)
  go_wp2
  go_ret
  exact ⟨rfl, b1⟩

set_option maxRecDepth 100000 in
set_option maxHeartbeats 2000000 in
theorem implRead_bad (cs : List Value) (d : shDisk.D) (name : ByteArray) (B : Nat) (G : List Nat) (w : World) (ho : Own shDisk w B cs d G) (hs : shDisk.sz d ≤ 1048576) (hok : implOkB d = false) :
    Calls Try.prog 7 #[.agg cs.toArray, .string name] w fun e w' => e = .returned (.tuple #[.slice none 0 0, .bool false]) ∧ Below w.heap.size w w' := by
  obtain ⟨a3, n3, c3, F3, a4, n4, c4, F4, a5, n5, c5, F5, rfl, _, o3, o4, o5⟩ := openO_Disk ho
  have l3m : n3 ≤ c3 ∧ c3 ≤ maxLen := (reads_len o3.reads).2
  unfold maxLen at l3m
  obtain ⟨x0, e0⟩ : ∃ x : Int, x = d.1 := ⟨_, rfl⟩
  obtain ⟨x1, e1⟩ : ∃ x : Int, x = d.2.1 := ⟨_, rfl⟩
  obtain ⟨x2, e2⟩ : ∃ x : Int, x = d.2.2.1 := ⟨_, rfl⟩
  have qok : Hid (∀ w', Below w.heap.size w w' → Calls Try.prog 22 #[.agg #[.int .i64 x0, .int .i64 x1, .int .i64 x2, .slice a3 n3 c3, .slice a4 n4 c4, .slice a5 n5 c5]] w' fun e w'' => e = .returned (.bool false) ∧ Below w'.heap.size w' w'') := fun w' h' => by
    rw [e0, e1, e2, ← hok]; exact implOk_ok _ d w' (ho.reads.later h') hs
  rw [← e0, ← e1, ← e2]
  have bW0 : Below w.heap.size w (w.alloc (.cells #[.int .i64 x0, .int .i64 x1, .int .i64 x2, .slice a3 n3 c3, .slice a4 n4 c4, .slice a5 n5 c5] 35)) := (Below.refl _ _).alloc (Nat.le_refl _) _
  clear ho hs o3 o4 o5 e0 e1 e2 hok
  go_enter Try.func7, Try.ntmps7
  go_wp2_with fail
  refine (qok.out _ bW0).mono ?_
  rintro e w1 ⟨rfl, hb1⟩
  have b1 := bW0.trans (hb1.mono bW0.size)
  clear hb1
  go_wp2
  go_ret2
  exact ⟨rfl, b1⟩

set_option maxRecDepth 100000 in
set_option maxHeartbeats 4000000 in
theorem implRead_good (cs : List Value) (d : shDisk.D) (name : ByteArray) (B : Nat) (G : List Nat) (w : World) (ho : Own shDisk w B cs d G) (hs : shDisk.sz d ≤ 1048576) (hok : implOkB d = true) (hname : name.size ≤ maxLen)
    (M : List LinkD) (hM : M = dirF (List.reverse (α := LinkD) d.2.2.2.2.1) d.2.2.2.2.2.1) (hin : hasL M name = true → placeN d.2.2.2.1 (findL M name) < List.length (α := NodeD) d.2.2.2.1) :
    Calls Try.prog 7 #[.agg cs.toArray, .string name] w fun e w' => Below w.heap.size w w' ∧ ((hasL M name = false ∧ e = .returned (.tuple #[.slice none 0 0, .bool false])) ∨
      ∃ v F x, hasL M name = true ∧ shNode.at d.2.2.2.1 (placeN d.2.2.2.1 (findL M name)) = some x ∧ e = .returned (.tuple #[v, .bool true]) ∧ Own (.sl .u8) w' w.heap.size [v] x.2.1 F ∧ F.Nodup) := by
  obtain ⟨a3, n3, c3, F3, a4, n4, c4, F4, a5, n5, c5, F5, rfl, _, o3, o4, o5⟩ := openO_Disk ho
  have l3m : n3 ≤ c3 ∧ c3 ≤ maxLen := (reads_len o3.reads).2
  unfold maxLen at l3m
  obtain ⟨x0, e0⟩ : ∃ x : Int, x = d.1 := ⟨_, rfl⟩
  obtain ⟨x1, e1⟩ : ∃ x : Int, x = d.2.1 := ⟨_, rfl⟩
  obtain ⟨x2, e2⟩ : ∃ x : Int, x = d.2.2.1 := ⟨_, rfl⟩
  have qok : Hid (∀ w', Below w.heap.size w w' → Calls Try.prog 22 #[.agg #[.int .i64 x0, .int .i64 x1, .int .i64 x2, .slice a3 n3 c3, .slice a4 n4 c4, .slice a5 n5 c5]] w' fun e w'' => e = .returned (.bool true) ∧ Below w'.heap.size w' w'') := fun w' h' => by
    rw [e0, e1, e2, ← hok]; exact implOk_ok _ d w' (ho.reads.later h') hs
  have s45 : n4 + n5 ≤ 1048576 := by
    have h1 := hs
    rw [sz_Disk] at h1
    have l4 : List.length (α := LinkD) d.2.2.2.2.1 = n4 := (reads_len o4.reads).1
    have l5 : List.length (α := TurnD) d.2.2.2.2.2.1 = n5 := (reads_len o5.reads).1
    have s4 : List.length (α := LinkD) d.2.2.2.2.1 ≤ Sh.sz (.sl shLink) d.2.2.2.2.1 := Nat.le_add_right _ _
    have s5 : List.length (α := TurnD) d.2.2.2.2.2.1 ≤ Sh.sz (.sl shTurn) d.2.2.2.2.2.1 := Nat.le_add_right _ _
    omega
  have qdir : Hid (∀ w', Below w.heap.size w w' → Calls Try.prog 23 #[.slice a4 n4 c4, .slice a5 n5 c5] w' fun e w'' => e = .returned (.map (some w'.heap.size)) ∧ MapIs w'' w'.heap.size (n4 + n5) M ∧ Below w'.heap.size w' w'') := fun w' h' => by
    rw [hM]; exact directory_ok a4 n4 c4 _ a5 n5 c5 _ w' (o4.reads.later h') (o5.reads.later h') s45
  obtain ⟨nd, hnd⟩ : ∃ l : List NodeD, l = d.2.2.2.1 := ⟨_, rfl⟩
  rw [← hnd] at o3 hin ⊢
  have l3 : nd.length = n3 := (reads_len o3.reads).1
  obtain ⟨Id, hId⟩ : ∃ z, z = findL M name := ⟨_, rfl⟩
  rw [← hId] at hin ⊢
  have qpl : Hid (hasL M name = true → ∀ w', Below w.heap.size w w' → Calls Try.prog 25 #[.slice a3 n3 c3, .int .i64 Id] w' fun e w'' => e = .returned (.int .i64 (placeN nd Id)) ∧ Below w'.heap.size w' w'') := fun hh w' h' => nodePlace_ok a3 n3 c3 nd Id w' (o3.reads.later h') (hin hh)
  have HO : Hid (Own (.sl shNode) w B [.slice a3 n3 c3] nd F3 ∧ (hasL M name = true → placeN nd Id < n3)) := ⟨o3, fun h => by have := hin h; omega⟩
  have HID : Hid (Id = findL M name) := hId
  have HSZ : Hid (∀ (i : Nat) (x : shNode.D), shNode.at nd i = some x → List.length (α := Int) x.2.1 ≤ 1048576) := fun i x hx => by
    have h1 := hs
    rw [sz_Disk, ← hnd] at h1
    have h2 := sz_elem shNode nd i x hx
    have h3 : List.length (α := Int) x.2.1 ≤ shNode.sz x := (sz_len x).1
    have h4 : Sh.sz (.sl shNode) nd = List.length (α := NodeD) nd + (List.map shNode.sz nd).sum := rfl
    omega
  rw [← e0, ← e1, ← e2]
  obtain ⟨W0, hW0⟩ : ∃ W0, W0 = w.alloc (.cells #[.int .i64 x0, .int .i64 x1, .int .i64 x2, .slice a3 n3 c3, .slice a4 n4 c4, .slice a5 n5 c5] 35) := ⟨_, rfl⟩
  have bW0 : Below w.heap.size w W0 := by rw [hW0]; exact (Below.refl _ _).alloc (Nat.le_refl _) _
  have hbox : W0.heap[w.heap.size]? = some (.cells #[.int .i64 x0, .int .i64 x1, .int .i64 x2, .slice a3 n3 c3, .slice a4 n4 c4, .slice a5 n5 c5] 35 (0, 0)) := by rw [hW0]; exact heap_alloc_new w _
  have zW0 : W0.heap.size = w.heap.size + 1 := by rw [hW0]; simp
  have HW0 : Hid (W0 = w.alloc (.cells #[.int .i64 x0, .int .i64 x1, .int .i64 x2, .slice a3 n3 c3, .slice a4 n4 c4, .slice a5 n5 c5] 35)) := hW0
  have BX : Hid (∀ w', Below W0.heap.size W0 w' → w'.heap[w.heap.size]? = some (.cells #[.int .i64 x0, .int .i64 x1, .int .i64 x2, .slice a3 n3 c3, .slice a4 n4 c4, .slice a5 n5 c5] 35 (0, 0))) := fun w' h' => (h'.block _ (by omega)).trans hbox
  clear ho hs o3 o4 o5 e0 e1 e2 hok hM hW0 hbox hnd hin hId l3
  go_enter Try.func7, Try.ntmps7
  go_wp2_with fail
  rw [← HW0.out]
  refine (qok.out _ bW0).mono ?_
  rintro e w1 ⟨rfl, hb1⟩
  have i1 := BX.out w1 hb1
  have b1 := bW0.trans (hb1.mono bW0.size)
  have d1 : Below W0.heap.size W0 w1 := hb1
  have y0 := box_cell (j := 0) i1 rfl
  have y1 := box_cell (j := 1) i1 rfl
  have y2 := box_cell (j := 2) i1 rfl
  have y3 := box_cell (j := 3) i1 rfl
  have y4 := box_cell (j := 4) i1 rfl
  have y5 := box_cell (j := 5) i1 rfl
  clear i1 hb1
  go_wp2_with fail
  refine (qdir.out _ b1).mono ?_
  rintro e w2 ⟨rfl, hm2, hb2⟩
  have d2 := d1.trans (hb2.mono d1.size)
  have b2 := b1.trans (hb2.mono b1.size)
  have HM : Hid (MapIs w2 w1.heap.size (n4 + n5) M) := hm2
  clear hb2 y0 y1 y2 y3 y4 y5 hm2
  have hidr : findL M name = Id := HID.out.symm
  cases hh : hasL M name with
  | false =>
    go_wp2_with (at_lookup; refine wp_look_ok _ rfl _ _ rfl w1.heap.size (n4 + n5) M rfl HM.out name rfl hname ?_)
    go_ret2
    exact ⟨b2, .inl ⟨hh, rfl⟩⟩
  | true =>
    go_wp2_with (first | (at_lookup; refine wp_look_ok _ rfl _ _ rfl w1.heap.size (n4 + n5) M rfl HM.out name rfl hname ?_) | fail)
    clear hidr
    have HH : Hid (hasL M name = true) := hh
    have hpl := HO.out.2 hh
    have qp := qpl.out hh
    obtain ⟨bb, off, cc, x, ha3, hb, hx, hrx, hcell⟩ := reads_elem HO.out.1.reads (placeN nd Id) hpl
    subst ha3
    obtain ⟨p1, m1, k1, p2, m2, k2, rfl, rb, _⟩ := open_Node hrx
    have HB : Hid (∀ w', Below w.heap.size w w' → Calls Try.prog 24 #[.slice p1 m1 k1] w' fun e w'' => ∃ v' F, e = .returned v' ∧ Own (.sl .u8) w'' w'.heap.size [v'] x.2.1 F ∧ F.Nodup ∧ Below w'.heap.size w' w'') :=
      fun w' h' => clone_v _ x.2.1 w' (rb.later h') (by have := HSZ.out _ x hx; omega)
    obtain ⟨P, hP⟩ : ∃ P, P = placeN nd Id := ⟨_, rfl⟩
    have HP : Hid (P = placeN nd Id) := hP
    rw [← hP] at hpl qp hcell hx
    have HX : Hid (shNode.at nd P = some x) := hx
    have QP : Hid (∀ w', Below w.heap.size w w' → Calls Try.prog 25 #[.slice (some ⟨bb, off, none⟩) n3 c3, .int .i64 Id] w' fun e w'' => e = .returned (.int .i64 P) ∧ Below w'.heap.size w' w'') := qp
    have hplI : (P : Int) < (n3 : Int) := by omega
    have g1 : w2.cell? ⟨bb, off + P * 3 + 1, none⟩ = some (.slice p1 m1 k1) := (b2.cell (p := ⟨bb, off + (P * 3 + 1), none⟩) hb).trans (hcell 1 (by decide))
    have i2 := BX.out w2 d2
    have y3 := box_cell (j := 3) i2 rfl
    have zlt : w.heap.size < w2.heap.size := by have := d2.size; omega
    have zbb : bb < w2.heap.size := by have := b2.size; omega
    have hbb : Below w2.heap.size w2 w2 := Below.refl _ _
    clear hcell hrx hx rb qp hP i2 hh qpl
    go_region_held (fun w' => w'.cell? ⟨w.heap.size, 3, none⟩ = some (.slice (some ⟨bb, off, none⟩) n3 c3) ∧ w'.cell? ⟨bb, off + P * 3 + 1, none⟩ = some (.slice p1 m1 k1))
      (first | go_keep | (refine ⟨?_, ?_⟩ <;> first | (refine (hb7.cell ?_).trans ?_; (have h6 := hb6.size; simp at h6 ⊢; omega); assumption) | (refine (hb6.cell ?_).trans ?_; (simp; omega); assumption)))
      (first | ((go_at_call 25; refine (QP.out _ (b2.drew)).mono ?_; rintro e w6 ⟨rfl, hb6⟩; have za : w6.cell? ⟨w.heap.size, 3, none⟩ = some (.slice (some ⟨bb, off, none⟩) n3 c3) := (hb6.cell (p := ⟨w.heap.size, 3, none⟩) (by simp; omega)).trans y3; have zb : w6.cell? ⟨bb, off + P * 3 + 1, none⟩ = some (.slice p1 m1 k1) := (hb6.cell (p := ⟨bb, off + P * 3 + 1, none⟩) (by simp; omega)).trans g1)) | ((go_at_call 24; refine (HB.out _ (b2.drew.trans (hb6.mono (by simp; omega)))).mono ?_; rintro e w7 ⟨v7, F7, rfl, p7, nd7, hb7⟩)))
    have hb27 : Below w2.heap.size w2 w7 := hbb.drew.trans ((hb6.trans (hb7.mono hb6.size)).mono hbb.drew.size)
    have b7 := b2.trans (hb27.mono b2.size)
    have hb6s : w.heap.size ≤ w6.heap.size := by have h1 := hb6.size; have h2 := b2.size; simp at h1; omega
    have p8 := p7.base hb6s
    clear hb6 hb7 y3 g1 za zb
    go_wp2
    go_ret2
    exact ⟨b7, .inr ⟨v7, F7, x, HH.out, by rw [← HP.out]; exact HX.out, rfl, p8, nd7⟩⟩

end Go.Proofs.Ytmhlligmehbehaa
