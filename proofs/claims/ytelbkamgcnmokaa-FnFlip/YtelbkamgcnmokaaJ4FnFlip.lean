/-
  Joined: CpE, LastS, LastI, FrS, RfC, RfIP, GetI, NeedI, RiN, RiF3, RiF4, RiF5, RiL, CatchI.
-/
import Derived.Test.YtelbkamgcnmokaaJ1FnFlip
import Derived.Test.YtelbkamgcnmokaaShelf
import Derived.Deep.RegionHeld3
import Derived.Test.YtelbkamgcnmokaaJ0FnFlip
import Derived.Test.YtelbkamgcnmokaaJ2FnFlip
import Derived.Handy
import Derived.Defers
import Derived.Recover
import Derived.Laws.Pointers
/- CpE: copyEntries of the program: all of it in memory of its own. By program (lastgen.py). -/
namespace Go.Proofs.Ytelbkamgcnmokaa
open Go.RowKit
set_option linter.unusedVariables false
set_option linter.unusedSimpArgs false

set_option maxHeartbeats 400000 in
theorem cloneT_any (s : ByteArray) (w : World) (h : s.size ≤ 1048576) :
    Calls Try.prog 33 #[.string s] w fun e w' => e = .returned (.string s) ∧ Below w.heap.size w w' := by
  go_enter Try.func33, Try.ntmps33
  go_wp2_with fail
  refine (Try.stringslite_Clone s _ (by omega)).mono ?_
  rintro e w' ⟨rfl, hb⟩
  go_wp2
  go_ret
  exact ⟨rfl, hb⟩

set_option maxRecDepth 100000 in
set_option maxHeartbeats 4000000 in
theorem copyEnts_any (a : Option Addr) (n c : Nat) (d : List EntD) (w : World) (hr : Reads (.sl shEntry) w [.slice a n c] d) (hn : n ≤ 1048576) (hs : ∀ x ∈ d, ByteArray.size x.2.1 ≤ 1048576) :
    Calls Try.prog 23 #[.slice a n c] w fun e w' => ∃ v, e = .returned v ∧ w'.ownsRow w.heap.size 28 2 v n (cellsE d) ∧ Below w.heap.size w w' := by
  obtain ⟨i0, hi, hz0, hz1, hz2⟩ := info_parts infoEntry
  obtain ⟨hl, hc1, hc2⟩ := reads_len hr
  unfold maxLen at hc2
  have HR : Hid (Reads (.sl shEntry) w [.slice a n c] d) := hr
  have HL : Hid (List.length (α := EntD) d = n) := hl
  have HS : Hid (∀ x ∈ d, ByteArray.size x.2.1 ≤ 1048576) := hs
  clear hr hl hs
  go_enter Try.func23, Try.ntmps23
  go_wp2
  go_loopw [3, 8] (fun v i wr => ∃ (k : Nat) (vv : Value), k ≤ n ∧ i = .int .i64 k ∧ vv = v ∧ wr.ownsRow w.heap.size 28 2 vv k (cellsE (d.take k)) ∧ Below w.heap.size w wr) (fun _ i _ => n - (intOf i).toNat)
  case atStart => exact ⟨0, _, Nat.zero_le _, rfl, rfl, ⟨rfl, .inl ⟨rfl, rfl⟩⟩, Below.refl _ _⟩
  case round =>
    obtain ⟨k, v, hk, rfl, rfl, hown, hbel⟩ := hrel
    by_cases hlt : k < n
    · obtain ⟨b, off, cc, x, rfl, hb, hx, hrx, hcell⟩ := reads_elem HR.out k hlt
      obtain ⟨rfl, ls⟩ := open_Entry hrx
      obtain ⟨y0, ey0⟩ : ∃ y : Int, y = x.1 := ⟨_, rfl⟩
      obtain ⟨y1, ey1⟩ : ∃ y : ByteArray, y = x.2.1 := ⟨_, rfl⟩
      have hsz : y1.size ≤ 1048576 := by rw [ey1]; exact HS.out x (List.mem_of_getElem? hx)
      have HX : Hid (cellsE (d.take (k + 1)) = cellsE (d.take k) ++ [.int .i64 y0, .string y1]) := by
        rw [ey0, ey1]; exact take_cellsE d k x hx
      have g0 : wr.cell? ⟨b, off + k * 2, none⟩ = some (.int .i64 y0) := by rw [ey0]; exact (hbel.cell (p := ⟨b, off + (k * 2 + 0), none⟩) hb).trans (hcell 0 (by decide))
      have g1 : wr.cell? ⟨b, off + k * 2 + 1, none⟩ = some (.string y1) := by rw [ey1]; exact (hbel.cell (p := ⟨b, off + (k * 2 + 1), none⟩) hb).trans (hcell 1 (by decide))
      have qK : Hid (∀ w', Calls Try.prog 33 #[.string y1] w' fun e w'' => e = .returned (.string y1) ∧ Below w'.heap.size w' w'') := fun w' => cloneT_any y1 w' hsz
      have hbs := hbel.size
      obtain ⟨W0, hW0⟩ : ∃ W0, W0 = wr.alloc (.cells #[.int .i64 y0, .string y1] 28) := ⟨_, rfl⟩
      have bw0 : Below wr.heap.size wr W0 := by rw [hW0]; exact (Below.refl _ _).alloc (Nat.le_refl _) _
      have bW0 : Below w.heap.size w W0 := hbel.trans (bw0.mono hbs)
      have hbox : W0.heap[wr.heap.size]? = some (.cells #[.int .i64 y0, .string y1] 28 (0, 0)) := by rw [hW0]; exact heap_alloc_new wr _
      have zlt0 : wr.heap.size < W0.heap.size := by rw [hW0]; simp
      have BX : Hid (∀ w', Below W0.heap.size W0 w' → w'.cell? ⟨wr.heap.size, 0, none⟩ = some (.int .i64 y0) ∧ w'.cell? ⟨wr.heap.size, 1, none⟩ = some (.string y1)) := fun w' h' => by
        have i := (h'.block _ zlt0).trans hbox
        exact ⟨box_cell i rfl, box_cell i rfl⟩
      have HW0 : Hid (W0 = wr.alloc (.cells #[.int .i64 y0, .string y1] 28)) := hW0
      have bD0 : Below W0.heap.size W0 W0.drew := (Below.refl _ _).drew
      obtain ⟨v0, v1⟩ := BX.out W0 (Below.refl _ _)
      have HV : Hid (∀ y, v.ownBlock = some y → y < wr.heap.size) := fun y hy => (hown.lt y hy).2
      have BX3 : Hid (∀ w' : World, w'.heap[wr.heap.size]? = W0.heap[wr.heap.size]? → w'.cell? ⟨wr.heap.size, 0, none⟩ = some (.int .i64 y0) ∧ w'.cell? ⟨wr.heap.size, 1, none⟩ = some (.string y1)) := fun w' h' => by
        have i := h'.trans hbox
        exact ⟨box_cell i rfl, box_cell i rfl⟩
      have HO : Hid (∀ w', Below W0.heap.size W0 w' → w'.ownsRow w.heap.size 28 2 v k (cellsE (d.take k))) := fun w' h' => own_later hown (bw0.trans (h'.mono bw0.size))
      clear hcell hrx hx ey0 ey1 hW0 hbox hown
      go_wp2_with fail
      rw [← HW0.out]
      refine wp_region_held_drew (S := fun w' => w'.cell? ⟨wr.heap.size, 0, none⟩ = some (.int .i64 y0) ∧ w'.cell? ⟨wr.heap.size, 1, none⟩ = some (.string y1)) (by kernel_rfl) ⟨v0, v1⟩ (fun hHeld => ?_)
      refine wpAnyH_take (i := 0) (v := v) rfl (by kernel_rfl) (by kernel_rfl) (by kernel_rfl) (fun _ _ _ h => h) (Or.inl ⟨by kernel_rfl, ?_⟩) (by assumption) ?_
      · intro w9 hSw; (try dsimp only at hSw); go_simp
      simp only [Act.put, List.getElem_toArray, List.getElem_cons_succ, List.getElem_cons_zero, List.setIfInBounds_toArray, List.set_cons_zero, List.set_cons_succ]
      refine wpAnyH_take (i := 1) (v := .pointer (some ⟨wr.heap.size, 0, none⟩)) rfl (by kernel_rfl) (by kernel_rfl) (by kernel_rfl) (fun _ _ _ h => h) (Or.inl ⟨by kernel_rfl, ?_⟩) (by assumption) ?_
      · intro w9 hSw; (try dsimp only at hSw); go_simp
      simp only [Act.put, List.getElem_toArray, List.getElem_cons_succ, List.getElem_cons_zero, List.setIfInBounds_toArray, List.set_cons_zero, List.set_cons_succ]
      refine wpAnyH_take (i := 2) (v := .int .i64 y0) rfl (by kernel_rfl) (by kernel_rfl) (by kernel_rfl) (fun _ _ _ h => h) (Or.inl ⟨by kernel_rfl, ?_⟩) (by assumption) ?_
      · intro w9 hSw; (try dsimp only at hSw); go_simp
      simp only [Act.put, List.getElem_toArray, List.getElem_cons_succ, List.getElem_cons_zero, List.setIfInBounds_toArray, List.set_cons_zero, List.set_cons_succ]
      refine wpAnyH_take (i := 3) (v := .pointer (some ⟨wr.heap.size, 1, none⟩)) rfl (by kernel_rfl) (by kernel_rfl) (by kernel_rfl) (fun _ _ _ h => h) (Or.inl ⟨by kernel_rfl, ?_⟩) (by assumption) ?_
      · intro w9 hSw; (try dsimp only at hSw); go_simp
      simp only [Act.put, List.getElem_toArray, List.getElem_cons_succ, List.getElem_cons_zero, List.setIfInBounds_toArray, List.set_cons_zero, List.set_cons_succ]
      refine wpAnyH_take (i := 4) (v := .string y1) rfl (by kernel_rfl) (by kernel_rfl) (by kernel_rfl) (fun _ _ _ h => h) (Or.inl ⟨by kernel_rfl, ?_⟩) (by assumption) ?_
      · intro w9 hSw; (try dsimp only at hSw); go_simp
      simp only [Act.put, List.getElem_toArray, List.getElem_cons_succ, List.getElem_cons_zero, List.setIfInBounds_toArray, List.set_cons_zero, List.set_cons_succ]
      refine wpAnyH_ready (rs := [5]) (by kernel_rfl) (by simp) ?_
      refine AllReadyH.cons rfl (fun K hK => ?_) AllReadyH.nil
      go_simp
      refine (qK.out _).mono ?_
      rintro e w1 ⟨rfl, hb1⟩
      have d1 : Below W0.heap.size W0 w1 := bD0.trans (hb1.mono bD0.size)
      clear hb1
      go_wp2_with fail
      refine hK.out _ _ (BX.out w1 d1) (fun hHeld5 => ?_)
      clear hK
      refine wpAnyH_take (i := 6) (v := .agg #[.int .i64 y0, .string y1]) rfl (by kernel_rfl) (by kernel_rfl) (by kernel_rfl) (fun _ _ _ h => h) (Or.inl ⟨by kernel_rfl, ?_⟩) (by assumption) ?_
      · intro w9 hSw; (try dsimp only at hSw); go_simp
      simp only [Act.put, List.getElem_toArray, List.getElem_cons_succ, List.getElem_cons_zero, List.setIfInBounds_toArray, List.set_cons_zero, List.set_cons_succ]
      refine wpAnyH_ready (rs := [7]) (by kernel_rfl) (by simp) ?_
      refine AllReadyH.cons rfl (fun K hK => ?_) AllReadyH.nil
      go_simp
      have dA : Below W0.heap.size W0 (w1.alloc (.cells #[.int .i64 y0, .string y1] 28)) := d1.alloc d1.size _
      refine hK.out _ _ (BX.out _ dA) (fun hHeld7 => ?_)
      clear hK
      refine wpAnyH_ready (rs := [8]) (by kernel_rfl) (by simp) ?_
      refine AllReadyH.cons rfl (fun K hK => ?_) AllReadyH.nil
      refine step_append_src (by rfl) _ _ 23 (by rfl) w.heap.size 28 i0 (.agg #[.int .i64 0, .string ByteArray.empty]) 2 24 Try.underlying23 hi hz0 hz1 hz2 rfl (by decide) v k (cellsE (d.take k)) (by rfl) (HO.out _ dA) (.slice (some ⟨w1.heap.size, 0, none⟩) 1 1) 1 [.int .i64 y0, .string y1] (by rfl) rfl (.inr ⟨_, 1, rfl, cells_new w1 [.int .i64 y0, .string y1] 28⟩) (by intro u hu; simp at hu; rcases hu with rfl | rfl <;> rfl) (by unfold maxLen; omega) (by omega) (bW0.trans (dA.mono bW0.size)).size ?_
      intro v3 w3 o3 gr3
      have bA := bW0.trans (dA.mono bW0.size)
      have b3 : Below w.heap.size w w3 := bA.grown gr3 bA.size (fun y h => ((HO.out _ dA).lt y h).1)
      have hlo : ∀ y, v.ownBlock = some y → y < wr.heap.size := HV.out
      have i3 : w3.heap[wr.heap.size]? = W0.heap[wr.heap.size]? := (gr3.block _ (by have := dA.size; omega) (fun e => by have := hlo _ e.symm; omega)).trans (dA.block _ zlt0)
      simp only [Act.put, List.setIfInBounds_toArray, List.set_cons_zero, List.set_cons_succ]
      refine hK.out _ _ (BX3.out _ i3) (fun hHeld8 => ?_)
      clear hK
      refine wpAnyH_take (i := 9) (v := v3) rfl (by kernel_rfl) (by kernel_rfl) (by kernel_rfl) (fun _ _ _ h => h) (Or.inl ⟨by kernel_rfl, ?_⟩) (by assumption) ?_
      · intro w9 hSw; (try dsimp only at hSw); go_simp
      simp only [Act.put, List.getElem_toArray, List.getElem_cons_succ, List.getElem_cons_zero, List.setIfInBounds_toArray, List.set_cons_zero, List.set_cons_succ]
      refine wpAnyH_done (by kernel_rfl) ?_ _
      rw [← HX.out] at o3
      clear gr3 i3
      go_wp2
      go_roundw
      case rel => exact ⟨k + 1, _, by omega, by go_num, rfl, o3, b3⟩
      case measure => simp [intOf]; omega
    · have e : k = n := by omega
      subst e
      have ho : wr.ownsRow w.heap.size 28 2 v k (cellsE d) := by
        have h9 := hown
        rwa [List.take_of_length_le (Nat.le_of_eq HL.out)] at h9
      clear hown
      go_wp2
      go_ret
      exact ⟨_, rfl, ho, hbel⟩

end Go.Proofs.Ytelbkamgcnmokaa

/- LastS: LastOf of the model. By program (lastgen.py). -/
namespace Go.Proofs.Ytelbkamgcnmokaa
open Go.RowKit
set_option linter.unusedVariables false

/-- How many LastOf takes of n. -/
def lastN (n : Nat) (N : Int) : Nat := if N < 1 then 0 else if (n : Int) < N then n else N.toNat

def lastL (d : List EntD) (N : Int) : List EntD := d.drop (d.length - lastN d.length N)

theorem lastN_le (n : Nat) (N : Int) : lastN n N ≤ n := by unfold lastN; split <;> (try split) <;> omega

theorem lastL_len (d : List EntD) (N : Int) : (lastL d N).length = lastN d.length N := by
  unfold lastL; rw [List.length_drop]; have := lastN_le d.length N; omega

theorem lastL_mem (d : List EntD) (N : Int) (x : EntD) (h : x ∈ lastL d N) : x ∈ d := List.mem_of_mem_drop h

end Go.Proofs.Ytelbkamgcnmokaa

/- LastI: LastOf of the program. By program (lastgen.py). -/
namespace Go.Proofs.Ytelbkamgcnmokaa
open Go.RowKit
set_option linter.unusedVariables false

set_option maxRecDepth 100000 in
set_option maxHeartbeats 2000000 in
theorem implLast_nil (N : Int) (w : World) :
    Calls Try.prog 13 #[.slice none 0 0, .int .i64 N] w fun e w' => ∃ v, e = .returned v ∧ w'.ownsRow w.heap.size 28 2 v 0 [] ∧ Below w.heap.size w w' := by
  have qK : Hid (∀ ad c', c' ≤ maxLen → Calls Try.prog 23 #[.slice ad 0 c'] w fun e w' => ∃ v, e = .returned v ∧ w'.ownsRow w.heap.size 28 2 v 0 [] ∧ Below w.heap.size w w') := fun ad c' h => copyEnts_any ad 0 c' [] w (reads_none w ad c' h) (by omega) (fun x hx => by cases hx)
  by_cases h0 : N < 0
  · go_enter Try.func13, Try.ntmps13
    go_wp2_with fail
    all_goals (refine (qK.out _ _ (Nat.zero_le _)).mono ?_; rintro e w1 ⟨v1, rfl, o1, b1⟩; go_wp2; go_ret; exact ⟨_, rfl, o1, b1⟩)
  · by_cases h1 : N = 0
    · subst h1
      go_enter Try.func13, Try.ntmps13
      go_wp2_with fail
      all_goals (refine (qK.out _ _ (Nat.zero_le _)).mono ?_; rintro e w1 ⟨v1, rfl, o1, b1⟩; go_wp2; go_ret; exact ⟨_, rfl, o1, b1⟩)
    · have h2 : 0 < N := by omega
      go_enter Try.func13, Try.ntmps13
      go_wp2_with fail
      all_goals (refine (qK.out _ _ (Nat.zero_le _)).mono ?_; rintro e w1 ⟨v1, rfl, o1, b1⟩; go_wp2; go_ret; exact ⟨_, rfl, o1, b1⟩)

set_option maxRecDepth 100000 in
set_option maxHeartbeats 2000000 in
theorem implLast_some (b off n c K m : Nat) (N : Int) (d : List EntD) (w : World) (hr : Reads (.sl shEntry) w [.slice (some ⟨b, off, none⟩) n c] d) (hn : n ≤ 1048576) (hs : ∀ x ∈ d, ByteArray.size x.2.1 ≤ 1048576)
    (hm : m = lastN n N) (hK : K + m = n) :
    Calls Try.prog 13 #[.slice (some ⟨b, off, none⟩) n c, .int .i64 N] w fun e w' => ∃ v, e = .returned v ∧ w'.ownsRow w.heap.size 28 2 v m (cellsE (d.drop K)) ∧ Below w.heap.size w w' := by
  obtain ⟨hl, hc1, hc2⟩ := reads_len hr
  have hcm := hc2
  unfold maxLen at hc2
  have hl' : List.length (α := EntD) d = n := hl
  obtain ⟨L, hL⟩ : ∃ L, L = d.drop K := ⟨_, rfl⟩
  have hLl : L.length = m := by rw [hL, List.length_drop, hl']; omega
  have qK : Hid (∀ ad c', Reads (.sl shEntry) w [.slice ad m c'] L → Calls Try.prog 23 #[.slice ad m c'] w fun e w' => ∃ v, e = .returned v ∧ w'.ownsRow w.heap.size 28 2 v m (cellsE L) ∧ Below w.heap.size w w') := fun ad c' h => copyEnts_any ad m c' L w h (by omega) (fun x hx => hs x (List.mem_of_mem_drop (hL ▸ hx)))
  rw [← hL]
  have R1 : Hid (Reads (.sl shEntry) w [.slice (some ⟨b, off + K * 2, none⟩) m (c - K)] L) := by
    have := reads_drop hr K (by omega)
    rw [hL]
    rw [show n - K = m by omega] at this
    exact this
  have R0 : Hid (m = 0 → ∀ ad' c', c' ≤ maxLen → Reads (.sl shEntry) w [.slice ad' m c'] L) := fun h ad' c' hc' => by
    rw [show L = [] from List.eq_nil_of_length_eq_zero (hLl.trans h), h]; exact reads_none w _ _ hc'
  clear hr hl hl' hL hLl hs
  have hMM : min (max N 0) (n : Int) = (m : Int) := by
    rw [hm]; unfold lastN
    split
    · omega
    · split <;> omega
  have hmK : (n : Int) - (m : Int) = (K : Int) := by omega
  have hnm : n - K = m := by omega
  clear hm
  by_cases hcK : c = K
  · have R2 : Hid (Reads (.sl shEntry) w [.slice (some ⟨b, off, none⟩) m 0] L) := R0.out (by omega) _ _ (Nat.zero_le _)
    clear R0 R1
    go_enter Try.func13, Try.ntmps13
    go_wp2_with fail
    refine (qK.out _ _ R2.out).mono ?_
    rintro e w1 ⟨v1, rfl, o1, b1⟩
    go_wp2
    go_ret
    exact ⟨_, rfl, o1, b1⟩
  · clear R0
    go_enter Try.func13, Try.ntmps13
    go_wp2_with fail
    refine (qK.out _ _ R1.out).mono ?_
    rintro e w1 ⟨v1, rfl, o1, b1⟩
    go_wp2
    go_ret
    exact ⟨_, rfl, o1, b1⟩

end Go.Proofs.Ytelbkamgcnmokaa

/- FrS: FrameBytes of the model. By program (frgen.py). -/
namespace Go.Proofs.Ytelbkamgcnmokaa
open Go.RowKit
set_option linter.unusedVariables false
set_option linter.unusedSimpArgs false


end Go.Proofs.Ytelbkamgcnmokaa

/- RfC: FrameRead of the model. By program (rfgen.py). -/
namespace Go.Proofs.Ytelbkamgcnmokaa
open Go.RowKit
set_option linter.unusedVariables false
set_option linter.unusedSimpArgs false

/-- A part of a slice of bytes as a string. -/
theorem cut_conv (b off n cap : Nat) (zs : List Int) (q m : Nat) (w : World) (hc : ∀ i, i < n → w.cell? ⟨b, off + i, none⟩ = some (.int .u8 (zs[i]?.getD 0))) (h : q + m ≤ n) (hl : zs.length = n) :
    (convert 22 9 (.slice (some ⟨b, off + q, none⟩) m cap)).run Try.prog w = .ok (.string (strOfNums (cutL zs q m))) w := by
  refine run_convert_bytes_arg (P := Try.prog) w 22 5 Try.underlying22 Try.underlying5 b (off + q) m cap (cutL zs q m) (cutL_len _ _ _ (by omega)) ?_ 9 Try.underlying9
  intro i hi
  have h1 := hc (q + i) (by omega)
  have e : off + q + i = off + (q + i) := by omega
  rw [e, h1]
  have e2 := cutL_at zs q m i hi
  have hlt : i < (cutL zs q m).length := by rw [cutL_len _ _ _ (by omega)]; exact hi
  rw [List.getElem?_eq_getElem hlt] at e2
  rw [← e2, List.getD_eq_getElem?_getD, List.getElem?_eq_getElem hlt]

end Go.Proofs.Ytelbkamgcnmokaa

/- RfIP: Numbers of a part of some bytes (plain facts for the program's reading). -/
namespace Go.Proofs.Ytelbkamgcnmokaa
open Go.RowKit
set_option linter.unusedVariables false

theorem gnum_cut (zs : List Int) (P m q : Nat) : ∀ k, q + k ≤ m → gnum (cutL zs P m) q k = gnum zs (P + q) k
  | 0, _ => rfl
  | k + 1, h => by
    show gnum (cutL zs P m) q k * 256 + (cutL zs P m)[q + k]?.getD 0 = gnum zs (P + q) k * 256 + zs[P + q + k]?.getD 0
    rw [gnum_cut zs P m q k (by omega), cutL_at zs P m (q + k) (by omega), Nat.add_assoc]

theorem rd_cut {w : World} {b off n : Nat} {zs : List Int} (hb : b < w.heap.size) (hz : Byt zs) (hl : zs.length = n) (hc : ∀ i, i < n → w.cell? ⟨b, off + i, none⟩ = some (.int .u8 (zs[i]?.getD 0))) (q m : Nat) (h : q + m ≤ n) : Rd w (some ⟨b, off + q, none⟩) (cutL zs q m) := by
  refine ⟨byt_cutL zs hz _ _, .inr ⟨b, off + q, rfl, hb, fun i hi => ?_⟩⟩
  rw [cutL_len _ _ _ (by omega)] at hi
  rw [cutL_at zs q m i hi, Nat.add_assoc]
  exact hc (q + i) (by omega)

theorem src_cut {w : World} {b off n : Nat} {zs : List Int} (hl : zs.length = n) (hc : ∀ i, i < n → w.cell? ⟨b, off + i, none⟩ = some (.int .u8 (zs[i]?.getD 0))) (q m c : Nat) (h : q + m ≤ n) : Src w (.slice (some ⟨b, off + q, none⟩) m c) m ((cutL zs q m).map (Value.int .u8)) := by
  refine .inr ⟨_, c, rfl, fun j u hu => ?_⟩
  have hj : j < m := by
    have := (List.getElem?_eq_some_iff.1 hu).1
    rwa [List.length_map, cutL_len _ _ _ (by omega)] at this
  have e : (⟨b, off + q, none⟩ : Addr).add j = ⟨b, off + (q + j), none⟩ := by cases j <;> simp [Addr.add, Nat.add_assoc]
  rw [e, hc (q + j) (by omega), ← hu, List.getElem?_map, cutL_at zs q m j hj, get_some zs (q + j) (by omega)]
  rfl

end Go.Proofs.Ytelbkamgcnmokaa

/- GetI: The program's GetNum. -/
namespace Go.Proofs.Ytelbkamgcnmokaa
open Go.RowKit
set_option linter.unusedVariables false

set_option maxHeartbeats 400000 in
theorem implGet_no (a : Option Addr) (n cap : Nat) (p s : Int) (w : World) (hn : n ≤ 2097152) (hp : -9223372036854775808 ≤ p ∧ p ≤ 9223372036854775807) (hs : -9223372036854775808 ≤ s ∧ s ≤ 9223372036854775807) (h : ¬ gok n p s) :
    Calls Try.prog 26 #[.slice a n cap, .int .i64 p, .int .i64 s] w fun e w' => e = .returned (.tuple #[.int .i64 0, .bool false]) ∧ w' = w := by
  unfold gok at h
  by_cases h1 : s < 1
  · go_enter Try.func26, Try.ntmps26
    go_wp2
    go_ret2
    exact ⟨rfl, rfl⟩
  by_cases h2 : 4 < s
  · go_enter Try.func26, Try.ntmps26
    go_wp2
    go_ret2
    exact ⟨rfl, rfl⟩
  by_cases h3 : p < 0
  · go_enter Try.func26, Try.ntmps26
    go_wp2
    go_ret2
    exact ⟨rfl, rfl⟩
  have h4 : (n : Int) - s < p := by omega
  clear h
  go_enter Try.func26, Try.ntmps26
  go_wp2
  go_ret2
  exact ⟨rfl, rfl⟩

set_option maxHeartbeats 400000 in
theorem implGet_yes (a : Option Addr) (n cap : Nat) (zs : List Int) (p s : Nat) (w : World) (hl : Hid (zs.length = n)) (hr : Rd w a zs) (hn : n ≤ 2097152) (hs1 : 1 ≤ s) (hs4 : s ≤ 4) (hps : p + s ≤ n) :
    Calls Try.prog 26 #[.slice a n cap, .int .i64 p, .int .i64 s] w fun e w' => e = .returned (.tuple #[.int .i64 (gnum zs p s), .bool true]) ∧ w' = w := by
  have hne : zs ≠ [] := by intro h; have := hl.out; subst h; simp at this; omega
  obtain ⟨b, off, rfl, hb, hc⟩ := hr.2.resolve_left hne
  have hz := hr.1
  clear hr hne
  go_enter Try.func26, Try.ntmps26
  go_wp2
  go_loop [8, 26] (fun m i => ∃ k : Nat, k ≤ s ∧ m = .int .i64 (gnum zs p k) ∧ i = .int .i64 k) (fun _ i => s - (intOf i).toNat)
  case atStart => exact ⟨0, Nat.zero_le _, rfl, rfl⟩
  case round =>
    obtain ⟨k, hk, rfl, rfl⟩ := hrel
    by_cases hlt : k < s
    · have hce : w.cell? ⟨b, off + (p + k), none⟩ = some (.int .u8 (zs[p + k]?.getD 0)) := hc (p + k) (by have := hl.out; omega)
      have hg := gnum_lt zs hz p k (by omega)
      have hzk := hz (p + k)
      clear hc hz
      go_wp2
      go_round
      case rel => exact ⟨k + 1, by omega, by rw [i64_or_byte _ _ hg.1 hg.2 hzk.1 hzk.2]; rfl, by go_num⟩
      case measure => simp [intOf]; omega
    · have e : k = s := by omega
      subst e
      go_wp2
      go_ret2
      exact ⟨rfl, rfl⟩

end Go.Proofs.Ytelbkamgcnmokaa

/- NeedI: need of the program: it gives up with its fault, or returns. -/
namespace Go.Proofs.Ytelbkamgcnmokaa
open Go.RowKit
set_option linter.unusedVariables false

theorem need_yes (k : Int) (w : World) :
    Calls Try.prog 25 #[.bool true, .int .i64 k] w fun e w' => e = .returned (.tuple #[]) ∧ w' = w := by
  go_enter Try.func25, Try.ntmps25
  go_wp2
  go_returns
  exact ⟨rfl, rfl⟩

theorem need_no (k : Int) (w : World) :
    Calls Try.prog 25 #[.bool false, .int .i64 k] w fun e w' => e = .panicked [{ v := .iface 43 (.int .i64 k), recovered := false }] ∧ w' = w := by
  go_enter Try.func25, Try.ntmps25
  go_wp2
  exact ⟨rfl, rfl, rfl⟩

end Go.Proofs.Ytelbkamgcnmokaa

/- RiN: readFrame of the program: the codes 1 and 2. By program (rigen.py). -/
namespace Go.Proofs.Ytelbkamgcnmokaa
open Go.RowKit
set_option linter.unusedVariables false
set_option linter.unusedSimpArgs false

set_option maxRecDepth 100000 in
set_option maxHeartbeats 4000000 in
theorem readRf_near (a : Option Addr) (n c : Nat) (p : Int) (w : World) (hn : n ≤ 1048576) (hp1 : -9223372036854775808 ≤ p) (hp2 : p ≤ 9223372036854775807) (k : Int)
    (h : (p < 0 ∧ k = 1) ∨ (¬ p < 0 ∧ (n : Int) < p ∧ k = 1) ∨ (¬ p < 0 ∧ ¬ (n : Int) < p ∧ (n : Int) - p < 10 ∧ k = 2)) :
    Calls Try.prog 18 #[.slice a n c, .int .i64 p] w fun e w' => e = .panicked [{ v := .iface 43 (.int .i64 k), recovered := false }] ∧ Below w.heap.size w w' := by
  have bW0 : Below w.heap.size w (w.alloc (.cells #[.int .i64 0, .string ⟨#[]⟩] 28)) := (Below.refl _ _).alloc (Nat.le_refl _) _
  rcases h with ⟨h1, rfl⟩ | ⟨h1, h2, rfl⟩ | ⟨h1, h2, h3, rfl⟩
  · have e1 : decide ((0 : Int) ≤ p) = false := by simp; omega
    have e2 : ¬ (0 : Int) ≤ p := by omega
    go_enter Try.func18, Try.ntmps18
    go_wp2_with fail
    refine (need_no 1 _).mono ?_
    rintro e w9 ⟨rfl, rfl⟩
    go_wp2_with fail
    exact ⟨rfl, rfl, bW0⟩
  · have e1 : (0 : Int) ≤ p := by omega
    have e2 : decide (p ≤ (n : Int)) = false := by simp; omega
    have e3 : ¬ p ≤ (n : Int) := by omega
    go_enter Try.func18, Try.ntmps18
    go_wp2_with fail
    refine (need_no 1 _).mono ?_
    rintro e w9 ⟨rfl, rfl⟩
    go_wp2_with fail
    exact ⟨rfl, rfl, bW0⟩
  · have e1 : (0 : Int) ≤ p := by omega
    have e2 : p ≤ (n : Int) := by omega
    have e3 : ¬ (10 : Int) ≤ (n : Int) - p := by omega
    have e4 : decide ((10 : Int) ≤ (n : Int) - p) = false := by simp; omega
    go_enter Try.func18, Try.ntmps18
    go_wp2_with fail
    refine (need_yes 1 _).mono ?_
    rintro e w9 ⟨rfl, rfl⟩
    go_wp2_with fail
    refine (need_no 2 _).mono ?_
    rintro e w9 ⟨rfl, rfl⟩
    go_wp2_with fail
    exact ⟨rfl, rfl, bW0⟩

end Go.Proofs.Ytelbkamgcnmokaa

/- RiF3: readFrame of the program: the code 3. By program (rigen.py). -/
namespace Go.Proofs.Ytelbkamgcnmokaa
open Go.RowKit
set_option linter.unusedVariables false
set_option linter.unusedSimpArgs false

set_option maxRecDepth 100000 in
set_option maxHeartbeats 1500000 in
theorem readRf_3 (b off n c : Nat) (zs : List Int) (P s : Nat) (num : Int) (w : World) (hl : zs.length = n) (hb : b < w.heap.size) (hc : ∀ i, i < n → w.cell? ⟨b, off + i, none⟩ = some (.int .u8 (zs[i]?.getD 0))) (hz : Byt zs)
    (hcn : n ≤ c) (hcm : c ≤ maxLen) (hn : n ≤ 1048576) (hP : P + 10 ≤ n) (hs : gnum zs P 2 = (s : Int)) (hnum : gnum zs (P + 2) 4 = num) (h3 : s = 0 ∨ 1000 < s) :
    Calls Try.prog 18 #[.slice (some ⟨b, off, none⟩) n c, .int .i64 (P : Int)] w fun e w' => e = .panicked [{ v := .iface 43 (.int .i64 3), recovered := false }] ∧ Below w.heap.size w w' := by
  unfold maxLen at hcm
  have HC : Hid (∀ w', Below w.heap.size w w' → ∀ i, i < n → w'.cell? ⟨b, off + i, none⟩ = some (.int .u8 (zs[i]?.getD 0))) := fun w' hb' i hi => (hb'.cell (p := ⟨b, off + i, none⟩) hb).trans (hc i hi)
  have HH : Hid (∀ w', Below w.heap.size w w' → Rd w' (some ⟨b, off + P, none⟩) (cutL zs P 10)) := fun w' hb' => rd_cut (Nat.lt_of_lt_of_le hb hb'.size) hz hl (HC.out w' hb') P 10 (by omega)
  have hl10 : (cutL zs P 10).length = 10 := cutL_len _ _ _ (by omega)
  have g1 : Hid (∀ w' cp, Below w.heap.size w w' → Calls Try.prog 26 #[.slice (some ⟨b, off + P, none⟩) 10 cp, .int .i64 0, .int .i64 2] w' fun e w'' => e = .returned (.tuple #[.int .i64 (s : Int), .bool true]) ∧ w'' = w') := fun w' cp hb' => by
    rw [← hs, show gnum zs P 2 = gnum (cutL zs P 10) 0 2 from (gnum_cut zs P 10 0 2 (by omega)).symm]; exact implGet_yes _ 10 cp _ 0 2 w' hl10 (HH.out w' hb') (by omega) (by omega) (by omega) (by omega)
  have g2 : Hid (∀ w' cp, Below w.heap.size w w' → Calls Try.prog 26 #[.slice (some ⟨b, off + P, none⟩) 10 cp, .int .i64 2, .int .i64 4] w' fun e w'' => e = .returned (.tuple #[.int .i64 num, .bool true]) ∧ w'' = w') := fun w' cp hb' => by
    rw [← hnum, show gnum zs (P + 2) 4 = gnum (cutL zs P 10) 2 4 from (gnum_cut zs P 10 2 4 (by omega)).symm]; exact implGet_yes _ 10 cp _ 2 4 w' hl10 (HH.out w' hb') (by omega) (by omega) (by omega) (by omega)
  have hnb := gnum4_bd zs hz (P + 2)
  rw [hnum] at hnb
  obtain ⟨A, hA⟩ : ∃ A : Nat, A = P + 10 := ⟨_, rfl⟩
  have a1 : (P : Int) + 10 = (A : Int) := by omega
  have aw1 : IntKind.i64.wrap (A : Int) = (A : Int) := wrap_i64_in _ (by omega) (by omega)
  have a2 : A - P = 10 := by omega
  have a3 : A ≤ n := by omega
  have a4 : A ≤ c := by omega
  have a5 : ¬ c < A := by omega
  have a6 : P ≤ A := by omega
  have a7 : ¬ c = P := by omega
  have a8 : ¬ A = P := by omega
  have t1 : (0 : Int) ≤ (P : Int) := by omega
  have t2 : (P : Int) ≤ (n : Int) := by omega
  have t3 : (10 : Int) ≤ (n : Int) - (P : Int) := by omega
  have bW0 : Below w.heap.size w (w.alloc (.cells #[.int .i64 0, .string ⟨#[]⟩] 28)) := (Below.refl _ _).alloc (Nat.le_refl _) _
  have bD : Below w.heap.size w (w.alloc (.cells #[.int .i64 0, .string ⟨#[]⟩] 28)).drew := bW0.drew
  have qT : Hid (∀ w', Calls Try.prog 27 #[.int .i64 (s : Int)] w' fun e w'' => e = .returned (.bool false) ∧ w'' = w') := fun w' => by
    have := textSizeOk_any (s : Int) w'
    rwa [show (decide ((1 : Int) ≤ (s : Int)) && decide ((s : Int) ≤ 1000)) = false by simp; omega] at this
  clear HC HH hl10 hc hl hz hs hnum hA g2
  by_cases hcA : c = A
  · have hcA' : c - A = 0 := by omega
    have hz0 : n - A = 0 := by omega
    go_enter Try.func18, Try.ntmps18
    go_wp2_with fail
    refine (need_yes 1 _).mono ?_
    rintro e w9 ⟨rfl, rfl⟩
    go_wp2_with fail
    refine (need_yes 2 _).mono ?_
    rintro e w9 ⟨rfl, rfl⟩
    go_wp2_with fail
    refine wp_region_held_drew (S := fun w' => True) (by kernel_rfl) trivial (fun hHeld => ?_)
    refine wpAnyH_take (i := 0) (v := .slice (some ⟨b, off, none⟩) n c) rfl (by kernel_rfl) (by kernel_rfl) (by kernel_rfl) (fun _ _ _ h => h) (Or.inl ⟨by kernel_rfl, ?_⟩) (by assumption) ?_
    · intro w9 hSw; (try dsimp only at hSw); go_simp
    simp only [Act.put, List.getElem_toArray, List.getElem_cons_succ, List.getElem_cons_zero, List.setIfInBounds_toArray, List.set_cons_zero, List.set_cons_succ]
    refine wpAnyH_take (i := 1) (v := .int .i64 P) rfl (by kernel_rfl) (by kernel_rfl) (by kernel_rfl) (fun _ _ _ h => h) (Or.inl ⟨by kernel_rfl, ?_⟩) (by assumption) ?_
    · intro w9 hSw; (try dsimp only at hSw); go_simp
    simp only [Act.put, List.getElem_toArray, List.getElem_cons_succ, List.getElem_cons_zero, List.setIfInBounds_toArray, List.set_cons_zero, List.set_cons_succ]
    refine wpAnyH_take (i := 2) (v := .int .i64 P) rfl (by kernel_rfl) (by kernel_rfl) (by kernel_rfl) (fun _ _ _ h => h) (Or.inl ⟨by kernel_rfl, ?_⟩) (by assumption) ?_
    · intro w9 hSw; (try dsimp only at hSw); go_simp
    simp only [Act.put, List.getElem_toArray, List.getElem_cons_succ, List.getElem_cons_zero, List.setIfInBounds_toArray, List.set_cons_zero, List.set_cons_succ]
    refine wpAnyH_take (i := 3) (v := .int .i64 A) rfl (by kernel_rfl) (by kernel_rfl) (by kernel_rfl) (fun _ _ _ h => h) (Or.inl ⟨by kernel_rfl, ?_⟩) (by assumption) ?_
    · intro w9 hSw; (try dsimp only at hSw); go_simp
    simp only [Act.put, List.getElem_toArray, List.getElem_cons_succ, List.getElem_cons_zero, List.setIfInBounds_toArray, List.set_cons_zero, List.set_cons_succ]
    refine wpAnyH_take (i := 4) (v := .slice (some ⟨b, off + P, none⟩) 10 (c - P)) rfl (by kernel_rfl) (by kernel_rfl) (by kernel_rfl) (fun _ _ _ h => h) (Or.inl ⟨by kernel_rfl, ?_⟩) (by assumption) ?_
    · intro w9 hSw; (try dsimp only at hSw); go_simp
    simp only [Act.put, List.getElem_toArray, List.getElem_cons_succ, List.getElem_cons_zero, List.setIfInBounds_toArray, List.set_cons_zero, List.set_cons_succ]
    refine wpAnyH_take (i := 5) (v := .slice (some ⟨b, off, none⟩) n c) rfl (by kernel_rfl) (by kernel_rfl) (by kernel_rfl) (fun _ _ _ h => h) (Or.inl ⟨by kernel_rfl, ?_⟩) (by assumption) ?_
    · intro w9 hSw; (try dsimp only at hSw); go_simp
    simp only [Act.put, List.getElem_toArray, List.getElem_cons_succ, List.getElem_cons_zero, List.setIfInBounds_toArray, List.set_cons_zero, List.set_cons_succ]
    refine wpAnyH_take (i := 6) (v := .int .i64 P) rfl (by kernel_rfl) (by kernel_rfl) (by kernel_rfl) (fun _ _ _ h => h) (Or.inl ⟨by kernel_rfl, ?_⟩) (by assumption) ?_
    · intro w9 hSw; (try dsimp only at hSw); go_simp
    simp only [Act.put, List.getElem_toArray, List.getElem_cons_succ, List.getElem_cons_zero, List.setIfInBounds_toArray, List.set_cons_zero, List.set_cons_succ]
    refine wpAnyH_take (i := 7) (v := .int .i64 A) rfl (by kernel_rfl) (by kernel_rfl) (by kernel_rfl) (fun _ _ _ h => h) (Or.inl ⟨by kernel_rfl, ?_⟩) (by assumption) ?_
    · intro w9 hSw; (try dsimp only at hSw); go_simp
    simp only [Act.put, List.getElem_toArray, List.getElem_cons_succ, List.getElem_cons_zero, List.setIfInBounds_toArray, List.set_cons_zero, List.set_cons_succ]
    refine wpAnyH_take (i := 8) (v := .slice (some ⟨b, off, none⟩) (n - A) 0) rfl (by kernel_rfl) (by kernel_rfl) (by kernel_rfl) (fun _ _ _ h => h) (Or.inl ⟨by kernel_rfl, ?_⟩) (by assumption) ?_
    · intro w9 hSw; (try dsimp only at hSw); go_simp
    simp only [Act.put, List.getElem_toArray, List.getElem_cons_succ, List.getElem_cons_zero, List.setIfInBounds_toArray, List.set_cons_zero, List.set_cons_succ]
    refine wpAnyH_take (i := 9) (v := .slice (some ⟨b, off + P, none⟩) 10 (c - P)) rfl (by kernel_rfl) (by kernel_rfl) (by kernel_rfl) (fun _ _ _ h => h) (Or.inl ⟨by kernel_rfl, ?_⟩) (by assumption) ?_
    · intro w9 hSw; (try dsimp only at hSw); go_simp
    simp only [Act.put, List.getElem_toArray, List.getElem_cons_succ, List.getElem_cons_zero, List.setIfInBounds_toArray, List.set_cons_zero, List.set_cons_succ]
    refine wpAnyH_take (i := 10) (v := .slice (some ⟨b, off, none⟩) (n - A) 0) rfl (by kernel_rfl) (by kernel_rfl) (by kernel_rfl) (fun _ _ _ h => h) (Or.inl ⟨by kernel_rfl, ?_⟩) (by assumption) ?_
    · intro w9 hSw; (try dsimp only at hSw); go_simp
    simp only [Act.put, List.getElem_toArray, List.getElem_cons_succ, List.getElem_cons_zero, List.setIfInBounds_toArray, List.set_cons_zero, List.set_cons_succ]
    refine wpAnyH_done (by kernel_rfl) ?_ _
    go_wp2_with fail
    refine (g1.out _ _ bD).mono ?_
    rintro e w1 ⟨rfl, rfl⟩
    go_wp2_with fail
    refine (qT.out _).mono ?_
    rintro e w1 ⟨rfl, rfl⟩
    go_wp2_with fail
    refine (need_no 3 _).mono ?_
    rintro e w9 ⟨rfl, rfl⟩
    go_wp2_with fail
    exact ⟨rfl, rfl, bD⟩
  · go_enter Try.func18, Try.ntmps18
    go_wp2_with fail
    refine (need_yes 1 _).mono ?_
    rintro e w9 ⟨rfl, rfl⟩
    go_wp2_with fail
    refine (need_yes 2 _).mono ?_
    rintro e w9 ⟨rfl, rfl⟩
    go_wp2_with fail
    refine wp_region_held_drew (S := fun w' => True) (by kernel_rfl) trivial (fun hHeld => ?_)
    refine wpAnyH_take (i := 0) (v := .slice (some ⟨b, off, none⟩) n c) rfl (by kernel_rfl) (by kernel_rfl) (by kernel_rfl) (fun _ _ _ h => h) (Or.inl ⟨by kernel_rfl, ?_⟩) (by assumption) ?_
    · intro w9 hSw; (try dsimp only at hSw); go_simp
    simp only [Act.put, List.getElem_toArray, List.getElem_cons_succ, List.getElem_cons_zero, List.setIfInBounds_toArray, List.set_cons_zero, List.set_cons_succ]
    refine wpAnyH_take (i := 1) (v := .int .i64 P) rfl (by kernel_rfl) (by kernel_rfl) (by kernel_rfl) (fun _ _ _ h => h) (Or.inl ⟨by kernel_rfl, ?_⟩) (by assumption) ?_
    · intro w9 hSw; (try dsimp only at hSw); go_simp
    simp only [Act.put, List.getElem_toArray, List.getElem_cons_succ, List.getElem_cons_zero, List.setIfInBounds_toArray, List.set_cons_zero, List.set_cons_succ]
    refine wpAnyH_take (i := 2) (v := .int .i64 P) rfl (by kernel_rfl) (by kernel_rfl) (by kernel_rfl) (fun _ _ _ h => h) (Or.inl ⟨by kernel_rfl, ?_⟩) (by assumption) ?_
    · intro w9 hSw; (try dsimp only at hSw); go_simp
    simp only [Act.put, List.getElem_toArray, List.getElem_cons_succ, List.getElem_cons_zero, List.setIfInBounds_toArray, List.set_cons_zero, List.set_cons_succ]
    refine wpAnyH_take (i := 3) (v := .int .i64 A) rfl (by kernel_rfl) (by kernel_rfl) (by kernel_rfl) (fun _ _ _ h => h) (Or.inl ⟨by kernel_rfl, ?_⟩) (by assumption) ?_
    · intro w9 hSw; (try dsimp only at hSw); go_simp
    simp only [Act.put, List.getElem_toArray, List.getElem_cons_succ, List.getElem_cons_zero, List.setIfInBounds_toArray, List.set_cons_zero, List.set_cons_succ]
    refine wpAnyH_take (i := 4) (v := .slice (some ⟨b, off + P, none⟩) 10 (c - P)) rfl (by kernel_rfl) (by kernel_rfl) (by kernel_rfl) (fun _ _ _ h => h) (Or.inl ⟨by kernel_rfl, ?_⟩) (by assumption) ?_
    · intro w9 hSw; (try dsimp only at hSw); go_simp
    simp only [Act.put, List.getElem_toArray, List.getElem_cons_succ, List.getElem_cons_zero, List.setIfInBounds_toArray, List.set_cons_zero, List.set_cons_succ]
    refine wpAnyH_take (i := 5) (v := .slice (some ⟨b, off, none⟩) n c) rfl (by kernel_rfl) (by kernel_rfl) (by kernel_rfl) (fun _ _ _ h => h) (Or.inl ⟨by kernel_rfl, ?_⟩) (by assumption) ?_
    · intro w9 hSw; (try dsimp only at hSw); go_simp
    simp only [Act.put, List.getElem_toArray, List.getElem_cons_succ, List.getElem_cons_zero, List.setIfInBounds_toArray, List.set_cons_zero, List.set_cons_succ]
    refine wpAnyH_take (i := 6) (v := .int .i64 P) rfl (by kernel_rfl) (by kernel_rfl) (by kernel_rfl) (fun _ _ _ h => h) (Or.inl ⟨by kernel_rfl, ?_⟩) (by assumption) ?_
    · intro w9 hSw; (try dsimp only at hSw); go_simp
    simp only [Act.put, List.getElem_toArray, List.getElem_cons_succ, List.getElem_cons_zero, List.setIfInBounds_toArray, List.set_cons_zero, List.set_cons_succ]
    refine wpAnyH_take (i := 7) (v := .int .i64 A) rfl (by kernel_rfl) (by kernel_rfl) (by kernel_rfl) (fun _ _ _ h => h) (Or.inl ⟨by kernel_rfl, ?_⟩) (by assumption) ?_
    · intro w9 hSw; (try dsimp only at hSw); go_simp
    simp only [Act.put, List.getElem_toArray, List.getElem_cons_succ, List.getElem_cons_zero, List.setIfInBounds_toArray, List.set_cons_zero, List.set_cons_succ]
    refine wpAnyH_take (i := 8) (v := .slice (some ⟨b, off + A, none⟩) (n - A) (c - A)) rfl (by kernel_rfl) (by kernel_rfl) (by kernel_rfl) (fun _ _ _ h => h) (Or.inl ⟨by kernel_rfl, ?_⟩) (by assumption) ?_
    · intro w9 hSw; (try dsimp only at hSw); go_simp
    simp only [Act.put, List.getElem_toArray, List.getElem_cons_succ, List.getElem_cons_zero, List.setIfInBounds_toArray, List.set_cons_zero, List.set_cons_succ]
    refine wpAnyH_take (i := 9) (v := .slice (some ⟨b, off + P, none⟩) 10 (c - P)) rfl (by kernel_rfl) (by kernel_rfl) (by kernel_rfl) (fun _ _ _ h => h) (Or.inl ⟨by kernel_rfl, ?_⟩) (by assumption) ?_
    · intro w9 hSw; (try dsimp only at hSw); go_simp
    simp only [Act.put, List.getElem_toArray, List.getElem_cons_succ, List.getElem_cons_zero, List.setIfInBounds_toArray, List.set_cons_zero, List.set_cons_succ]
    refine wpAnyH_take (i := 10) (v := .slice (some ⟨b, off + A, none⟩) (n - A) (c - A)) rfl (by kernel_rfl) (by kernel_rfl) (by kernel_rfl) (fun _ _ _ h => h) (Or.inl ⟨by kernel_rfl, ?_⟩) (by assumption) ?_
    · intro w9 hSw; (try dsimp only at hSw); go_simp
    simp only [Act.put, List.getElem_toArray, List.getElem_cons_succ, List.getElem_cons_zero, List.setIfInBounds_toArray, List.set_cons_zero, List.set_cons_succ]
    refine wpAnyH_done (by kernel_rfl) ?_ _
    go_wp2_with fail
    refine (g1.out _ _ bD).mono ?_
    rintro e w1 ⟨rfl, rfl⟩
    go_wp2_with fail
    refine (qT.out _).mono ?_
    rintro e w1 ⟨rfl, rfl⟩
    go_wp2_with fail
    refine (need_no 3 _).mono ?_
    rintro e w9 ⟨rfl, rfl⟩
    go_wp2_with fail
    exact ⟨rfl, rfl, bD⟩

end Go.Proofs.Ytelbkamgcnmokaa

/- RiF4: readFrame of the program: the code 4. By program (rigen.py). -/
namespace Go.Proofs.Ytelbkamgcnmokaa
open Go.RowKit
set_option linter.unusedVariables false
set_option linter.unusedSimpArgs false

set_option maxRecDepth 100000 in
set_option maxHeartbeats 1500000 in
theorem readRf_4 (b off n c : Nat) (zs : List Int) (P s : Nat) (num : Int) (w : World) (hl : zs.length = n) (hb : b < w.heap.size) (hc : ∀ i, i < n → w.cell? ⟨b, off + i, none⟩ = some (.int .u8 (zs[i]?.getD 0))) (hz : Byt zs)
    (hcn : n ≤ c) (hcm : c ≤ maxLen) (hn : n ≤ 1048576) (hP : P + 10 ≤ n) (hs : gnum zs P 2 = (s : Int)) (hnum : gnum zs (P + 2) 4 = num) (h3 : ¬ s = 0) (h3' : ¬ 1000 < s) (h4 : (n : Int) - (P : Int) - 10 < (s : Int)) :
    Calls Try.prog 18 #[.slice (some ⟨b, off, none⟩) n c, .int .i64 (P : Int)] w fun e w' => e = .panicked [{ v := .iface 43 (.int .i64 4), recovered := false }] ∧ Below w.heap.size w w' := by
  unfold maxLen at hcm
  have HC : Hid (∀ w', Below w.heap.size w w' → ∀ i, i < n → w'.cell? ⟨b, off + i, none⟩ = some (.int .u8 (zs[i]?.getD 0))) := fun w' hb' i hi => (hb'.cell (p := ⟨b, off + i, none⟩) hb).trans (hc i hi)
  have HH : Hid (∀ w', Below w.heap.size w w' → Rd w' (some ⟨b, off + P, none⟩) (cutL zs P 10)) := fun w' hb' => rd_cut (Nat.lt_of_lt_of_le hb hb'.size) hz hl (HC.out w' hb') P 10 (by omega)
  have hl10 : (cutL zs P 10).length = 10 := cutL_len _ _ _ (by omega)
  have g1 : Hid (∀ w' cp, Below w.heap.size w w' → Calls Try.prog 26 #[.slice (some ⟨b, off + P, none⟩) 10 cp, .int .i64 0, .int .i64 2] w' fun e w'' => e = .returned (.tuple #[.int .i64 (s : Int), .bool true]) ∧ w'' = w') := fun w' cp hb' => by
    rw [← hs, show gnum zs P 2 = gnum (cutL zs P 10) 0 2 from (gnum_cut zs P 10 0 2 (by omega)).symm]; exact implGet_yes _ 10 cp _ 0 2 w' hl10 (HH.out w' hb') (by omega) (by omega) (by omega) (by omega)
  have g2 : Hid (∀ w' cp, Below w.heap.size w w' → Calls Try.prog 26 #[.slice (some ⟨b, off + P, none⟩) 10 cp, .int .i64 2, .int .i64 4] w' fun e w'' => e = .returned (.tuple #[.int .i64 num, .bool true]) ∧ w'' = w') := fun w' cp hb' => by
    rw [← hnum, show gnum zs (P + 2) 4 = gnum (cutL zs P 10) 2 4 from (gnum_cut zs P 10 2 4 (by omega)).symm]; exact implGet_yes _ 10 cp _ 2 4 w' hl10 (HH.out w' hb') (by omega) (by omega) (by omega) (by omega)
  have hnb := gnum4_bd zs hz (P + 2)
  rw [hnum] at hnb
  obtain ⟨A, hA⟩ : ∃ A : Nat, A = P + 10 := ⟨_, rfl⟩
  have a1 : (P : Int) + 10 = (A : Int) := by omega
  have aw1 : IntKind.i64.wrap (A : Int) = (A : Int) := wrap_i64_in _ (by omega) (by omega)
  have a2 : A - P = 10 := by omega
  have a3 : A ≤ n := by omega
  have a4 : A ≤ c := by omega
  have a5 : ¬ c < A := by omega
  have a6 : P ≤ A := by omega
  have a7 : ¬ c = P := by omega
  have a8 : ¬ A = P := by omega
  have t1 : (0 : Int) ≤ (P : Int) := by omega
  have t2 : (P : Int) ≤ (n : Int) := by omega
  have t3 : (10 : Int) ≤ (n : Int) - (P : Int) := by omega
  have bW0 : Below w.heap.size w (w.alloc (.cells #[.int .i64 0, .string ⟨#[]⟩] 28)) := (Below.refl _ _).alloc (Nat.le_refl _) _
  have bD : Below w.heap.size w (w.alloc (.cells #[.int .i64 0, .string ⟨#[]⟩] 28)).drew := bW0.drew
  have qT : Hid (∀ w', Calls Try.prog 27 #[.int .i64 (s : Int)] w' fun e w'' => e = .returned (.bool true) ∧ w'' = w') := fun w' => by
    have := textSizeOk_any (s : Int) w'
    rwa [show (decide ((1 : Int) ≤ (s : Int)) && decide ((s : Int) ≤ 1000)) = true by simp; omega] at this
  have z1 : ¬ s ≤ n - A := by omega
  have z2 : decide (s ≤ n - A) = false := by simp; omega
  have z3 : ¬ (s : Int) ≤ ((n - A : Nat) : Int) := by omega
  have z4 : decide ((s : Int) ≤ ((n - A : Nat) : Int)) = false := by simp; omega
  clear HC HH hl10 hc hl hz hs hnum hA g2
  by_cases hcA : c = A
  · have hcA' : c - A = 0 := by omega
    go_enter Try.func18, Try.ntmps18
    go_wp2_with fail
    refine (need_yes 1 _).mono ?_
    rintro e w9 ⟨rfl, rfl⟩
    go_wp2_with fail
    refine (need_yes 2 _).mono ?_
    rintro e w9 ⟨rfl, rfl⟩
    go_wp2_with fail
    refine wp_region_held_drew (S := fun w' => True) (by kernel_rfl) trivial (fun hHeld => ?_)
    refine wpAnyH_take (i := 0) (v := .slice (some ⟨b, off, none⟩) n c) rfl (by kernel_rfl) (by kernel_rfl) (by kernel_rfl) (fun _ _ _ h => h) (Or.inl ⟨by kernel_rfl, ?_⟩) (by assumption) ?_
    · intro w9 hSw; (try dsimp only at hSw); go_simp
    simp only [Act.put, List.getElem_toArray, List.getElem_cons_succ, List.getElem_cons_zero, List.setIfInBounds_toArray, List.set_cons_zero, List.set_cons_succ]
    refine wpAnyH_take (i := 1) (v := .int .i64 P) rfl (by kernel_rfl) (by kernel_rfl) (by kernel_rfl) (fun _ _ _ h => h) (Or.inl ⟨by kernel_rfl, ?_⟩) (by assumption) ?_
    · intro w9 hSw; (try dsimp only at hSw); go_simp
    simp only [Act.put, List.getElem_toArray, List.getElem_cons_succ, List.getElem_cons_zero, List.setIfInBounds_toArray, List.set_cons_zero, List.set_cons_succ]
    refine wpAnyH_take (i := 2) (v := .int .i64 P) rfl (by kernel_rfl) (by kernel_rfl) (by kernel_rfl) (fun _ _ _ h => h) (Or.inl ⟨by kernel_rfl, ?_⟩) (by assumption) ?_
    · intro w9 hSw; (try dsimp only at hSw); go_simp
    simp only [Act.put, List.getElem_toArray, List.getElem_cons_succ, List.getElem_cons_zero, List.setIfInBounds_toArray, List.set_cons_zero, List.set_cons_succ]
    refine wpAnyH_take (i := 3) (v := .int .i64 A) rfl (by kernel_rfl) (by kernel_rfl) (by kernel_rfl) (fun _ _ _ h => h) (Or.inl ⟨by kernel_rfl, ?_⟩) (by assumption) ?_
    · intro w9 hSw; (try dsimp only at hSw); go_simp
    simp only [Act.put, List.getElem_toArray, List.getElem_cons_succ, List.getElem_cons_zero, List.setIfInBounds_toArray, List.set_cons_zero, List.set_cons_succ]
    refine wpAnyH_take (i := 4) (v := .slice (some ⟨b, off + P, none⟩) 10 (c - P)) rfl (by kernel_rfl) (by kernel_rfl) (by kernel_rfl) (fun _ _ _ h => h) (Or.inl ⟨by kernel_rfl, ?_⟩) (by assumption) ?_
    · intro w9 hSw; (try dsimp only at hSw); go_simp
    simp only [Act.put, List.getElem_toArray, List.getElem_cons_succ, List.getElem_cons_zero, List.setIfInBounds_toArray, List.set_cons_zero, List.set_cons_succ]
    refine wpAnyH_take (i := 5) (v := .slice (some ⟨b, off, none⟩) n c) rfl (by kernel_rfl) (by kernel_rfl) (by kernel_rfl) (fun _ _ _ h => h) (Or.inl ⟨by kernel_rfl, ?_⟩) (by assumption) ?_
    · intro w9 hSw; (try dsimp only at hSw); go_simp
    simp only [Act.put, List.getElem_toArray, List.getElem_cons_succ, List.getElem_cons_zero, List.setIfInBounds_toArray, List.set_cons_zero, List.set_cons_succ]
    refine wpAnyH_take (i := 6) (v := .int .i64 P) rfl (by kernel_rfl) (by kernel_rfl) (by kernel_rfl) (fun _ _ _ h => h) (Or.inl ⟨by kernel_rfl, ?_⟩) (by assumption) ?_
    · intro w9 hSw; (try dsimp only at hSw); go_simp
    simp only [Act.put, List.getElem_toArray, List.getElem_cons_succ, List.getElem_cons_zero, List.setIfInBounds_toArray, List.set_cons_zero, List.set_cons_succ]
    refine wpAnyH_take (i := 7) (v := .int .i64 A) rfl (by kernel_rfl) (by kernel_rfl) (by kernel_rfl) (fun _ _ _ h => h) (Or.inl ⟨by kernel_rfl, ?_⟩) (by assumption) ?_
    · intro w9 hSw; (try dsimp only at hSw); go_simp
    simp only [Act.put, List.getElem_toArray, List.getElem_cons_succ, List.getElem_cons_zero, List.setIfInBounds_toArray, List.set_cons_zero, List.set_cons_succ]
    refine wpAnyH_take (i := 8) (v := .slice (some ⟨b, off, none⟩) (n - A) 0) rfl (by kernel_rfl) (by kernel_rfl) (by kernel_rfl) (fun _ _ _ h => h) (Or.inl ⟨by kernel_rfl, ?_⟩) (by assumption) ?_
    · intro w9 hSw; (try dsimp only at hSw); go_simp
    simp only [Act.put, List.getElem_toArray, List.getElem_cons_succ, List.getElem_cons_zero, List.setIfInBounds_toArray, List.set_cons_zero, List.set_cons_succ]
    refine wpAnyH_take (i := 9) (v := .slice (some ⟨b, off + P, none⟩) 10 (c - P)) rfl (by kernel_rfl) (by kernel_rfl) (by kernel_rfl) (fun _ _ _ h => h) (Or.inl ⟨by kernel_rfl, ?_⟩) (by assumption) ?_
    · intro w9 hSw; (try dsimp only at hSw); go_simp
    simp only [Act.put, List.getElem_toArray, List.getElem_cons_succ, List.getElem_cons_zero, List.setIfInBounds_toArray, List.set_cons_zero, List.set_cons_succ]
    refine wpAnyH_take (i := 10) (v := .slice (some ⟨b, off, none⟩) (n - A) 0) rfl (by kernel_rfl) (by kernel_rfl) (by kernel_rfl) (fun _ _ _ h => h) (Or.inl ⟨by kernel_rfl, ?_⟩) (by assumption) ?_
    · intro w9 hSw; (try dsimp only at hSw); go_simp
    simp only [Act.put, List.getElem_toArray, List.getElem_cons_succ, List.getElem_cons_zero, List.setIfInBounds_toArray, List.set_cons_zero, List.set_cons_succ]
    refine wpAnyH_done (by kernel_rfl) ?_ _
    go_wp2_with fail
    refine (g1.out _ _ bD).mono ?_
    rintro e w1 ⟨rfl, rfl⟩
    go_wp2_with fail
    refine (qT.out _).mono ?_
    rintro e w1 ⟨rfl, rfl⟩
    go_wp2_with fail
    refine (need_yes 3 _).mono ?_
    rintro e w9 ⟨rfl, rfl⟩
    go_wp2_with fail
    refine (need_no 4 _).mono ?_
    rintro e w9 ⟨rfl, rfl⟩
    go_wp2_with fail
    exact ⟨rfl, rfl, bD⟩
  · go_enter Try.func18, Try.ntmps18
    go_wp2_with fail
    refine (need_yes 1 _).mono ?_
    rintro e w9 ⟨rfl, rfl⟩
    go_wp2_with fail
    refine (need_yes 2 _).mono ?_
    rintro e w9 ⟨rfl, rfl⟩
    go_wp2_with fail
    refine wp_region_held_drew (S := fun w' => True) (by kernel_rfl) trivial (fun hHeld => ?_)
    refine wpAnyH_take (i := 0) (v := .slice (some ⟨b, off, none⟩) n c) rfl (by kernel_rfl) (by kernel_rfl) (by kernel_rfl) (fun _ _ _ h => h) (Or.inl ⟨by kernel_rfl, ?_⟩) (by assumption) ?_
    · intro w9 hSw; (try dsimp only at hSw); go_simp
    simp only [Act.put, List.getElem_toArray, List.getElem_cons_succ, List.getElem_cons_zero, List.setIfInBounds_toArray, List.set_cons_zero, List.set_cons_succ]
    refine wpAnyH_take (i := 1) (v := .int .i64 P) rfl (by kernel_rfl) (by kernel_rfl) (by kernel_rfl) (fun _ _ _ h => h) (Or.inl ⟨by kernel_rfl, ?_⟩) (by assumption) ?_
    · intro w9 hSw; (try dsimp only at hSw); go_simp
    simp only [Act.put, List.getElem_toArray, List.getElem_cons_succ, List.getElem_cons_zero, List.setIfInBounds_toArray, List.set_cons_zero, List.set_cons_succ]
    refine wpAnyH_take (i := 2) (v := .int .i64 P) rfl (by kernel_rfl) (by kernel_rfl) (by kernel_rfl) (fun _ _ _ h => h) (Or.inl ⟨by kernel_rfl, ?_⟩) (by assumption) ?_
    · intro w9 hSw; (try dsimp only at hSw); go_simp
    simp only [Act.put, List.getElem_toArray, List.getElem_cons_succ, List.getElem_cons_zero, List.setIfInBounds_toArray, List.set_cons_zero, List.set_cons_succ]
    refine wpAnyH_take (i := 3) (v := .int .i64 A) rfl (by kernel_rfl) (by kernel_rfl) (by kernel_rfl) (fun _ _ _ h => h) (Or.inl ⟨by kernel_rfl, ?_⟩) (by assumption) ?_
    · intro w9 hSw; (try dsimp only at hSw); go_simp
    simp only [Act.put, List.getElem_toArray, List.getElem_cons_succ, List.getElem_cons_zero, List.setIfInBounds_toArray, List.set_cons_zero, List.set_cons_succ]
    refine wpAnyH_take (i := 4) (v := .slice (some ⟨b, off + P, none⟩) 10 (c - P)) rfl (by kernel_rfl) (by kernel_rfl) (by kernel_rfl) (fun _ _ _ h => h) (Or.inl ⟨by kernel_rfl, ?_⟩) (by assumption) ?_
    · intro w9 hSw; (try dsimp only at hSw); go_simp
    simp only [Act.put, List.getElem_toArray, List.getElem_cons_succ, List.getElem_cons_zero, List.setIfInBounds_toArray, List.set_cons_zero, List.set_cons_succ]
    refine wpAnyH_take (i := 5) (v := .slice (some ⟨b, off, none⟩) n c) rfl (by kernel_rfl) (by kernel_rfl) (by kernel_rfl) (fun _ _ _ h => h) (Or.inl ⟨by kernel_rfl, ?_⟩) (by assumption) ?_
    · intro w9 hSw; (try dsimp only at hSw); go_simp
    simp only [Act.put, List.getElem_toArray, List.getElem_cons_succ, List.getElem_cons_zero, List.setIfInBounds_toArray, List.set_cons_zero, List.set_cons_succ]
    refine wpAnyH_take (i := 6) (v := .int .i64 P) rfl (by kernel_rfl) (by kernel_rfl) (by kernel_rfl) (fun _ _ _ h => h) (Or.inl ⟨by kernel_rfl, ?_⟩) (by assumption) ?_
    · intro w9 hSw; (try dsimp only at hSw); go_simp
    simp only [Act.put, List.getElem_toArray, List.getElem_cons_succ, List.getElem_cons_zero, List.setIfInBounds_toArray, List.set_cons_zero, List.set_cons_succ]
    refine wpAnyH_take (i := 7) (v := .int .i64 A) rfl (by kernel_rfl) (by kernel_rfl) (by kernel_rfl) (fun _ _ _ h => h) (Or.inl ⟨by kernel_rfl, ?_⟩) (by assumption) ?_
    · intro w9 hSw; (try dsimp only at hSw); go_simp
    simp only [Act.put, List.getElem_toArray, List.getElem_cons_succ, List.getElem_cons_zero, List.setIfInBounds_toArray, List.set_cons_zero, List.set_cons_succ]
    refine wpAnyH_take (i := 8) (v := .slice (some ⟨b, off + A, none⟩) (n - A) (c - A)) rfl (by kernel_rfl) (by kernel_rfl) (by kernel_rfl) (fun _ _ _ h => h) (Or.inl ⟨by kernel_rfl, ?_⟩) (by assumption) ?_
    · intro w9 hSw; (try dsimp only at hSw); go_simp
    simp only [Act.put, List.getElem_toArray, List.getElem_cons_succ, List.getElem_cons_zero, List.setIfInBounds_toArray, List.set_cons_zero, List.set_cons_succ]
    refine wpAnyH_take (i := 9) (v := .slice (some ⟨b, off + P, none⟩) 10 (c - P)) rfl (by kernel_rfl) (by kernel_rfl) (by kernel_rfl) (fun _ _ _ h => h) (Or.inl ⟨by kernel_rfl, ?_⟩) (by assumption) ?_
    · intro w9 hSw; (try dsimp only at hSw); go_simp
    simp only [Act.put, List.getElem_toArray, List.getElem_cons_succ, List.getElem_cons_zero, List.setIfInBounds_toArray, List.set_cons_zero, List.set_cons_succ]
    refine wpAnyH_take (i := 10) (v := .slice (some ⟨b, off + A, none⟩) (n - A) (c - A)) rfl (by kernel_rfl) (by kernel_rfl) (by kernel_rfl) (fun _ _ _ h => h) (Or.inl ⟨by kernel_rfl, ?_⟩) (by assumption) ?_
    · intro w9 hSw; (try dsimp only at hSw); go_simp
    simp only [Act.put, List.getElem_toArray, List.getElem_cons_succ, List.getElem_cons_zero, List.setIfInBounds_toArray, List.set_cons_zero, List.set_cons_succ]
    refine wpAnyH_done (by kernel_rfl) ?_ _
    go_wp2_with fail
    refine (g1.out _ _ bD).mono ?_
    rintro e w1 ⟨rfl, rfl⟩
    go_wp2_with fail
    refine (qT.out _).mono ?_
    rintro e w1 ⟨rfl, rfl⟩
    go_wp2_with fail
    refine (need_yes 3 _).mono ?_
    rintro e w9 ⟨rfl, rfl⟩
    go_wp2_with fail
    refine (need_no 4 _).mono ?_
    rintro e w9 ⟨rfl, rfl⟩
    go_wp2_with fail
    exact ⟨rfl, rfl, bD⟩

end Go.Proofs.Ytelbkamgcnmokaa

/- RiF5: readFrame of the program: the code 5. By program (rigen.py). -/
namespace Go.Proofs.Ytelbkamgcnmokaa
open Go.RowKit
set_option linter.unusedVariables false
set_option linter.unusedSimpArgs false

set_option maxRecDepth 100000 in
set_option maxHeartbeats 1500000 in
theorem readRf_5 (b off n c : Nat) (zs : List Int) (P s : Nat) (num : Int) (w : World) (hl : zs.length = n) (hb : b < w.heap.size) (hc : ∀ i, i < n → w.cell? ⟨b, off + i, none⟩ = some (.int .u8 (zs[i]?.getD 0))) (hz : Byt zs)
    (hcn : n ≤ c) (hcm : c ≤ maxLen) (hn : n ≤ 1048576) (hP : P + 10 ≤ n) (hs : gnum zs P 2 = (s : Int)) (hnum : gnum zs (P + 2) 4 = num) (h3 : ¬ s = 0) (h3' : ¬ 1000 < s) (h4 : ¬ (n : Int) - (P : Int) - 10 < (s : Int)) (h5 : num = 0 ∨ 1000000000 < num) :
    Calls Try.prog 18 #[.slice (some ⟨b, off, none⟩) n c, .int .i64 (P : Int)] w fun e w' => e = .panicked [{ v := .iface 43 (.int .i64 5), recovered := false }] ∧ Below w.heap.size w w' := by
  unfold maxLen at hcm
  have HC : Hid (∀ w', Below w.heap.size w w' → ∀ i, i < n → w'.cell? ⟨b, off + i, none⟩ = some (.int .u8 (zs[i]?.getD 0))) := fun w' hb' i hi => (hb'.cell (p := ⟨b, off + i, none⟩) hb).trans (hc i hi)
  have HH : Hid (∀ w', Below w.heap.size w w' → Rd w' (some ⟨b, off + P, none⟩) (cutL zs P 10)) := fun w' hb' => rd_cut (Nat.lt_of_lt_of_le hb hb'.size) hz hl (HC.out w' hb') P 10 (by omega)
  have hl10 : (cutL zs P 10).length = 10 := cutL_len _ _ _ (by omega)
  have g1 : Hid (∀ w' cp, Below w.heap.size w w' → Calls Try.prog 26 #[.slice (some ⟨b, off + P, none⟩) 10 cp, .int .i64 0, .int .i64 2] w' fun e w'' => e = .returned (.tuple #[.int .i64 (s : Int), .bool true]) ∧ w'' = w') := fun w' cp hb' => by
    rw [← hs, show gnum zs P 2 = gnum (cutL zs P 10) 0 2 from (gnum_cut zs P 10 0 2 (by omega)).symm]; exact implGet_yes _ 10 cp _ 0 2 w' hl10 (HH.out w' hb') (by omega) (by omega) (by omega) (by omega)
  have g2 : Hid (∀ w' cp, Below w.heap.size w w' → Calls Try.prog 26 #[.slice (some ⟨b, off + P, none⟩) 10 cp, .int .i64 2, .int .i64 4] w' fun e w'' => e = .returned (.tuple #[.int .i64 num, .bool true]) ∧ w'' = w') := fun w' cp hb' => by
    rw [← hnum, show gnum zs (P + 2) 4 = gnum (cutL zs P 10) 2 4 from (gnum_cut zs P 10 2 4 (by omega)).symm]; exact implGet_yes _ 10 cp _ 2 4 w' hl10 (HH.out w' hb') (by omega) (by omega) (by omega) (by omega)
  have hnb := gnum4_bd zs hz (P + 2)
  rw [hnum] at hnb
  obtain ⟨A, hA⟩ : ∃ A : Nat, A = P + 10 := ⟨_, rfl⟩
  have a1 : (P : Int) + 10 = (A : Int) := by omega
  have aw1 : IntKind.i64.wrap (A : Int) = (A : Int) := wrap_i64_in _ (by omega) (by omega)
  have a2 : A - P = 10 := by omega
  have a3 : A ≤ n := by omega
  have a4 : A ≤ c := by omega
  have a5 : ¬ c < A := by omega
  have a6 : P ≤ A := by omega
  have a7 : ¬ c = P := by omega
  have a8 : ¬ A = P := by omega
  have t1 : (0 : Int) ≤ (P : Int) := by omega
  have t2 : (P : Int) ≤ (n : Int) := by omega
  have t3 : (10 : Int) ≤ (n : Int) - (P : Int) := by omega
  have bW0 : Below w.heap.size w (w.alloc (.cells #[.int .i64 0, .string ⟨#[]⟩] 28)) := (Below.refl _ _).alloc (Nat.le_refl _) _
  have bD : Below w.heap.size w (w.alloc (.cells #[.int .i64 0, .string ⟨#[]⟩] 28)).drew := bW0.drew
  have qT : Hid (∀ w', Calls Try.prog 27 #[.int .i64 (s : Int)] w' fun e w'' => e = .returned (.bool true) ∧ w'' = w') := fun w' => by
    have := textSizeOk_any (s : Int) w'
    rwa [show (decide ((1 : Int) ≤ (s : Int)) && decide ((s : Int) ≤ 1000)) = true by simp; omega] at this
  have qN : Hid (∀ w', Calls Try.prog 28 #[.int .i64 num] w' fun e w'' => e = .returned (.bool false) ∧ w'' = w') := fun w' => by
    have := seqOk_any num w'
    rwa [show (decide ((1 : Int) ≤ num) && decide (num ≤ 1000000000)) = false by simp; omega] at this
  have z1 : s ≤ n - A := by omega
  have z3 : (s : Int) ≤ ((n - A : Nat) : Int) := by omega
  have hcA : ¬ c = A := by omega
  clear HC HH hl10 hc hl hz hs hnum hA h5
  go_enter Try.func18, Try.ntmps18
  go_wp2_with fail
  refine (need_yes 1 _).mono ?_
  rintro e w9 ⟨rfl, rfl⟩
  go_wp2_with fail
  refine (need_yes 2 _).mono ?_
  rintro e w9 ⟨rfl, rfl⟩
  go_wp2_with fail
  refine wp_region_held_drew (S := fun w' => True) (by kernel_rfl) trivial (fun hHeld => ?_)
  refine wpAnyH_take (i := 0) (v := .slice (some ⟨b, off, none⟩) n c) rfl (by kernel_rfl) (by kernel_rfl) (by kernel_rfl) (fun _ _ _ h => h) (Or.inl ⟨by kernel_rfl, ?_⟩) (by assumption) ?_
  · intro w9 hSw; (try dsimp only at hSw); go_simp
  simp only [Act.put, List.getElem_toArray, List.getElem_cons_succ, List.getElem_cons_zero, List.setIfInBounds_toArray, List.set_cons_zero, List.set_cons_succ]
  refine wpAnyH_take (i := 1) (v := .int .i64 P) rfl (by kernel_rfl) (by kernel_rfl) (by kernel_rfl) (fun _ _ _ h => h) (Or.inl ⟨by kernel_rfl, ?_⟩) (by assumption) ?_
  · intro w9 hSw; (try dsimp only at hSw); go_simp
  simp only [Act.put, List.getElem_toArray, List.getElem_cons_succ, List.getElem_cons_zero, List.setIfInBounds_toArray, List.set_cons_zero, List.set_cons_succ]
  refine wpAnyH_take (i := 2) (v := .int .i64 P) rfl (by kernel_rfl) (by kernel_rfl) (by kernel_rfl) (fun _ _ _ h => h) (Or.inl ⟨by kernel_rfl, ?_⟩) (by assumption) ?_
  · intro w9 hSw; (try dsimp only at hSw); go_simp
  simp only [Act.put, List.getElem_toArray, List.getElem_cons_succ, List.getElem_cons_zero, List.setIfInBounds_toArray, List.set_cons_zero, List.set_cons_succ]
  refine wpAnyH_take (i := 3) (v := .int .i64 A) rfl (by kernel_rfl) (by kernel_rfl) (by kernel_rfl) (fun _ _ _ h => h) (Or.inl ⟨by kernel_rfl, ?_⟩) (by assumption) ?_
  · intro w9 hSw; (try dsimp only at hSw); go_simp
  simp only [Act.put, List.getElem_toArray, List.getElem_cons_succ, List.getElem_cons_zero, List.setIfInBounds_toArray, List.set_cons_zero, List.set_cons_succ]
  refine wpAnyH_take (i := 4) (v := .slice (some ⟨b, off + P, none⟩) 10 (c - P)) rfl (by kernel_rfl) (by kernel_rfl) (by kernel_rfl) (fun _ _ _ h => h) (Or.inl ⟨by kernel_rfl, ?_⟩) (by assumption) ?_
  · intro w9 hSw; (try dsimp only at hSw); go_simp
  simp only [Act.put, List.getElem_toArray, List.getElem_cons_succ, List.getElem_cons_zero, List.setIfInBounds_toArray, List.set_cons_zero, List.set_cons_succ]
  refine wpAnyH_take (i := 5) (v := .slice (some ⟨b, off, none⟩) n c) rfl (by kernel_rfl) (by kernel_rfl) (by kernel_rfl) (fun _ _ _ h => h) (Or.inl ⟨by kernel_rfl, ?_⟩) (by assumption) ?_
  · intro w9 hSw; (try dsimp only at hSw); go_simp
  simp only [Act.put, List.getElem_toArray, List.getElem_cons_succ, List.getElem_cons_zero, List.setIfInBounds_toArray, List.set_cons_zero, List.set_cons_succ]
  refine wpAnyH_take (i := 6) (v := .int .i64 P) rfl (by kernel_rfl) (by kernel_rfl) (by kernel_rfl) (fun _ _ _ h => h) (Or.inl ⟨by kernel_rfl, ?_⟩) (by assumption) ?_
  · intro w9 hSw; (try dsimp only at hSw); go_simp
  simp only [Act.put, List.getElem_toArray, List.getElem_cons_succ, List.getElem_cons_zero, List.setIfInBounds_toArray, List.set_cons_zero, List.set_cons_succ]
  refine wpAnyH_take (i := 7) (v := .int .i64 A) rfl (by kernel_rfl) (by kernel_rfl) (by kernel_rfl) (fun _ _ _ h => h) (Or.inl ⟨by kernel_rfl, ?_⟩) (by assumption) ?_
  · intro w9 hSw; (try dsimp only at hSw); go_simp
  simp only [Act.put, List.getElem_toArray, List.getElem_cons_succ, List.getElem_cons_zero, List.setIfInBounds_toArray, List.set_cons_zero, List.set_cons_succ]
  refine wpAnyH_take (i := 8) (v := .slice (some ⟨b, off + A, none⟩) (n - A) (c - A)) rfl (by kernel_rfl) (by kernel_rfl) (by kernel_rfl) (fun _ _ _ h => h) (Or.inl ⟨by kernel_rfl, ?_⟩) (by assumption) ?_
  · intro w9 hSw; (try dsimp only at hSw); go_simp
  simp only [Act.put, List.getElem_toArray, List.getElem_cons_succ, List.getElem_cons_zero, List.setIfInBounds_toArray, List.set_cons_zero, List.set_cons_succ]
  refine wpAnyH_take (i := 9) (v := .slice (some ⟨b, off + P, none⟩) 10 (c - P)) rfl (by kernel_rfl) (by kernel_rfl) (by kernel_rfl) (fun _ _ _ h => h) (Or.inl ⟨by kernel_rfl, ?_⟩) (by assumption) ?_
  · intro w9 hSw; (try dsimp only at hSw); go_simp
  simp only [Act.put, List.getElem_toArray, List.getElem_cons_succ, List.getElem_cons_zero, List.setIfInBounds_toArray, List.set_cons_zero, List.set_cons_succ]
  refine wpAnyH_take (i := 10) (v := .slice (some ⟨b, off + A, none⟩) (n - A) (c - A)) rfl (by kernel_rfl) (by kernel_rfl) (by kernel_rfl) (fun _ _ _ h => h) (Or.inl ⟨by kernel_rfl, ?_⟩) (by assumption) ?_
  · intro w9 hSw; (try dsimp only at hSw); go_simp
  simp only [Act.put, List.getElem_toArray, List.getElem_cons_succ, List.getElem_cons_zero, List.setIfInBounds_toArray, List.set_cons_zero, List.set_cons_succ]
  refine wpAnyH_done (by kernel_rfl) ?_ _
  go_wp2_with fail
  refine (g1.out _ _ bD).mono ?_
  rintro e w1 ⟨rfl, rfl⟩
  go_wp2_with fail
  refine (qT.out _).mono ?_
  rintro e w1 ⟨rfl, rfl⟩
  go_wp2_with fail
  refine (need_yes 3 _).mono ?_
  rintro e w9 ⟨rfl, rfl⟩
  go_wp2_with fail
  refine (need_yes 4 _).mono ?_
  rintro e w9 ⟨rfl, rfl⟩
  go_wp2_with fail
  refine (g2.out _ _ bD).mono ?_
  rintro e w1 ⟨rfl, rfl⟩
  go_wp2_with fail
  refine (qN.out _).mono ?_
  rintro e w1 ⟨rfl, rfl⟩
  go_wp2_with fail
  refine (need_no 5 _).mono ?_
  rintro e w9 ⟨rfl, rfl⟩
  go_wp2_with fail
  exact ⟨rfl, rfl, bD⟩

end Go.Proofs.Ytelbkamgcnmokaa

/- RiL: readFrame of the program: the sum. By program (rigen.py). -/
namespace Go.Proofs.Ytelbkamgcnmokaa
open Go.RowKit
set_option linter.unusedVariables false
set_option linter.unusedSimpArgs false

set_option maxRecDepth 100000 in
set_option maxHeartbeats 2000000 in
theorem readRf_6 (b off n c : Nat) (zs : List Int) (P s : Nat) (num : Int) (w : World) (hl : zs.length = n) (hb : b < w.heap.size) (hc : ∀ i, i < n → w.cell? ⟨b, off + i, none⟩ = some (.int .u8 (zs[i]?.getD 0))) (hz : Byt zs)
    (hcn : n ≤ c) (hcm : c ≤ maxLen) (hn : n ≤ 1048576) (hP : P + 10 ≤ n) (hs : gnum zs P 2 = (s : Int)) (hnum : gnum zs (P + 2) 4 = num) (sm : Int) (hsm : gnum zs (P + 6) 4 = sm) (h3 : ¬ s = 0) (h3' : ¬ 1000 < s) (h4 : ¬ (n : Int) - (P : Int) - 10 < (s : Int)) (h5 : ¬ num = 0) (h5' : ¬ 1000000000 < num) (h6 : ¬ sm = crcI (cutL zs P 6 ++ cutL zs (P + 10) s)) :
    Calls Try.prog 18 #[.slice (some ⟨b, off, none⟩) n c, .int .i64 (P : Int)] w fun e w' => e = .panicked [{ v := .iface 43 (.int .i64 6), recovered := false }] ∧ Below w.heap.size w w' := by
  unfold maxLen at hcm
  have HC : Hid (∀ w', Below w.heap.size w w' → ∀ i, i < n → w'.cell? ⟨b, off + i, none⟩ = some (.int .u8 (zs[i]?.getD 0))) := fun w' hb' i hi => (hb'.cell (p := ⟨b, off + i, none⟩) hb).trans (hc i hi)
  have HH : Hid (∀ w', Below w.heap.size w w' → Rd w' (some ⟨b, off + P, none⟩) (cutL zs P 10)) := fun w' hb' => rd_cut (Nat.lt_of_lt_of_le hb hb'.size) hz hl (HC.out w' hb') P 10 (by omega)
  have hl10 : (cutL zs P 10).length = 10 := cutL_len _ _ _ (by omega)
  have g1 : Hid (∀ w' cp, Below w.heap.size w w' → Calls Try.prog 26 #[.slice (some ⟨b, off + P, none⟩) 10 cp, .int .i64 0, .int .i64 2] w' fun e w'' => e = .returned (.tuple #[.int .i64 (s : Int), .bool true]) ∧ w'' = w') := fun w' cp hb' => by
    rw [← hs, show gnum zs P 2 = gnum (cutL zs P 10) 0 2 from (gnum_cut zs P 10 0 2 (by omega)).symm]; exact implGet_yes _ 10 cp _ 0 2 w' hl10 (HH.out w' hb') (by omega) (by omega) (by omega) (by omega)
  have g2 : Hid (∀ w' cp, Below w.heap.size w w' → Calls Try.prog 26 #[.slice (some ⟨b, off + P, none⟩) 10 cp, .int .i64 2, .int .i64 4] w' fun e w'' => e = .returned (.tuple #[.int .i64 num, .bool true]) ∧ w'' = w') := fun w' cp hb' => by
    rw [← hnum, show gnum zs (P + 2) 4 = gnum (cutL zs P 10) 2 4 from (gnum_cut zs P 10 2 4 (by omega)).symm]; exact implGet_yes _ 10 cp _ 2 4 w' hl10 (HH.out w' hb') (by omega) (by omega) (by omega) (by omega)
  have hnb := gnum4_bd zs hz (P + 2)
  rw [hnum] at hnb
  obtain ⟨A, hA⟩ : ∃ A : Nat, A = P + 10 := ⟨_, rfl⟩
  have a1 : (P : Int) + 10 = (A : Int) := by omega
  have aw1 : IntKind.i64.wrap (A : Int) = (A : Int) := wrap_i64_in _ (by omega) (by omega)
  have a2 : A - P = 10 := by omega
  have a3 : A ≤ n := by omega
  have a4 : A ≤ c := by omega
  have a5 : ¬ c < A := by omega
  have a6 : P ≤ A := by omega
  have a7 : ¬ c = P := by omega
  have a8 : ¬ A = P := by omega
  have t1 : (0 : Int) ≤ (P : Int) := by omega
  have t2 : (P : Int) ≤ (n : Int) := by omega
  have t3 : (10 : Int) ≤ (n : Int) - (P : Int) := by omega
  have bW0 : Below w.heap.size w (w.alloc (.cells #[.int .i64 0, .string ⟨#[]⟩] 28)) := (Below.refl _ _).alloc (Nat.le_refl _) _
  have bD : Below w.heap.size w (w.alloc (.cells #[.int .i64 0, .string ⟨#[]⟩] 28)).drew := bW0.drew
  have qT : Hid (∀ w', Calls Try.prog 27 #[.int .i64 (s : Int)] w' fun e w'' => e = .returned (.bool true) ∧ w'' = w') := fun w' => by
    have := textSizeOk_any (s : Int) w'
    rwa [show (decide ((1 : Int) ≤ (s : Int)) && decide ((s : Int) ≤ 1000)) = true by simp; omega] at this
  have qN : Hid (∀ w', Calls Try.prog 28 #[.int .i64 num] w' fun e w'' => e = .returned (.bool true) ∧ w'' = w') := fun w' => by
    have := seqOk_any num w'
    rwa [show (decide ((1 : Int) ≤ num) && decide (num ≤ 1000000000)) = true by simp; omega] at this
  have z1 : s ≤ n - A := by omega
  have z3 : (s : Int) ≤ ((n - A : Nat) : Int) := by omega
  have hcA : ¬ c = A := by omega
  have g3 : Hid (∀ w' cp, Below w.heap.size w w' → Calls Try.prog 26 #[.slice (some ⟨b, off + P, none⟩) 10 cp, .int .i64 6, .int .i64 4] w' fun e w'' => e = .returned (.tuple #[.int .i64 sm, .bool true]) ∧ w'' = w') := fun w' cp hb' => by
    rw [← hsm, show gnum zs (P + 6) 4 = gnum (cutL zs P 10) 6 4 from (gnum_cut zs P 10 6 4 (by omega)).symm]; exact implGet_yes _ 10 cp _ 6 4 w' hl10 (HH.out w' hb') (by omega) (by omega) (by omega) (by omega)
  obtain ⟨C, hC⟩ : ∃ C, C = crcI (cutL zs P 6 ++ cutL zs A s) := ⟨_, rfl⟩
  have qS : Hid (∀ w', Below w.heap.size w w' → Calls Try.prog 22 #[.slice (some ⟨b, off + P, none⟩) 6 (c - P), .slice (some ⟨b, off + A, none⟩) s (c - A)] w' fun e w'' => e = .returned (.int .i64 C) ∧ Below w'.heap.size w' w'') := fun w' hb' => by
    rw [hC]
    exact frameSum_any _ 6 (c - P) (cutL zs P 6) _ s (cutL zs A s) w' (cutL_len _ _ _ (by omega)) (rd_cut (Nat.lt_of_lt_of_le hb hb'.size) hz hl (HC.out w' hb') P 6 (by omega)) (src_cut hl (HC.out w' hb') A s (c - A) (by omega)) (cutL_len _ _ _ (by omega)) (byt_cutL zs hz _ _) (by omega) (by omega)
  have bD1 : Below w.heap.size w (w.alloc (.cells #[.int .i64 0, .string ⟨#[]⟩] 28)).drew.drew := bD.drew
  have hq : (sm == C) = false := by rw [hC, hA]; simpa using h6
  have x1 : (6 : Nat) ≤ c - P := by omega
  have x3 : ¬ (((c - P : Nat) : Int) < 6) := by omega
  have x4 : ¬ (((c - A : Nat) : Int) < (s : Int)) := by omega
  have x2 : s ≤ c - A := by omega
  clear HC HH hl10 hc hl hz hs hnum hsm hA hC h6
  go_enter Try.func18, Try.ntmps18
  go_wp2_with fail
  refine (need_yes 1 _).mono ?_
  rintro e w9 ⟨rfl, rfl⟩
  go_wp2_with fail
  refine (need_yes 2 _).mono ?_
  rintro e w9 ⟨rfl, rfl⟩
  go_wp2_with fail
  refine wp_region_held_drew (S := fun w' => True) (by kernel_rfl) trivial (fun hHeld => ?_)
  refine wpAnyH_take (i := 0) (v := .slice (some ⟨b, off, none⟩) n c) rfl (by kernel_rfl) (by kernel_rfl) (by kernel_rfl) (fun _ _ _ h => h) (Or.inl ⟨by kernel_rfl, ?_⟩) (by assumption) ?_
  · intro w9 hSw; (try dsimp only at hSw); go_simp
  simp only [Act.put, List.getElem_toArray, List.getElem_cons_succ, List.getElem_cons_zero, List.setIfInBounds_toArray, List.set_cons_zero, List.set_cons_succ]
  refine wpAnyH_take (i := 1) (v := .int .i64 P) rfl (by kernel_rfl) (by kernel_rfl) (by kernel_rfl) (fun _ _ _ h => h) (Or.inl ⟨by kernel_rfl, ?_⟩) (by assumption) ?_
  · intro w9 hSw; (try dsimp only at hSw); go_simp
  simp only [Act.put, List.getElem_toArray, List.getElem_cons_succ, List.getElem_cons_zero, List.setIfInBounds_toArray, List.set_cons_zero, List.set_cons_succ]
  refine wpAnyH_take (i := 2) (v := .int .i64 P) rfl (by kernel_rfl) (by kernel_rfl) (by kernel_rfl) (fun _ _ _ h => h) (Or.inl ⟨by kernel_rfl, ?_⟩) (by assumption) ?_
  · intro w9 hSw; (try dsimp only at hSw); go_simp
  simp only [Act.put, List.getElem_toArray, List.getElem_cons_succ, List.getElem_cons_zero, List.setIfInBounds_toArray, List.set_cons_zero, List.set_cons_succ]
  refine wpAnyH_take (i := 3) (v := .int .i64 A) rfl (by kernel_rfl) (by kernel_rfl) (by kernel_rfl) (fun _ _ _ h => h) (Or.inl ⟨by kernel_rfl, ?_⟩) (by assumption) ?_
  · intro w9 hSw; (try dsimp only at hSw); go_simp
  simp only [Act.put, List.getElem_toArray, List.getElem_cons_succ, List.getElem_cons_zero, List.setIfInBounds_toArray, List.set_cons_zero, List.set_cons_succ]
  refine wpAnyH_take (i := 4) (v := .slice (some ⟨b, off + P, none⟩) 10 (c - P)) rfl (by kernel_rfl) (by kernel_rfl) (by kernel_rfl) (fun _ _ _ h => h) (Or.inl ⟨by kernel_rfl, ?_⟩) (by assumption) ?_
  · intro w9 hSw; (try dsimp only at hSw); go_simp
  simp only [Act.put, List.getElem_toArray, List.getElem_cons_succ, List.getElem_cons_zero, List.setIfInBounds_toArray, List.set_cons_zero, List.set_cons_succ]
  refine wpAnyH_take (i := 5) (v := .slice (some ⟨b, off, none⟩) n c) rfl (by kernel_rfl) (by kernel_rfl) (by kernel_rfl) (fun _ _ _ h => h) (Or.inl ⟨by kernel_rfl, ?_⟩) (by assumption) ?_
  · intro w9 hSw; (try dsimp only at hSw); go_simp
  simp only [Act.put, List.getElem_toArray, List.getElem_cons_succ, List.getElem_cons_zero, List.setIfInBounds_toArray, List.set_cons_zero, List.set_cons_succ]
  refine wpAnyH_take (i := 6) (v := .int .i64 P) rfl (by kernel_rfl) (by kernel_rfl) (by kernel_rfl) (fun _ _ _ h => h) (Or.inl ⟨by kernel_rfl, ?_⟩) (by assumption) ?_
  · intro w9 hSw; (try dsimp only at hSw); go_simp
  simp only [Act.put, List.getElem_toArray, List.getElem_cons_succ, List.getElem_cons_zero, List.setIfInBounds_toArray, List.set_cons_zero, List.set_cons_succ]
  refine wpAnyH_take (i := 7) (v := .int .i64 A) rfl (by kernel_rfl) (by kernel_rfl) (by kernel_rfl) (fun _ _ _ h => h) (Or.inl ⟨by kernel_rfl, ?_⟩) (by assumption) ?_
  · intro w9 hSw; (try dsimp only at hSw); go_simp
  simp only [Act.put, List.getElem_toArray, List.getElem_cons_succ, List.getElem_cons_zero, List.setIfInBounds_toArray, List.set_cons_zero, List.set_cons_succ]
  refine wpAnyH_take (i := 8) (v := .slice (some ⟨b, off + A, none⟩) (n - A) (c - A)) rfl (by kernel_rfl) (by kernel_rfl) (by kernel_rfl) (fun _ _ _ h => h) (Or.inl ⟨by kernel_rfl, ?_⟩) (by assumption) ?_
  · intro w9 hSw; (try dsimp only at hSw); go_simp
  simp only [Act.put, List.getElem_toArray, List.getElem_cons_succ, List.getElem_cons_zero, List.setIfInBounds_toArray, List.set_cons_zero, List.set_cons_succ]
  refine wpAnyH_take (i := 9) (v := .slice (some ⟨b, off + P, none⟩) 10 (c - P)) rfl (by kernel_rfl) (by kernel_rfl) (by kernel_rfl) (fun _ _ _ h => h) (Or.inl ⟨by kernel_rfl, ?_⟩) (by assumption) ?_
  · intro w9 hSw; (try dsimp only at hSw); go_simp
  simp only [Act.put, List.getElem_toArray, List.getElem_cons_succ, List.getElem_cons_zero, List.setIfInBounds_toArray, List.set_cons_zero, List.set_cons_succ]
  refine wpAnyH_take (i := 10) (v := .slice (some ⟨b, off + A, none⟩) (n - A) (c - A)) rfl (by kernel_rfl) (by kernel_rfl) (by kernel_rfl) (fun _ _ _ h => h) (Or.inl ⟨by kernel_rfl, ?_⟩) (by assumption) ?_
  · intro w9 hSw; (try dsimp only at hSw); go_simp
  simp only [Act.put, List.getElem_toArray, List.getElem_cons_succ, List.getElem_cons_zero, List.setIfInBounds_toArray, List.set_cons_zero, List.set_cons_succ]
  refine wpAnyH_done (by kernel_rfl) ?_ _
  go_wp2_with fail
  refine (g1.out _ _ bD).mono ?_
  rintro e w1 ⟨rfl, rfl⟩
  go_wp2_with fail
  refine (qT.out _).mono ?_
  rintro e w1 ⟨rfl, rfl⟩
  go_wp2_with fail
  refine (need_yes 3 _).mono ?_
  rintro e w9 ⟨rfl, rfl⟩
  go_wp2_with fail
  refine (need_yes 4 _).mono ?_
  rintro e w9 ⟨rfl, rfl⟩
  go_wp2_with fail
  refine (g2.out _ _ bD).mono ?_
  rintro e w1 ⟨rfl, rfl⟩
  go_wp2_with fail
  refine (qN.out _).mono ?_
  rintro e w1 ⟨rfl, rfl⟩
  go_wp2_with fail
  refine (need_yes 5 _).mono ?_
  rintro e w9 ⟨rfl, rfl⟩
  go_wp2_with fail
  refine (g3.out _ _ bD).mono ?_
  rintro e w1 ⟨rfl, rfl⟩
  go_wp2_with fail
  refine wp_region_held_drew (S := fun w' => True) (by kernel_rfl) trivial (fun hHeld => ?_)
  refine wpAnyH_take (i := 0) (v := .int .i64 sm) rfl (by kernel_rfl) (by kernel_rfl) (by kernel_rfl) (fun _ _ _ h => h) (Or.inl ⟨by kernel_rfl, ?_⟩) (by assumption) ?_
  · intro w9 hSw; (try dsimp only at hSw); go_simp
  simp only [Act.put, List.getElem_toArray, List.getElem_cons_succ, List.getElem_cons_zero, List.setIfInBounds_toArray, List.set_cons_zero, List.set_cons_succ]
  refine wpAnyH_take (i := 1) (v := .slice (some ⟨b, off + P, none⟩) 10 (c - P)) rfl (by kernel_rfl) (by kernel_rfl) (by kernel_rfl) (fun _ _ _ h => h) (Or.inl ⟨by kernel_rfl, ?_⟩) (by assumption) ?_
  · intro w9 hSw; (try dsimp only at hSw); go_simp
  simp only [Act.put, List.getElem_toArray, List.getElem_cons_succ, List.getElem_cons_zero, List.setIfInBounds_toArray, List.set_cons_zero, List.set_cons_succ]
  refine wpAnyH_take (i := 2) (v := .slice (some ⟨b, off + P, none⟩) 6 (c - P)) rfl (by kernel_rfl) (by kernel_rfl) (by kernel_rfl) (fun _ _ _ h => h) (Or.inl ⟨by kernel_rfl, ?_⟩) (by assumption) ?_
  · intro w9 hSw; (try dsimp only at hSw); go_simp
  simp only [Act.put, List.getElem_toArray, List.getElem_cons_succ, List.getElem_cons_zero, List.setIfInBounds_toArray, List.set_cons_zero, List.set_cons_succ]
  refine wpAnyH_take (i := 3) (v := .slice (some ⟨b, off + A, none⟩) (n - A) (c - A)) rfl (by kernel_rfl) (by kernel_rfl) (by kernel_rfl) (fun _ _ _ h => h) (Or.inl ⟨by kernel_rfl, ?_⟩) (by assumption) ?_
  · intro w9 hSw; (try dsimp only at hSw); go_simp
  simp only [Act.put, List.getElem_toArray, List.getElem_cons_succ, List.getElem_cons_zero, List.setIfInBounds_toArray, List.set_cons_zero, List.set_cons_succ]
  refine wpAnyH_take (i := 4) (v := .int .i64 s) rfl (by kernel_rfl) (by kernel_rfl) (by kernel_rfl) (fun _ _ _ h => h) (Or.inl ⟨by kernel_rfl, ?_⟩) (by assumption) ?_
  · intro w9 hSw; (try dsimp only at hSw); go_simp
  simp only [Act.put, List.getElem_toArray, List.getElem_cons_succ, List.getElem_cons_zero, List.setIfInBounds_toArray, List.set_cons_zero, List.set_cons_succ]
  refine wpAnyH_take (i := 5) (v := .slice (some ⟨b, off + A, none⟩) s (c - A)) rfl (by kernel_rfl) (by kernel_rfl) (by kernel_rfl) (fun _ _ _ h => h) (Or.inl ⟨by kernel_rfl, ?_⟩) (by assumption) ?_
  · intro w9 hSw; (try dsimp only at hSw); go_simp
  simp only [Act.put, List.getElem_toArray, List.getElem_cons_succ, List.getElem_cons_zero, List.setIfInBounds_toArray, List.set_cons_zero, List.set_cons_succ]
  refine wpAnyH_ready (rs := [6]) (by kernel_rfl) (by simp) ?_
  refine AllReadyH.cons rfl (fun K hK => ?_) AllReadyH.nil
  go_simp
  refine (qS.out _ bD1).mono ?_
  rintro e w5 ⟨rfl, hb5⟩
  go_wp2_with fail
  refine hK.out _ _ trivial (fun hHeld6 => ?_)
  clear hK
  refine wpAnyH_take (i := 7) (v := .bool false) rfl (by kernel_rfl) (by kernel_rfl) (by kernel_rfl) (fun _ _ _ h => h) (Or.inl ⟨by kernel_rfl, ?_⟩) (by assumption) ?_
  · intro w9 hSw; (try dsimp only at hSw); go_simp
  simp only [Act.put, List.getElem_toArray, List.getElem_cons_succ, List.getElem_cons_zero, List.setIfInBounds_toArray, List.set_cons_zero, List.set_cons_succ]
  refine wpAnyH_ready (rs := [8]) (by kernel_rfl) (by simp) ?_
  refine AllReadyH.cons rfl (fun K hK => ?_) AllReadyH.nil
  go_simp
  refine (need_no 6 _).mono ?_
  rintro e w9 ⟨rfl, rfl⟩
  have bE : Below w.heap.size w w9 := bD1.trans (hb5.mono bD1.size)
  go_wp2_with fail
  exact ⟨rfl, rfl, bE⟩

set_option maxRecDepth 100000 in
set_option maxHeartbeats 2000000 in
theorem readRf_0 (b off n c : Nat) (zs : List Int) (P s : Nat) (num : Int) (w : World) (hl : zs.length = n) (hb : b < w.heap.size) (hc : ∀ i, i < n → w.cell? ⟨b, off + i, none⟩ = some (.int .u8 (zs[i]?.getD 0))) (hz : Byt zs)
    (hcn : n ≤ c) (hcm : c ≤ maxLen) (hn : n ≤ 1048576) (hP : P + 10 ≤ n) (hs : gnum zs P 2 = (s : Int)) (hnum : gnum zs (P + 2) 4 = num) (sm : Int) (hsm : gnum zs (P + 6) 4 = sm) (h3 : ¬ s = 0) (h3' : ¬ 1000 < s) (h4 : ¬ (n : Int) - (P : Int) - 10 < (s : Int)) (h5 : ¬ num = 0) (h5' : ¬ 1000000000 < num) (h6 : sm = crcI (cutL zs P 6 ++ cutL zs (P + 10) s)) :
    Calls Try.prog 18 #[.slice (some ⟨b, off, none⟩) n c, .int .i64 (P : Int)] w fun e w' => e = .returned (.tuple #[.agg #[.int .i64 num, .string (strOfNums (cutL zs (P + 10) s))], .int .i64 ((P : Int) + 10 + (s : Int))]) ∧ Below w.heap.size w w' := by
  unfold maxLen at hcm
  have HC : Hid (∀ w', Below w.heap.size w w' → ∀ i, i < n → w'.cell? ⟨b, off + i, none⟩ = some (.int .u8 (zs[i]?.getD 0))) := fun w' hb' i hi => (hb'.cell (p := ⟨b, off + i, none⟩) hb).trans (hc i hi)
  have HH : Hid (∀ w', Below w.heap.size w w' → Rd w' (some ⟨b, off + P, none⟩) (cutL zs P 10)) := fun w' hb' => rd_cut (Nat.lt_of_lt_of_le hb hb'.size) hz hl (HC.out w' hb') P 10 (by omega)
  have hl10 : (cutL zs P 10).length = 10 := cutL_len _ _ _ (by omega)
  have g1 : Hid (∀ w' cp, Below w.heap.size w w' → Calls Try.prog 26 #[.slice (some ⟨b, off + P, none⟩) 10 cp, .int .i64 0, .int .i64 2] w' fun e w'' => e = .returned (.tuple #[.int .i64 (s : Int), .bool true]) ∧ w'' = w') := fun w' cp hb' => by
    rw [← hs, show gnum zs P 2 = gnum (cutL zs P 10) 0 2 from (gnum_cut zs P 10 0 2 (by omega)).symm]; exact implGet_yes _ 10 cp _ 0 2 w' hl10 (HH.out w' hb') (by omega) (by omega) (by omega) (by omega)
  have g2 : Hid (∀ w' cp, Below w.heap.size w w' → Calls Try.prog 26 #[.slice (some ⟨b, off + P, none⟩) 10 cp, .int .i64 2, .int .i64 4] w' fun e w'' => e = .returned (.tuple #[.int .i64 num, .bool true]) ∧ w'' = w') := fun w' cp hb' => by
    rw [← hnum, show gnum zs (P + 2) 4 = gnum (cutL zs P 10) 2 4 from (gnum_cut zs P 10 2 4 (by omega)).symm]; exact implGet_yes _ 10 cp _ 2 4 w' hl10 (HH.out w' hb') (by omega) (by omega) (by omega) (by omega)
  have hnb := gnum4_bd zs hz (P + 2)
  rw [hnum] at hnb
  obtain ⟨A, hA⟩ : ∃ A : Nat, A = P + 10 := ⟨_, rfl⟩
  have a1 : (P : Int) + 10 = (A : Int) := by omega
  have aw1 : IntKind.i64.wrap (A : Int) = (A : Int) := wrap_i64_in _ (by omega) (by omega)
  have a2 : A - P = 10 := by omega
  have a3 : A ≤ n := by omega
  have a4 : A ≤ c := by omega
  have a5 : ¬ c < A := by omega
  have a6 : P ≤ A := by omega
  have a7 : ¬ c = P := by omega
  have a8 : ¬ A = P := by omega
  have t1 : (0 : Int) ≤ (P : Int) := by omega
  have t2 : (P : Int) ≤ (n : Int) := by omega
  have t3 : (10 : Int) ≤ (n : Int) - (P : Int) := by omega
  have bW0 : Below w.heap.size w (w.alloc (.cells #[.int .i64 0, .string ⟨#[]⟩] 28)) := (Below.refl _ _).alloc (Nat.le_refl _) _
  have bD : Below w.heap.size w (w.alloc (.cells #[.int .i64 0, .string ⟨#[]⟩] 28)).drew := bW0.drew
  have qT : Hid (∀ w', Calls Try.prog 27 #[.int .i64 (s : Int)] w' fun e w'' => e = .returned (.bool true) ∧ w'' = w') := fun w' => by
    have := textSizeOk_any (s : Int) w'
    rwa [show (decide ((1 : Int) ≤ (s : Int)) && decide ((s : Int) ≤ 1000)) = true by simp; omega] at this
  have qN : Hid (∀ w', Calls Try.prog 28 #[.int .i64 num] w' fun e w'' => e = .returned (.bool true) ∧ w'' = w') := fun w' => by
    have := seqOk_any num w'
    rwa [show (decide ((1 : Int) ≤ num) && decide (num ≤ 1000000000)) = true by simp; omega] at this
  have z1 : s ≤ n - A := by omega
  have z3 : (s : Int) ≤ ((n - A : Nat) : Int) := by omega
  have hcA : ¬ c = A := by omega
  have g3 : Hid (∀ w' cp, Below w.heap.size w w' → Calls Try.prog 26 #[.slice (some ⟨b, off + P, none⟩) 10 cp, .int .i64 6, .int .i64 4] w' fun e w'' => e = .returned (.tuple #[.int .i64 sm, .bool true]) ∧ w'' = w') := fun w' cp hb' => by
    rw [← hsm, show gnum zs (P + 6) 4 = gnum (cutL zs P 10) 6 4 from (gnum_cut zs P 10 6 4 (by omega)).symm]; exact implGet_yes _ 10 cp _ 6 4 w' hl10 (HH.out w' hb') (by omega) (by omega) (by omega) (by omega)
  obtain ⟨C, hC⟩ : ∃ C, C = crcI (cutL zs P 6 ++ cutL zs A s) := ⟨_, rfl⟩
  have qS : Hid (∀ w', Below w.heap.size w w' → Calls Try.prog 22 #[.slice (some ⟨b, off + P, none⟩) 6 (c - P), .slice (some ⟨b, off + A, none⟩) s (c - A)] w' fun e w'' => e = .returned (.int .i64 C) ∧ Below w'.heap.size w' w'') := fun w' hb' => by
    rw [hC]
    exact frameSum_any _ 6 (c - P) (cutL zs P 6) _ s (cutL zs A s) w' (cutL_len _ _ _ (by omega)) (rd_cut (Nat.lt_of_lt_of_le hb hb'.size) hz hl (HC.out w' hb') P 6 (by omega)) (src_cut hl (HC.out w' hb') A s (c - A) (by omega)) (cutL_len _ _ _ (by omega)) (byt_cutL zs hz _ _) (by omega) (by omega)
  have bD1 : Below w.heap.size w (w.alloc (.cells #[.int .i64 0, .string ⟨#[]⟩] 28)).drew.drew := bD.drew
  have hq : (sm == C) = true := by rw [hC, hA]; simpa using h6
  have x1 : (6 : Nat) ≤ c - P := by omega
  have x3 : ¬ (((c - P : Nat) : Int) < 6) := by omega
  have x4 : ¬ (((c - A : Nat) : Int) < (s : Int)) := by omega
  have x2 : s ≤ c - A := by omega
  obtain ⟨tx, htx⟩ : ∃ tx, tx = strOfNums (cutL zs A s) := ⟨_, rfl⟩
  have qV : Hid (∀ w', Below w.heap.size w w' → (convert 22 9 (.slice (some ⟨b, off + A, none⟩) s (c - A))).run Try.prog w' = .ok (.string tx) w') := fun w' hb' => by rw [htx]; exact cut_conv b off n (c - A) zs A s w' (HC.out w' hb') (by omega) hl
  obtain ⟨Z, hZ⟩ : ∃ Z : Nat, Z = A + s := ⟨_, rfl⟩
  have a9 : (A : Int) + (s : Int) = (Z : Int) := by omega
  have aw9 : IntKind.i64.wrap (Z : Int) = (Z : Int) := wrap_i64_in _ (by omega) (by omega)
  rw [← hA, ← htx, a1, a9]
  have hbox : (w.alloc (.cells #[.int .i64 0, .string ⟨#[]⟩] 28)).drew.drew.heap[w.heap.size]? = some (.cells #[.int .i64 0, .string ⟨#[]⟩] 28 (0, 0)) := heap_alloc_new w _
  have zlt : w.heap.size < (w.alloc (.cells #[.int .i64 0, .string ⟨#[]⟩] 28)).drew.drew.heap.size := by simp
  have HB : Hid (∀ w', Below (w.alloc (.cells #[.int .i64 0, .string ⟨#[]⟩] 28)).drew.drew.heap.size (w.alloc (.cells #[.int .i64 0, .string ⟨#[]⟩] 28)).drew.drew w' → w'.heap[w.heap.size]? = some (.cells #[.int .i64 0, .string ⟨#[]⟩] 28 (0, 0))) := fun w' h' => (h'.block _ zlt).trans hbox
  clear HC HH hl10 hc hl hz hs hnum hsm hA hC h6 htx hZ hbox zlt
  go_enter Try.func18, Try.ntmps18
  go_wp2_with fail
  refine (need_yes 1 _).mono ?_
  rintro e w9 ⟨rfl, rfl⟩
  go_wp2_with fail
  refine (need_yes 2 _).mono ?_
  rintro e w9 ⟨rfl, rfl⟩
  go_wp2_with fail
  refine wp_region_held_drew (S := fun w' => True) (by kernel_rfl) trivial (fun hHeld => ?_)
  refine wpAnyH_take (i := 0) (v := .slice (some ⟨b, off, none⟩) n c) rfl (by kernel_rfl) (by kernel_rfl) (by kernel_rfl) (fun _ _ _ h => h) (Or.inl ⟨by kernel_rfl, ?_⟩) (by assumption) ?_
  · intro w9 hSw; (try dsimp only at hSw); go_simp
  simp only [Act.put, List.getElem_toArray, List.getElem_cons_succ, List.getElem_cons_zero, List.setIfInBounds_toArray, List.set_cons_zero, List.set_cons_succ]
  refine wpAnyH_take (i := 1) (v := .int .i64 P) rfl (by kernel_rfl) (by kernel_rfl) (by kernel_rfl) (fun _ _ _ h => h) (Or.inl ⟨by kernel_rfl, ?_⟩) (by assumption) ?_
  · intro w9 hSw; (try dsimp only at hSw); go_simp
  simp only [Act.put, List.getElem_toArray, List.getElem_cons_succ, List.getElem_cons_zero, List.setIfInBounds_toArray, List.set_cons_zero, List.set_cons_succ]
  refine wpAnyH_take (i := 2) (v := .int .i64 P) rfl (by kernel_rfl) (by kernel_rfl) (by kernel_rfl) (fun _ _ _ h => h) (Or.inl ⟨by kernel_rfl, ?_⟩) (by assumption) ?_
  · intro w9 hSw; (try dsimp only at hSw); go_simp
  simp only [Act.put, List.getElem_toArray, List.getElem_cons_succ, List.getElem_cons_zero, List.setIfInBounds_toArray, List.set_cons_zero, List.set_cons_succ]
  refine wpAnyH_take (i := 3) (v := .int .i64 A) rfl (by kernel_rfl) (by kernel_rfl) (by kernel_rfl) (fun _ _ _ h => h) (Or.inl ⟨by kernel_rfl, ?_⟩) (by assumption) ?_
  · intro w9 hSw; (try dsimp only at hSw); go_simp
  simp only [Act.put, List.getElem_toArray, List.getElem_cons_succ, List.getElem_cons_zero, List.setIfInBounds_toArray, List.set_cons_zero, List.set_cons_succ]
  refine wpAnyH_take (i := 4) (v := .slice (some ⟨b, off + P, none⟩) 10 (c - P)) rfl (by kernel_rfl) (by kernel_rfl) (by kernel_rfl) (fun _ _ _ h => h) (Or.inl ⟨by kernel_rfl, ?_⟩) (by assumption) ?_
  · intro w9 hSw; (try dsimp only at hSw); go_simp
  simp only [Act.put, List.getElem_toArray, List.getElem_cons_succ, List.getElem_cons_zero, List.setIfInBounds_toArray, List.set_cons_zero, List.set_cons_succ]
  refine wpAnyH_take (i := 5) (v := .slice (some ⟨b, off, none⟩) n c) rfl (by kernel_rfl) (by kernel_rfl) (by kernel_rfl) (fun _ _ _ h => h) (Or.inl ⟨by kernel_rfl, ?_⟩) (by assumption) ?_
  · intro w9 hSw; (try dsimp only at hSw); go_simp
  simp only [Act.put, List.getElem_toArray, List.getElem_cons_succ, List.getElem_cons_zero, List.setIfInBounds_toArray, List.set_cons_zero, List.set_cons_succ]
  refine wpAnyH_take (i := 6) (v := .int .i64 P) rfl (by kernel_rfl) (by kernel_rfl) (by kernel_rfl) (fun _ _ _ h => h) (Or.inl ⟨by kernel_rfl, ?_⟩) (by assumption) ?_
  · intro w9 hSw; (try dsimp only at hSw); go_simp
  simp only [Act.put, List.getElem_toArray, List.getElem_cons_succ, List.getElem_cons_zero, List.setIfInBounds_toArray, List.set_cons_zero, List.set_cons_succ]
  refine wpAnyH_take (i := 7) (v := .int .i64 A) rfl (by kernel_rfl) (by kernel_rfl) (by kernel_rfl) (fun _ _ _ h => h) (Or.inl ⟨by kernel_rfl, ?_⟩) (by assumption) ?_
  · intro w9 hSw; (try dsimp only at hSw); go_simp
  simp only [Act.put, List.getElem_toArray, List.getElem_cons_succ, List.getElem_cons_zero, List.setIfInBounds_toArray, List.set_cons_zero, List.set_cons_succ]
  refine wpAnyH_take (i := 8) (v := .slice (some ⟨b, off + A, none⟩) (n - A) (c - A)) rfl (by kernel_rfl) (by kernel_rfl) (by kernel_rfl) (fun _ _ _ h => h) (Or.inl ⟨by kernel_rfl, ?_⟩) (by assumption) ?_
  · intro w9 hSw; (try dsimp only at hSw); go_simp
  simp only [Act.put, List.getElem_toArray, List.getElem_cons_succ, List.getElem_cons_zero, List.setIfInBounds_toArray, List.set_cons_zero, List.set_cons_succ]
  refine wpAnyH_take (i := 9) (v := .slice (some ⟨b, off + P, none⟩) 10 (c - P)) rfl (by kernel_rfl) (by kernel_rfl) (by kernel_rfl) (fun _ _ _ h => h) (Or.inl ⟨by kernel_rfl, ?_⟩) (by assumption) ?_
  · intro w9 hSw; (try dsimp only at hSw); go_simp
  simp only [Act.put, List.getElem_toArray, List.getElem_cons_succ, List.getElem_cons_zero, List.setIfInBounds_toArray, List.set_cons_zero, List.set_cons_succ]
  refine wpAnyH_take (i := 10) (v := .slice (some ⟨b, off + A, none⟩) (n - A) (c - A)) rfl (by kernel_rfl) (by kernel_rfl) (by kernel_rfl) (fun _ _ _ h => h) (Or.inl ⟨by kernel_rfl, ?_⟩) (by assumption) ?_
  · intro w9 hSw; (try dsimp only at hSw); go_simp
  simp only [Act.put, List.getElem_toArray, List.getElem_cons_succ, List.getElem_cons_zero, List.setIfInBounds_toArray, List.set_cons_zero, List.set_cons_succ]
  refine wpAnyH_done (by kernel_rfl) ?_ _
  go_wp2_with fail
  refine (g1.out _ _ bD).mono ?_
  rintro e w1 ⟨rfl, rfl⟩
  go_wp2_with fail
  refine (qT.out _).mono ?_
  rintro e w1 ⟨rfl, rfl⟩
  go_wp2_with fail
  refine (need_yes 3 _).mono ?_
  rintro e w9 ⟨rfl, rfl⟩
  go_wp2_with fail
  refine (need_yes 4 _).mono ?_
  rintro e w9 ⟨rfl, rfl⟩
  go_wp2_with fail
  refine (g2.out _ _ bD).mono ?_
  rintro e w1 ⟨rfl, rfl⟩
  go_wp2_with fail
  refine (qN.out _).mono ?_
  rintro e w1 ⟨rfl, rfl⟩
  go_wp2_with fail
  refine (need_yes 5 _).mono ?_
  rintro e w9 ⟨rfl, rfl⟩
  go_wp2_with fail
  refine (g3.out _ _ bD).mono ?_
  rintro e w1 ⟨rfl, rfl⟩
  go_wp2_with fail
  refine wp_region_held_drew (S := fun w' => True) (by kernel_rfl) trivial (fun hHeld => ?_)
  refine wpAnyH_take (i := 0) (v := .int .i64 sm) rfl (by kernel_rfl) (by kernel_rfl) (by kernel_rfl) (fun _ _ _ h => h) (Or.inl ⟨by kernel_rfl, ?_⟩) (by assumption) ?_
  · intro w9 hSw; (try dsimp only at hSw); go_simp
  simp only [Act.put, List.getElem_toArray, List.getElem_cons_succ, List.getElem_cons_zero, List.setIfInBounds_toArray, List.set_cons_zero, List.set_cons_succ]
  refine wpAnyH_take (i := 1) (v := .slice (some ⟨b, off + P, none⟩) 10 (c - P)) rfl (by kernel_rfl) (by kernel_rfl) (by kernel_rfl) (fun _ _ _ h => h) (Or.inl ⟨by kernel_rfl, ?_⟩) (by assumption) ?_
  · intro w9 hSw; (try dsimp only at hSw); go_simp
  simp only [Act.put, List.getElem_toArray, List.getElem_cons_succ, List.getElem_cons_zero, List.setIfInBounds_toArray, List.set_cons_zero, List.set_cons_succ]
  refine wpAnyH_take (i := 2) (v := .slice (some ⟨b, off + P, none⟩) 6 (c - P)) rfl (by kernel_rfl) (by kernel_rfl) (by kernel_rfl) (fun _ _ _ h => h) (Or.inl ⟨by kernel_rfl, ?_⟩) (by assumption) ?_
  · intro w9 hSw; (try dsimp only at hSw); go_simp
  simp only [Act.put, List.getElem_toArray, List.getElem_cons_succ, List.getElem_cons_zero, List.setIfInBounds_toArray, List.set_cons_zero, List.set_cons_succ]
  refine wpAnyH_take (i := 3) (v := .slice (some ⟨b, off + A, none⟩) (n - A) (c - A)) rfl (by kernel_rfl) (by kernel_rfl) (by kernel_rfl) (fun _ _ _ h => h) (Or.inl ⟨by kernel_rfl, ?_⟩) (by assumption) ?_
  · intro w9 hSw; (try dsimp only at hSw); go_simp
  simp only [Act.put, List.getElem_toArray, List.getElem_cons_succ, List.getElem_cons_zero, List.setIfInBounds_toArray, List.set_cons_zero, List.set_cons_succ]
  refine wpAnyH_take (i := 4) (v := .int .i64 s) rfl (by kernel_rfl) (by kernel_rfl) (by kernel_rfl) (fun _ _ _ h => h) (Or.inl ⟨by kernel_rfl, ?_⟩) (by assumption) ?_
  · intro w9 hSw; (try dsimp only at hSw); go_simp
  simp only [Act.put, List.getElem_toArray, List.getElem_cons_succ, List.getElem_cons_zero, List.setIfInBounds_toArray, List.set_cons_zero, List.set_cons_succ]
  refine wpAnyH_take (i := 5) (v := .slice (some ⟨b, off + A, none⟩) s (c - A)) rfl (by kernel_rfl) (by kernel_rfl) (by kernel_rfl) (fun _ _ _ h => h) (Or.inl ⟨by kernel_rfl, ?_⟩) (by assumption) ?_
  · intro w9 hSw; (try dsimp only at hSw); go_simp
  simp only [Act.put, List.getElem_toArray, List.getElem_cons_succ, List.getElem_cons_zero, List.setIfInBounds_toArray, List.set_cons_zero, List.set_cons_succ]
  refine wpAnyH_ready (rs := [6]) (by kernel_rfl) (by simp) ?_
  refine AllReadyH.cons rfl (fun K hK => ?_) AllReadyH.nil
  go_simp
  refine (qS.out _ bD1).mono ?_
  rintro e w5 ⟨rfl, hb5⟩
  go_wp2_with fail
  refine hK.out _ _ trivial (fun hHeld6 => ?_)
  clear hK
  refine wpAnyH_take (i := 7) (v := .bool true) rfl (by kernel_rfl) (by kernel_rfl) (by kernel_rfl) (fun _ _ _ h => h) (Or.inl ⟨by kernel_rfl, ?_⟩) (by assumption) ?_
  · intro w9 hSw; (try dsimp only at hSw); go_simp
  simp only [Act.put, List.getElem_toArray, List.getElem_cons_succ, List.getElem_cons_zero, List.setIfInBounds_toArray, List.set_cons_zero, List.set_cons_succ]
  refine wpAnyH_ready (rs := [8]) (by kernel_rfl) (by simp) ?_
  refine AllReadyH.cons rfl (fun K hK => ?_) AllReadyH.nil
  go_simp
  refine (need_yes 6 _).mono ?_
  rintro e w9 ⟨rfl, rfl⟩
  go_wp2_with fail
  have hA5 := HB.out w9 hb5
  have b5 : Below w.heap.size w w9 := bD1.trans (hb5.mono bD1.size)
  have cV := qV.out w9 b5
  have u0 : w9.cell? ⟨w.heap.size, 0, none⟩ = some (.int .i64 0) := box_cell hA5 rfl
  have u1 : w9.cell? ⟨w.heap.size, 1, none⟩ = some (.string ⟨#[]⟩) := box_cell hA5 rfl
  have f0 : w9.frozen? ⟨w.heap.size, 0, none⟩ = false := box_frozen hA5
  have f1 : w9.frozen? ⟨w.heap.size, 1, none⟩ = false := box_frozen hA5
  have r0 : (w9.setCell ⟨w.heap.size, 0, none⟩ (.int .i64 num)).cell? ⟨w.heap.size, 0, none⟩ = some (.int .i64 num) := box_cell (box_set (.int .i64 num) hA5) rfl
  have r1 : ((w9.setCell ⟨w.heap.size, 0, none⟩ (.int .i64 num)).setCell ⟨w.heap.size, 1, none⟩ (.string tx)).cell? ⟨w.heap.size, 1, none⟩ = some (.string tx) := box_cell (box_set (.string tx) (box_set (.int .i64 num) hA5)) rfl
  have hws : w.heap.size < w9.heap.size := lt_heap hA5
  have bS : Below w.heap.size w ((w9.setCell ⟨w.heap.size, 0, none⟩ (.int .i64 num)).setCell ⟨w.heap.size, 1, none⟩ (.string tx)) := (b5.setCell (Nat.le_refl _) _).setCell (Nat.le_refl _) _
  clear hA5 HB qV hb5
  refine hK.out _ _ trivial (fun hHeld8 => ?_)
  clear hK
  refine wpAnyH_done (by kernel_rfl) ?_ _
  go_wp2
  (try simp only [Exit.inBlock, Exit.then])
  refine bodyPost_ret (by simp [results, Try.results18, go_sem, r0, r1]; try rfl) rfl ?_
  exact ⟨rfl, bS⟩

end Go.Proofs.Ytelbkamgcnmokaa

/- CatchI: The deferred closure of FrameRead: of a frame that gives up with a fault it makes the code; of a frame that returns it does nothing. -/
namespace Go.Proofs.Ytelbkamgcnmokaa
open Go.RowKit
set_option linter.unusedVariables false

theorem assert_fault (k : Int) (w : World) : (Instr.typeAssert (.iface 43 (.int .i64 k)) 20 43 true).run Try.prog w = .ok (.tuple #[.int .i64 k, .bool true]) w := by
  kernel_rfl

theorem assert_nil (w : World) : (Instr.typeAssert .nilIface 20 43 true).run Try.prog w = .ok (.tuple #[.int .i64 0, .bool false]) w := by
  kernel_rfl

set_option maxHeartbeats 1000000 in
theorem catch_panicking (p : Addr) (x k : Int) (older : List PanicEntry) (w : World) (hc : w.cell? p = some (.int .i64 x)) (hz : w.frozen? p = false) :
    CallsD Try.prog 17 #[.pointer (some p)] (.panicking ({ v := .iface 43 (.int .i64 k), recovered := false } :: older)) w fun e u' w' =>
      e = .returned (.tuple #[]) ∧ u' = .panicking ({ v := .iface 43 (.int .i64 k), recovered := true } :: older) ∧ w' = w.setCell p (.int .i64 k) := by
  refine callsD_of_wpS Try.func17 rfl fun c₀ cs hu => ?_
  apply wpS_seq
  apply wpS_region
  simp [wpOpsS, go_sem, recoverD, hu, Try.ntmps17, Exit.thenS, assert_fault]
  apply wpS_seq
  apply wpS_region
  simp [wpOpsS, go_sem, Exit.thenS]
  refine wpS_cond (t := true) (by simp [Act.eval, Array.replicate]) ?_
  simp only [if_true]
  apply wpS_region
  simp [wpOpsS, go_sem, hc, hz, bodyPostS, results, Try.results17, Array.replicate]

set_option maxHeartbeats 1000000 in
theorem catch_idle (p : Addr) (w : World) :
    CallsD Try.prog 17 #[.pointer (some p)] .returning w fun e u' w' => e = .returned (.tuple #[]) ∧ u' = .returning ∧ w' = w := by
  refine callsD_of_wpS Try.func17 rfl fun c₀ cs hu => ?_
  apply wpS_seq
  apply wpS_region
  simp [wpOpsS, go_sem, recoverD, hu, Try.ntmps17, Exit.thenS, assert_nil]
  apply wpS_seq
  apply wpS_region
  simp [wpOpsS, go_sem, Exit.thenS]
  refine wpS_cond (t := false) (by simp [Act.eval, Array.replicate]) ?_
  simp only [Bool.false_eq_true, if_false]
  refine wpS_of_wp (wp_skip ?_)
  cases c₀
  simp_all [bodyPostS, results, Try.results17]

end Go.Proofs.Ytelbkamgcnmokaa
