/-
  The type Entry of the laws: its shape, and what szEntry, toEntry, eqEntry and those of its slices do. By program (tygen.py).
-/
import Derived.Test.YtbjmjmammpgbmaaTyBase
import Derived.Handy
import Derived.Deep.RegionHeld3
namespace Go.Proofs.Ytbjmjmammpgbmaa
open Go.RowKit
set_option linter.unusedVariables false

def shEntry : Sh := Sh.ofL [.int, .str]

theorem open_Entry {w : World} {cs : List Value} {d : shEntry.D} (h : Reads shEntry w cs d) :
    cs = [.int .i64 (d.1), .string (d.2.1)] ∧ ByteArray.size d.2.1 ≤ maxLen := by
  obtain ⟨_, _, rfl, h0, _, _, rfl, h1, hE⟩ := h
  have e0 : _ = _ := h0
  obtain ⟨e1, l1⟩ := h1
  have eE : _ = _ := hE
  subst e0 e1 eE
  exact ⟨rfl, l1⟩

theorem own_Entry {w : World} {B : Nat} {d : shEntry.D} (l1 : ByteArray.size d.2.1 ≤ maxLen) :
    Own shEntry w B [.int .i64 (d.1), .string (d.2.1)] d ([]) := by
  exact ⟨[_], _, [], [], rfl, rfl, ⟨rfl, rfl⟩, ⟨[_], _, [], [], rfl, rfl, ⟨⟨rfl, l1⟩, rfl⟩, ⟨rfl, rfl⟩⟩⟩

theorem size_Entry : shEntry.size = 2 := rfl

theorem sz_Entry (d : shEntry.D) : shEntry.sz d = Sh.sz .str d.2.1 := by
  show 0 + (Sh.sz .str d.2.1 + (0)) = _
  omega

theorem infoEntry : (Try.prog.info? 33).map (fun i => (i.zero, i.size, i.bytes)) = some (some (.agg #[.int .i64 0, .string ByteArray.empty]), 2, 24) := by kernel_rfl

set_option maxRecDepth 100000 in
set_option maxHeartbeats 1000000 in
theorem eqEntry_any (cs1 cs2 : List Value) (d : shEntry.D) (w : World) (hr : Reads shEntry w cs1 d) (hq : Reads shEntry w cs2 d) (hs : shEntry.sz d ≤ 1048576) :
    Calls Try.prog 18 #[.agg cs1.toArray, .agg cs2.toArray] w fun e w' => e = .returned (.bool true) ∧ Below w.heap.size w w' := by
  obtain ⟨rfl, r1⟩ := open_Entry hr
  obtain ⟨rfl, _⟩ := open_Entry hq
  obtain ⟨x0, e0⟩ : ∃ x : Int, x = d.1 := ⟨_, rfl⟩
  obtain ⟨x1, e1⟩ : ∃ x : ByteArray, x = d.2.1 := ⟨_, rfl⟩

  rw [sz_Entry] at hs
  rw [← e0, ← e1]
  have ne0 : (x0 != x0) = false := by simp
  have ne1 : (x1.toList != x1.toList) = false := by simp
  clear hr hq hs r1 e0 e1
  obtain ⟨W0, hW0⟩ : ∃ W0, W0 = (w.alloc (.cells #[.int .i64 x0, .string x1] 33)).alloc (.cells #[.int .i64 x0, .string x1] 33) := ⟨_, rfl⟩
  have bW0 : Below w.heap.size w W0 := by rw [hW0]; exact ((Below.refl _ _).alloc (Nat.le_refl _) _).alloc (by simp) _
  have hA : W0.heap[w.heap.size]? = some (.cells #[.int .i64 x0, .string x1] 33 (0, 0)) := by rw [hW0, heap_alloc_old _ _ (by simp)]; exact heap_alloc_new w _
  have hB : W0.heap[w.heap.size + 1]? = some (.cells #[.int .i64 x0, .string x1] 33 (0, 0)) := by rw [hW0]; exact (by have := heap_alloc_new (w.alloc (.cells #[.int .i64 x0, .string x1] 33)) (.cells #[.int .i64 x0, .string x1] 33); simpa using this)
  have zW0 : W0.heap.size = w.heap.size + 1 + 1 := by rw [hW0]; simp
  have HW0 : Hid (W0 = _) := hW0
  have HAB : Hid (W0.heap[w.heap.size]? = some (.cells #[.int .i64 x0, .string x1] 33 (0, 0)) ∧ W0.heap[w.heap.size + 1]? = some (.cells #[.int .i64 x0, .string x1] 33 (0, 0))) := ⟨hA, hB⟩
  clear hW0 hA hB
  go_enter Try.func18, Try.ntmps18
  go_wp2
  go_ret
  exact ⟨rfl, by rw [← HW0.out]; exact bW0⟩

set_option maxRecDepth 100000 in
set_option maxHeartbeats 1000000 in
theorem eqEntryS_reads (a b : Option Addr) (n ca cb : Nat) (d : List shEntry.D) (w : World) (hr1 : Reads (.sl shEntry) w [.slice a n ca] d) (hr2 : Reads (.sl shEntry) w [.slice b n cb] d) (hs : Sh.sz (.sl shEntry) d ≤ 1048576) :
    Calls Try.prog 21 #[.slice a n ca, .slice b n cb] w fun e w' => e = .returned (.bool true) ∧ Below w.heap.size w w' := by
  obtain ⟨hl, hc1, hc2⟩ := reads_len hr1
  have hs' : n + (List.map shEntry.sz d).sum ≤ 1048576 := by rw [← hl]; exact hs
  have HS : Hid (n + (List.map shEntry.sz d).sum ≤ 1048576) := hs'
  have hn : n ≤ 1048576 := by omega
  have HR : Hid (Reads (.sl shEntry) w [.slice a n ca] d ∧ Reads (.sl shEntry) w [.slice b n cb] d) := ⟨hr1, hr2⟩
  clear hr1 hr2 hs hs' hl hc1 hc2
  have hnn : ((n : Int) != (n : Int)) = false := by simp
  go_enter Try.func21, Try.ntmps21
  go_wp2
  go_loopw [5] (fun i wr => ∃ k : Nat, k ≤ n ∧ i = .int .i64 k ∧ Below w.heap.size w wr) (fun i _ => n - (intOf i).toNat)
  case atStart => exact ⟨0, Nat.zero_le _, rfl, Below.refl _ _⟩
  case round =>
    obtain ⟨k, hk, rfl, hbel⟩ := hrel
    by_cases hlt : k < n
    · obtain ⟨b1, o1, c, x, rfl, hb1, hx, hrx, hcell⟩ := reads_elem HR.out.1 k hlt
      obtain ⟨b2, o2, c', x', rfl, hb2, hx', hrx', hcell'⟩ := reads_elem HR.out.2 k hlt
      obtain rfl : x = x' := Option.some.inj (hx.symm.trans hx')
      have hxs := sz_elem shEntry d k x hx
      have q : Hid (∀ w', Below wr.heap.size wr w' → Calls Try.prog 18 #[.agg c.toArray, .agg c'.toArray] w' fun e w'' => e = .returned (.bool true) ∧ Below w'.heap.size w' w'') := fun w' h' => eqEntry_any c c' x w' ((hrx.later hbel).later h') ((hrx'.later hbel).later h') (by have := HS.out; omega)
      obtain ⟨rfl, _⟩ := open_Entry hrx
      obtain ⟨rfl, _⟩ := open_Entry hrx'
      skip
      obtain ⟨y0, ey0⟩ : ∃ y : Int, y = x.1 := ⟨_, rfl⟩
      obtain ⟨y1, ey1⟩ : ∃ y : ByteArray, y = x.2.1 := ⟨_, rfl⟩
      have g0 : wr.cell? ⟨b1, o1 + k * 2, none⟩ = some (.int .i64 y0) := by rw [ey0]; exact (hbel.cell (p := ⟨b1, o1 + (k * 2 + 0), none⟩) hb1).trans (hcell 0 (by decide))
      have g1 : wr.cell? ⟨b1, o1 + k * 2 + 1, none⟩ = some (.string y1) := by rw [ey1]; exact (hbel.cell (p := ⟨b1, o1 + (k * 2 + 1), none⟩) hb1).trans (hcell 1 (by decide))
      have f0 : wr.cell? ⟨b2, o2 + k * 2, none⟩ = some (.int .i64 y0) := by rw [ey0]; exact (hbel.cell (p := ⟨b2, o2 + (k * 2 + 0), none⟩) hb2).trans (hcell' 0 (by decide))
      have f1 : wr.cell? ⟨b2, o2 + k * 2 + 1, none⟩ = some (.string y1) := by rw [ey1]; exact (hbel.cell (p := ⟨b2, o2 + (k * 2 + 1), none⟩) hb2).trans (hcell' 1 (by decide))
      rw [← ey0, ← ey1] at q
      have hbs := hbel.size
      have hlt' : (k : Int) < (n : Int) := by omega
      have hbb : Below wr.heap.size wr wr := Below.refl _ _
      clear hcell hrx hx hxs hcell' hrx' hx' ey0 ey1
      go_wp2_with fail
      go_region_held (fun w' => w'.cell? ⟨b1, o1 + k * 2, none⟩ = some (.int .i64 y0) ∧ w'.cell? ⟨b1, o1 + k * 2 + 1, none⟩ = some (.string y1) ∧ w'.cell? ⟨b2, o2 + k * 2, none⟩ = some (.int .i64 y0) ∧ w'.cell? ⟨b2, o2 + k * 2 + 1, none⟩ = some (.string y1))
        (first | go_keep | (refine ⟨(hb7.cell (p := ⟨b1, o1 + k * 2, none⟩) (by simp; omega)).trans ?_, (hb7.cell (p := ⟨b1, o1 + k * 2 + 1, none⟩) (by simp; omega)).trans ?_, (hb7.cell (p := ⟨b2, o2 + k * 2, none⟩) (by simp; omega)).trans ?_, (hb7.cell (p := ⟨b2, o2 + k * 2 + 1, none⟩) (by simp; omega)).trans ?_⟩ <;> assumption))
        ((go_at_call 18; refine (q.out _ (Below.drew hbb)).mono ?_; rintro e w7 ⟨rfl, hb7⟩))
      have hbel7 : Below w.heap.size w w7 := hbel.trans (((Below.drew hbb).trans (hb7.mono (by simp))).mono hbel.size)
      clear hb7
      go_wp2
      go_roundw
      case rel => exact ⟨k + 1, by omega, by go_num, hbel7⟩
      case measure => simp [intOf]; omega
    · go_wp2
      go_ret
      exact ⟨rfl, hbel⟩

end Go.Proofs.Ytbjmjmammpgbmaa
