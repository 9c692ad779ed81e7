/-
  The type Entry of the laws: its shape, and what szEntry, toEntry, eqEntry and those of its slices do. By program (tygen.py).
-/
import Derived.Test.YtdmgknmlgipnpaaTyBase
import Derived.Handy
import Derived.Deep.RegionHeld3
namespace Go.Proofs.Ytdmgknmlgipnpaa
open Go.RowKit
set_option linter.unusedVariables false

def shEntry : Sh := Sh.ofL [.int, .str]

theorem open_Entry {w : World} {cs : List Value} {d : shEntry.D} (h : Reads shEntry w cs d) :
    cs = [.int .i64 (d.1), .string (d.2.1)] ∧ ByteArray.size d.2.1 ≤ maxLen := by
  obtain ⟨_, _, rfl, h0, _, _, rfl, h1, hE⟩ := h
  have e0 : _ = _ := h0
  obtain ⟨e1, l1⟩ := h1
  have eE : _ = _ := hE
  subst e0 e1 eE
  exact ⟨rfl, l1⟩

theorem own_Entry {w : World} {B : Nat} {d : shEntry.D} (l1 : ByteArray.size d.2.1 ≤ maxLen) :
    Own shEntry w B [.int .i64 (d.1), .string (d.2.1)] d ([]) := by
  exact ⟨[_], _, [], [], rfl, rfl, ⟨rfl, rfl⟩, ⟨[_], _, [], [], rfl, rfl, ⟨⟨rfl, l1⟩, rfl⟩, ⟨rfl, rfl⟩⟩⟩

theorem size_Entry : shEntry.size = 2 := rfl

theorem sz_Entry (d : shEntry.D) : shEntry.sz d = Sh.sz .str d.2.1 := by
  show 0 + (Sh.sz .str d.2.1 + (0)) = _
  omega

set_option maxHeartbeats 1000000 in
theorem szEntry_any (cs : List Value) (d : shEntry.D) (left : Int) (w : World) (hr : Reads shEntry w cs d) (h0 : 0 ≤ left) (h1 : left ≤ 1048576) :
    Calls Try.prog 51 #[.agg cs.toArray, .int .i64 left] w fun e w' => e = .returned (.int .i64 (szAns (shEntry.sz d) left)) ∧ Below w.heap.size w w' := by
  obtain ⟨rfl, r1⟩ := open_Entry hr
  obtain ⟨x0, e0⟩ : ∃ x : Int, x = d.1 := ⟨_, rfl⟩
  obtain ⟨x1, e1⟩ : ∃ x : ByteArray, x = d.2.1 := ⟨_, rfl⟩

  rw [sz_Entry]
  obtain ⟨k1, hk1⟩ : ∃ k, k = Sh.sz .str d.2.1 := ⟨_, rfl⟩
  have hx1 : k1 = x1.size := by rw [hk1, e1]; rfl
  have hm1 : x1.size ≤ 9223372036854775807 := by rw [e1]; exact r1
  rw [← hk1]
  rw [← e0, ← e1]
  have HX1 : Hid (k1 = x1.size) := hx1
  clear hr r1 hk1 e0 e1 hx1
  obtain ⟨W0, hW0⟩ : ∃ W0, W0 = w.alloc (.cells #[.int .i64 x0, .string x1] 82) := ⟨_, rfl⟩
  have bW0 : Below w.heap.size w W0 := by rw [hW0]; exact (Below.refl _ _).alloc (Nat.le_refl _) _
  have hbox : W0.heap[w.heap.size]? = some (.cells #[.int .i64 x0, .string x1] 82 (0, 0)) := by rw [hW0]; exact heap_alloc_new w _
  have zW0 : W0.heap.size = w.heap.size + 1 := by rw [hW0]; simp
  have HW0 : Hid (W0 = _) := hW0
  have HBX : Hid _ := hbox
  clear hW0 hbox
  go_enter Try.func51, Try.ntmps51
  have HH1 := HX1.out
  by_cases t1 : (k1 : Int) ≤ left
  rotate_left
  · have E : Hid (szAns (k1) left = -1) := szAns_no (by omega)
    have u1 : (left - (x1.size : Int) < 0) := by omega
    clear HH1
    go_wp2
    go_ret
    exact ⟨by rw [E.out]; rfl, by rw [← HW0.out]; exact bW0⟩
  have u1 : ¬ (left - (x1.size : Int) < 0) := by omega
  have E : Hid (szAns (k1) left = left - (x1.size : Int)) := by show _ = _; rw [szAns_yes (by omega)]; omega
  clear HH1
  go_wp2
  go_ret
  exact ⟨by rw [E.out]; rfl, by rw [← HW0.out]; exact bW0⟩

theorem opens_Entry {H : Type} {enc : TypeId × Value → H} {w : World} {spare : Nat → Bool} {held : Bool} : Opens enc Try.prog w spare held 82 shEntry := by
  refine opens_struct [.int, .str] Try.underlying82 (by kernel_rfl) (fun i s hi => ?_)
  match i, hi with
  | 0, hi => obtain rfl := Option.some.inj hi; exact ⟨_, rfl, opens_int Try.underlying3 (by kernel_rfl), rfl⟩
  | 1, hi => obtain rfl := Option.some.inj hi; exact ⟨_, rfl, opens_str Try.underlying9 (by kernel_rfl), rfl⟩
  | n + 2, hi => simp at hi

set_option maxRecDepth 100000 in
set_option maxHeartbeats 1000000 in
theorem toEntry_any (cs : List Value) (d : shEntry.D) (w : World) (hr : Reads shEntry w cs d) (hs : shEntry.sz d ≤ 1048576) :
    Calls Try.prog 55 #[.agg cs.toArray] w fun e w' => ∃ cs' F, e = .returned (.agg cs'.toArray) ∧ Own shEntry w' w.heap.size cs' d F ∧ F.Nodup ∧ Below w.heap.size w w' := by
  obtain ⟨rfl, r1⟩ := open_Entry hr
  obtain ⟨x0, e0⟩ : ∃ x : Int, x = d.1 := ⟨_, rfl⟩
  obtain ⟨x1, e1⟩ : ∃ x : ByteArray, x = d.2.1 := ⟨_, rfl⟩

  rw [sz_Entry] at hs
  rw [← e0, ← e1]
  have HE : Hid (x0 = d.1 ∧ x1 = d.2.1 ∧ ByteArray.size d.2.1 ≤ maxLen ∧ True) := ⟨e0, e1, r1, trivial⟩
  clear hr hs r1 e0 e1
  go_enter Try.func55, Try.ntmps55
  go_wp2
  go_returns
  refine ⟨[.int .i64 x0, .string x1], [], rfl, ?_, List.nodup_nil, (((Below.refl _ _).alloc (Nat.le_refl _) _).alloc (by simp) _).alloc (by simp; omega) _⟩
  have := fun w' => own_Entry (w := w') (B := w.heap.size) (d := d) HE.out.2.2.1
  simp only [← HE.out.1, ← HE.out.2.1] at this
  exact this _

set_option maxRecDepth 100000 in
set_option maxHeartbeats 1000000 in
theorem szEntryS_any (a : Option Addr) (n cap : Nat) (d : List shEntry.D) (left : Int) (w : World) (hr : Reads (.sl shEntry) w [.slice a n cap] d) (h0 : 0 ≤ left) (h1 : left ≤ 1048576) :
    Calls Try.prog 29 #[.slice a n cap, .int .i64 left] w fun e w' => e = .returned (.int .i64 (szAns (Sh.sz (.sl shEntry) d) left)) ∧ Below w.heap.size w w' := by
  obtain ⟨hl, hc1, hc2⟩ := reads_len hr
  unfold maxLen at hc2
  obtain ⟨K, hK⟩ : ∃ K, K = (List.map shEntry.sz d).sum := ⟨_, rfl⟩
  have hs : Sh.sz (.sl shEntry) d = n + K := by rw [hK, ← hl]; rfl
  rw [hs]
  have HR : Hid (Reads (.sl shEntry) w [.slice a n cap] d) := hr
  have HK : Hid (K = (List.map shEntry.sz d).sum) := hK
  have HL : Hid (d.length = n) := hl
  clear hr hK hs hl
  by_cases h : (n : Int) ≤ left
  · have h2 : ¬ (left - (n : Int) < 0) := by omega
    go_enter Try.func29, Try.ntmps29
    go_wp2
    go_loopw [1, 5] (fun l i wr => ∃ k S : Nat, k ≤ n ∧ i = .int .i64 k ∧ l = .int .i64 (left - n - S) ∧ Hid (S = szTo shEntry d k) ∧ (n : Int) + S ≤ left ∧ Below w.heap.size w wr) (fun _ i _ => n - (intOf i).toNat)
    case atStart => exact ⟨0, 0, by omega, rfl, by simp, (szTo_zero _ _).symm, by omega, Below.refl _ _⟩
    case round =>
      obtain ⟨k, S, hk, rfl, rfl, hS, hle, hbel⟩ := hrel
      by_cases hlt : k < n
      · obtain ⟨b, off, c, x, rfl, hb, hx, hrx, hcell⟩ := reads_elem HR.out k hlt
        have Sx := szTo_succ shEntry d k x hx
        have Sle := szTo_le shEntry d (k + 1)
        obtain ⟨X, hX⟩ : ∃ X, X = shEntry.sz x := ⟨_, rfl⟩
        have q : Hid (∀ l : Int, 0 ≤ l → l ≤ 1048576 → Calls Try.prog 51 #[.agg c.toArray, .int .i64 l] wr fun e w'' => e = .returned (.int .i64 (szAns X l)) ∧ Below wr.heap.size wr w'') := fun l l0 l1 => by rw [hX]; exact szEntry_any c x l wr (hrx.later hbel) l0 l1
        have HX : Hid (szTo shEntry d (k + 1) = S + X ∧ S + X ≤ K) := ⟨by rw [Sx, hS.out, hX], by rw [HK.out, hS.out, hX, ← Sx]; exact Sle⟩
        have hXK := HX.out.2
        obtain ⟨rfl, _⟩ := open_Entry hrx
        obtain ⟨y0, ey0⟩ : ∃ y : Int, y = x.1 := ⟨_, rfl⟩
        obtain ⟨y1, ey1⟩ : ∃ y : ByteArray, y = x.2.1 := ⟨_, rfl⟩
        have g0 : wr.cell? ⟨b, off + k * 2, none⟩ = some (.int .i64 y0) := by rw [ey0]; exact (hbel.cell (p := ⟨b, off + (k * 2 + 0), none⟩) hb).trans (hcell 0 (by decide))
        have g1 : wr.cell? ⟨b, off + k * 2 + 1, none⟩ = some (.string y1) := by rw [ey1]; exact (hbel.cell (p := ⟨b, off + (k * 2 + 1), none⟩) hb).trans (hcell 1 (by decide))
        rw [← ey0, ← ey1] at q
        clear hcell hrx Sx Sle hX hx ey0 ey1
        go_wp2_with fail
        refine (q.out (left - n - S) (by omega) (by omega)).mono ?_
        rintro e w1 ⟨rfl, hb1⟩
        have hbel1 := hbel.trans (hb1.mono hbel.size)
        clear g0 g1
        by_cases t : (X : Int) ≤ left - n - S
        · rw [szAns_yes t]
          have u : ¬ (left - (n : Int) - (S : Int) - (X : Int) < 0) := by omega
          go_wp2
          go_roundw
          case rel => exact ⟨k + 1, S + X, by omega, by go_num, by congr 1; omega, HX.out.1.symm, by omega, hbel1⟩
          case measure => simp [intOf]; omega
        · rw [szAns_no t]
          have E : Hid (szAns (n + K) left = -1) := szAns_no (by omega)
          go_wp2
          go_ret
          exact ⟨by rw [E.out]; rfl, hbel1⟩
      · have e : k = n := by omega
        subst e
        have E : Hid (szAns (k + K) left = left - k - S) := by
          show _ = _
          have h3 : S = K := by rw [hS.out, HK.out]; exact szTo_all _ _ _ (by rw [HL.out]; exact Nat.le_refl _)
          rw [szAns_yes (by omega)]; omega
        go_wp2
        go_ret
        exact ⟨by rw [E.out]; rfl, hbel⟩
  · have h2 : (left - (n : Int) < 0) := by omega
    have E : Hid (szAns (n + K) left = -1) := szAns_no (by omega)
    go_enter Try.func29, Try.ntmps29
    go_wp2
    go_ret
    exact ⟨by rw [E.out]; rfl, Below.refl _ _⟩

theorem infoEntry : (Try.prog.info? 67).map (fun i => (i.zero, i.size, i.bytes)) = some (some (.agg #[.int .i64 0, .string ByteArray.empty]), 2, 24) := by kernel_rfl

set_option maxRecDepth 100000 in
set_option maxHeartbeats 1000000 in
theorem toEntryS_own (a : Option Addr) (n cap : Nat) (d : List shEntry.D) (w : World) (hr : Reads (.sl shEntry) w [.slice a n cap] d) (hs : Sh.sz (.sl shEntry) d ≤ 1048576) :
    Calls Try.prog 33 #[.slice a n cap] w fun e w' => ∃ (g : Nat) (F : List Nat), e = .returned (.slice (some ⟨g, 0, none⟩) n n) ∧ Own (.sl shEntry) w' w.heap.size [.slice (some ⟨g, 0, none⟩) n n] d F ∧ F.Nodup ∧ Below w.heap.size w w' := by
  obtain ⟨i0, hi, hz0, hz1, hz2⟩ := info_parts infoEntry
  obtain ⟨hl, hc1, hc2⟩ := reads_len hr
  have hs' : n + (List.map shEntry.sz d).sum ≤ 1048576 := by rw [← hl]; exact hs
  have HS : Hid (n + (List.map shEntry.sz d).sum ≤ 1048576) := hs'
  have hn : n ≤ 1048576 := by omega
  have HR : Hid (Reads (.sl shEntry) w [.slice a n cap] d) := hr
  have HL : Hid (d.length = n) := hl
  clear hr hs hs' hl
  unfold maxLen at hc2
  go_enter Try.func33, Try.ntmps33
  go_wp2_with (at_make; refine wpList_make_full _ rfl _ _ 27 rfl w.heap.size 67 i0 (.agg #[.int .i64 0, .string ByteArray.empty]) 2 Try.underlying27 hi hz0 hz1 _ _ _ _ n rfl rfl rfl rfl ?b2 ?b3 (Nat.le_refl _) ?_)
  case b2 => rw [hz2]; omega
  case b3 => unfold maxLen; omega
  intro w0 hown0 hgrow0
  have hb0 : Below w.heap.size w w0 := (Below.refl _ _).grown hgrow0 (Nat.le_refl _) (fun k h => by cases h)
  have hf0 : Fill shEntry 67 w0 w.heap.size w.heap.size n 0 d := by
    rcases hown0.2 with ⟨h1, _⟩ | ⟨g', cap', cur, hv, hg, hh, h1, h2, h3, h4⟩
    · simp at h1
    · simp only [Value.slice.injEq, Option.some.injEq, Addr.mk.injEq, and_true, true_and] at hv
      obtain ⟨rfl, rfl⟩ := hv
      exact Fill.zero HL.out (by unfold maxLen; omega) (Nat.le_refl _) hh h3
  clear hown0 hgrow0
  have H0 : Hid (Fill shEntry 67 w0 w.heap.size w.heap.size n 0 d ∧ Below w.heap.size w w0) := ⟨hf0, hb0⟩
  clear hf0 hb0
  go_wp2
  go_loopw [4] (fun i wr => ∃ k : Nat, k ≤ n ∧ i = .int .i64 k ∧ Hid (Fill shEntry 67 wr w.heap.size w.heap.size n k d) ∧ Below w.heap.size w wr) (fun i _ => n - (intOf i).toNat)
  case atStart => exact ⟨0, by omega, rfl, H0.out.1, H0.out.2⟩
  case round =>
    obtain ⟨k, hk, rfl, hfill, hbel⟩ := hrel
    by_cases hlt : k < n
    · obtain ⟨b, off, c, x, rfl, hb, hx, hrx, hcell⟩ := reads_elem HR.out k hlt
      have hxs := sz_elem shEntry d k x hx
      have q : Hid (Calls Try.prog 55 #[.agg c.toArray] wr fun e w' => ∃ cs' F, e = .returned (.agg cs'.toArray) ∧ Own shEntry w' wr.heap.size cs' x F ∧ F.Nodup ∧ Below wr.heap.size wr w') := toEntry_any c x wr (hrx.later hbel) (by have := HS.out; omega)
      have HX : Hid (shEntry.at d k = some x) := hx
      obtain ⟨rfl, _⟩ := open_Entry hrx
      obtain ⟨y0, ey0⟩ : ∃ y : Int, y = x.1 := ⟨_, rfl⟩
      obtain ⟨y1, ey1⟩ : ∃ y : ByteArray, y = x.2.1 := ⟨_, rfl⟩
      have g0 : wr.cell? ⟨b, off + k * 2, none⟩ = some (.int .i64 y0) := by rw [ey0]; exact (hbel.cell (p := ⟨b, off + (k * 2 + 0), none⟩) hb).trans (hcell 0 (by decide))
      have g1 : wr.cell? ⟨b, off + k * 2 + 1, none⟩ = some (.string y1) := by rw [ey1]; exact (hbel.cell (p := ⟨b, off + (k * 2 + 1), none⟩) hb).trans (hcell 1 (by decide))
      rw [← ey0, ← ey1] at q
      have HEY : Hid (y0 = x.1 ∧ y1 = x.2.1 ∧ True) := ⟨ey0, ey1, trivial⟩
      clear hcell hrx hx hxs ey0 ey1
      go_wp2_with fail
      refine q.out.mono ?_
      rintro e w1 ⟨cs', F, he, ho, hnd, hb1⟩
      obtain ⟨hcs, _⟩ := open_Entry ho.reads
      rw [← HEY.out.1, ← HEY.out.2.1] at hcs
      subst hcs
      subst he
      have hbel1 := hbel.trans (hb1.mono hbel.size)
      have hfill1 := hfill.out.later hb1
      have hsz1 := hbel1.size
      obtain ⟨⟨u0, fc0⟩, ff0⟩ := hfill1.cell (k * 2) (by show _ < n * 2; omega)
      obtain ⟨⟨u1, fc1⟩, ff1⟩ := hfill1.cell (k * 2 + 1) (by show _ < n * 2; omega)
      have HF : Hid (Own shEntry w1 wr.heap.size [.int .i64 y0, .string y1] x F ∧ F.Nodup ∧ Below wr.heap.size wr w1) := ⟨ho, hnd, hb1⟩
      clear ho hnd hb1 hfill1 q g0 g1
      go_wp2_with fail
      obtain ⟨W, hW⟩ : ∃ W, W = ((w1).setCell ⟨w.heap.size, k * 2, none⟩ (.int .i64 y0)).setCell ⟨w.heap.size, k * 2 + 1, none⟩ (.string y1) := ⟨_, rfl⟩
      have hstep : Fill shEntry 67 W w.heap.size w.heap.size n (k + 1) d := by
        refine hfill.out.step hlt HX.out HF.out.2.2 HF.out.1 HF.out.2.1 hbel.size ?_ ?_
        · intro l hh
          rw [hW]
          have := box_set (j := k * 2 + 1) (.string y1) (box_set (j := k * 2) (.int .i64 y0) hh)
          rw [this]
          simp [setRow, size_Entry]
        · intro i hi
          rw [hW]
          exact ((box_other _ hi).trans (box_other _ hi))
      have hbW : Below w.heap.size w W := by rw [hW]; exact ((hbel1.setCell (by simp <;> omega) _).setCell (by simp <;> omega) _)
      rw [← hW]
      have HH : Hid (Fill shEntry 67 W w.heap.size w.heap.size n (k + 1) d ∧ Below w.heap.size w W) := ⟨hstep, hbW⟩
      clear hW hstep hbW fc0 ff0 fc1 ff1
      go_wp2
      go_roundw
      case rel => exact ⟨k + 1, by omega, by go_num, HH.out.1, HH.out.2⟩
      case measure => simp [intOf]; omega
    · have e : k = n := by omega
      subst e
      obtain ⟨F, hF1, hF2⟩ := hfill.out.full
      have HF : Hid (Own (.sl shEntry) wr w.heap.size [.slice (some ⟨w.heap.size, 0, none⟩) k k] d F ∧ F.Nodup) := ⟨hF1, hF2⟩
      clear hF1 hF2
      go_wp2
      go_ret
      exact ⟨_, F, rfl, HF.out.1, HF.out.2, hbel⟩

set_option maxRecDepth 100000 in
set_option maxHeartbeats 1000000 in
theorem eqEntry_any (cs1 cs2 : List Value) (d : shEntry.D) (w : World) (hr : Reads shEntry w cs1 d) (hq : Reads shEntry w cs2 d) (hs : shEntry.sz d ≤ 1048576) :
    Calls Try.prog 40 #[.agg cs1.toArray, .agg cs2.toArray] w fun e w' => e = .returned (.bool true) ∧ Below w.heap.size w w' := by
  obtain ⟨rfl, r1⟩ := open_Entry hr
  obtain ⟨rfl, _⟩ := open_Entry hq
  obtain ⟨x0, e0⟩ : ∃ x : Int, x = d.1 := ⟨_, rfl⟩
  obtain ⟨x1, e1⟩ : ∃ x : ByteArray, x = d.2.1 := ⟨_, rfl⟩

  rw [sz_Entry] at hs
  rw [← e0, ← e1]
  have ne0 : (x0 != x0) = false := by simp
  have ne1 : (x1.toList != x1.toList) = false := by simp
  clear hr hq hs r1 e0 e1
  obtain ⟨W0, hW0⟩ : ∃ W0, W0 = (w.alloc (.cells #[.int .i64 x0, .string x1] 67)).alloc (.cells #[.int .i64 x0, .string x1] 67) := ⟨_, rfl⟩
  have bW0 : Below w.heap.size w W0 := by rw [hW0]; exact ((Below.refl _ _).alloc (Nat.le_refl _) _).alloc (by simp) _
  have hA : W0.heap[w.heap.size]? = some (.cells #[.int .i64 x0, .string x1] 67 (0, 0)) := by rw [hW0, heap_alloc_old _ _ (by simp)]; exact heap_alloc_new w _
  have hB : W0.heap[w.heap.size + 1]? = some (.cells #[.int .i64 x0, .string x1] 67 (0, 0)) := by rw [hW0]; exact (by have := heap_alloc_new (w.alloc (.cells #[.int .i64 x0, .string x1] 67)) (.cells #[.int .i64 x0, .string x1] 67); simpa using this)
  have zW0 : W0.heap.size = w.heap.size + 1 + 1 := by rw [hW0]; simp
  have HW0 : Hid (W0 = _) := hW0
  have HAB : Hid (W0.heap[w.heap.size]? = some (.cells #[.int .i64 x0, .string x1] 67 (0, 0)) ∧ W0.heap[w.heap.size + 1]? = some (.cells #[.int .i64 x0, .string x1] 67 (0, 0))) := ⟨hA, hB⟩
  clear hW0 hA hB
  go_enter Try.func40, Try.ntmps40
  go_wp2
  go_ret
  exact ⟨rfl, by rw [← HW0.out]; exact bW0⟩

set_option maxRecDepth 100000 in
set_option maxHeartbeats 1000000 in
theorem eqEntryS_reads (a b : Option Addr) (n ca cb : Nat) (d : List shEntry.D) (w : World) (hr1 : Reads (.sl shEntry) w [.slice a n ca] d) (hr2 : Reads (.sl shEntry) w [.slice b n cb] d) (hs : Sh.sz (.sl shEntry) d ≤ 1048576) :
    Calls Try.prog 20 #[.slice a n ca, .slice b n cb] w fun e w' => e = .returned (.bool true) ∧ Below w.heap.size w w' := by
  obtain ⟨hl, hc1, hc2⟩ := reads_len hr1
  have hs' : n + (List.map shEntry.sz d).sum ≤ 1048576 := by rw [← hl]; exact hs
  have HS : Hid (n + (List.map shEntry.sz d).sum ≤ 1048576) := hs'
  have hn : n ≤ 1048576 := by omega
  have HR : Hid (Reads (.sl shEntry) w [.slice a n ca] d ∧ Reads (.sl shEntry) w [.slice b n cb] d) := ⟨hr1, hr2⟩
  clear hr1 hr2 hs hs' hl hc1 hc2
  have hnn : ((n : Int) != (n : Int)) = false := by simp
  go_enter Try.func20, Try.ntmps20
  go_wp2
  go_loopw [5] (fun i wr => ∃ k : Nat, k ≤ n ∧ i = .int .i64 k ∧ Below w.heap.size w wr) (fun i _ => n - (intOf i).toNat)
  case atStart => exact ⟨0, Nat.zero_le _, rfl, Below.refl _ _⟩
  case round =>
    obtain ⟨k, hk, rfl, hbel⟩ := hrel
    by_cases hlt : k < n
    · obtain ⟨b1, o1, c, x, rfl, hb1, hx, hrx, hcell⟩ := reads_elem HR.out.1 k hlt
      obtain ⟨b2, o2, c', x', rfl, hb2, hx', hrx', hcell'⟩ := reads_elem HR.out.2 k hlt
      obtain rfl : x = x' := Option.some.inj (hx.symm.trans hx')
      have hxs := sz_elem shEntry d k x hx
      have q : Hid (∀ w', Below wr.heap.size wr w' → Calls Try.prog 40 #[.agg c.toArray, .agg c'.toArray] w' fun e w'' => e = .returned (.bool true) ∧ Below w'.heap.size w' w'') := fun w' h' => eqEntry_any c c' x w' ((hrx.later hbel).later h') ((hrx'.later hbel).later h') (by have := HS.out; omega)
      obtain ⟨rfl, _⟩ := open_Entry hrx
      obtain ⟨rfl, _⟩ := open_Entry hrx'
      skip
      obtain ⟨y0, ey0⟩ : ∃ y : Int, y = x.1 := ⟨_, rfl⟩
      obtain ⟨y1, ey1⟩ : ∃ y : ByteArray, y = x.2.1 := ⟨_, rfl⟩
      have g0 : wr.cell? ⟨b1, o1 + k * 2, none⟩ = some (.int .i64 y0) := by rw [ey0]; exact (hbel.cell (p := ⟨b1, o1 + (k * 2 + 0), none⟩) hb1).trans (hcell 0 (by decide))
      have g1 : wr.cell? ⟨b1, o1 + k * 2 + 1, none⟩ = some (.string y1) := by rw [ey1]; exact (hbel.cell (p := ⟨b1, o1 + (k * 2 + 1), none⟩) hb1).trans (hcell 1 (by decide))
      have f0 : wr.cell? ⟨b2, o2 + k * 2, none⟩ = some (.int .i64 y0) := by rw [ey0]; exact (hbel.cell (p := ⟨b2, o2 + (k * 2 + 0), none⟩) hb2).trans (hcell' 0 (by decide))
      have f1 : wr.cell? ⟨b2, o2 + k * 2 + 1, none⟩ = some (.string y1) := by rw [ey1]; exact (hbel.cell (p := ⟨b2, o2 + (k * 2 + 1), none⟩) hb2).trans (hcell' 1 (by decide))
      rw [← ey0, ← ey1] at q
      have hbs := hbel.size
      have hlt' : (k : Int) < (n : Int) := by omega
      have hbb : Below wr.heap.size wr wr := Below.refl _ _
      clear hcell hrx hx hxs hcell' hrx' hx' ey0 ey1
      go_wp2_with fail
      go_region_held (fun w' => w'.cell? ⟨b1, o1 + k * 2, none⟩ = some (.int .i64 y0) ∧ w'.cell? ⟨b1, o1 + k * 2 + 1, none⟩ = some (.string y1) ∧ w'.cell? ⟨b2, o2 + k * 2, none⟩ = some (.int .i64 y0) ∧ w'.cell? ⟨b2, o2 + k * 2 + 1, none⟩ = some (.string y1))
        (first | go_keep | (refine ⟨(hb7.cell (p := ⟨b1, o1 + k * 2, none⟩) (by simp; omega)).trans ?_, (hb7.cell (p := ⟨b1, o1 + k * 2 + 1, none⟩) (by simp; omega)).trans ?_, (hb7.cell (p := ⟨b2, o2 + k * 2, none⟩) (by simp; omega)).trans ?_, (hb7.cell (p := ⟨b2, o2 + k * 2 + 1, none⟩) (by simp; omega)).trans ?_⟩ <;> assumption))
        ((go_at_call 40; refine (q.out _ (Below.drew hbb)).mono ?_; rintro e w7 ⟨rfl, hb7⟩))
      have hbel7 : Below w.heap.size w w7 := hbel.trans (((Below.drew hbb).trans (hb7.mono (by simp))).mono hbel.size)
      clear hb7
      go_wp2
      go_roundw
      case rel => exact ⟨k + 1, by omega, by go_num, hbel7⟩
      case measure => simp [intOf]; omega
    · go_wp2
      go_ret
      exact ⟨rfl, hbel⟩

end Go.Proofs.Ytdmgknmlgipnpaa
