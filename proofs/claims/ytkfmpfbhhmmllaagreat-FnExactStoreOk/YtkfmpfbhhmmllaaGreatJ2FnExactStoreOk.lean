/-
  Joined: TyEntry, TyStore, OwnM, Mtx, Mk, MkB, MkEntry.
-/
import Derived.Test.YtkfmpfbhhmmllaaGreatJ0FnExactStoreOk
import Derived.Handy
import Derived.Deep.RegionHeld3
import Derived.Test.YtkfmpfbhhmmllaaGreatJ1FnExactStoreOk
import Derived.Test.YtkfmpfbhhmmllaaGreatRows
import Derived.WalkKit
import Derived.WalkSpells
import Derived.WalkLawsBesides
import Derived.Laws.BytesArg
import Derived.Deep.QuietTactic
import Derived.BigQuiet
/- TyEntry: The type Entry of the laws: its shape, and what szEntry, toEntry, eqEntry and those of its slices do. By program (tygen.py). -/
namespace Go.Proofs.YtkfmpfbhhmmllaaGreat
open Go.RowKit
set_option linter.unusedVariables false

def shEntry : Sh := Sh.ofL [.int, .str]

theorem open_Entry {w : World} {cs : List Value} {d : shEntry.D} (h : Reads shEntry w cs d) :
    cs = [.int .i64 (d.1), .string (d.2.1)] ∧ ByteArray.size d.2.1 ≤ maxLen := by
  obtain ⟨_, _, rfl, h0, _, _, rfl, h1, hE⟩ := h
  have e0 : _ = _ := h0
  obtain ⟨e1, l1⟩ := h1
  have eE : _ = _ := hE
  subst e0 e1 eE
  exact ⟨rfl, l1⟩

theorem own_Entry {w : World} {B : Nat} {d : shEntry.D} (l1 : ByteArray.size d.2.1 ≤ maxLen) :
    Own shEntry w B [.int .i64 (d.1), .string (d.2.1)] d ([]) := by
  exact ⟨[_], _, [], [], rfl, rfl, ⟨rfl, rfl⟩, ⟨[_], _, [], [], rfl, rfl, ⟨⟨rfl, l1⟩, rfl⟩, ⟨rfl, rfl⟩⟩⟩

theorem size_Entry : shEntry.size = 2 := rfl

theorem sz_Entry (d : shEntry.D) : shEntry.sz d = Sh.sz .str d.2.1 := by
  show 0 + (Sh.sz .str d.2.1 + (0)) = _
  omega

set_option maxHeartbeats 1000000 in
theorem szEntry_any (cs : List Value) (d : shEntry.D) (left : Int) (w : World) (hr : Reads shEntry w cs d) (h0 : 0 ≤ left) (h1 : left ≤ 1048576) :
    Calls Tryz.prog 46 #[.agg cs.toArray, .int .i64 left] w fun e w' => e = .returned (.int .i64 (szAns (shEntry.sz d) left)) ∧ Below w.heap.size w w' := by
  obtain ⟨rfl, r1⟩ := open_Entry hr
  obtain ⟨x0, e0⟩ : ∃ x : Int, x = d.1 := ⟨_, rfl⟩
  obtain ⟨x1, e1⟩ : ∃ x : ByteArray, x = d.2.1 := ⟨_, rfl⟩

  rw [sz_Entry]
  obtain ⟨k1, hk1⟩ : ∃ k, k = Sh.sz .str d.2.1 := ⟨_, rfl⟩
  have hx1 : k1 = x1.size := by rw [hk1, e1]; rfl
  have hm1 : x1.size ≤ 9223372036854775807 := by rw [e1]; exact r1
  rw [← hk1]
  rw [← e0, ← e1]
  have HX1 : Hid (k1 = x1.size) := hx1
  clear hr r1 hk1 e0 e1 hx1
  obtain ⟨W0, hW0⟩ : ∃ W0, W0 = w.alloc (.cells #[.int .i64 x0, .string x1] 80) := ⟨_, rfl⟩
  have bW0 : Below w.heap.size w W0 := by rw [hW0]; exact (Below.refl _ _).alloc (Nat.le_refl _) _
  have hbox : W0.heap[w.heap.size]? = some (.cells #[.int .i64 x0, .string x1] 80 (0, 0)) := by rw [hW0]; exact heap_alloc_new w _
  have zW0 : W0.heap.size = w.heap.size + 1 := by rw [hW0]; simp
  have HW0 : Hid (W0 = _) := hW0
  have HBX : Hid _ := hbox
  clear hW0 hbox
  go_enter Tryz.func46, Tryz.ntmps46
  have HH1 := HX1.out
  by_cases t1 : (k1 : Int) ≤ left
  rotate_left
  · have E : Hid (szAns (k1) left = -1) := szAns_no (by omega)
    have u1 : (left - (x1.size : Int) < 0) := by omega
    clear HH1
    go_wp2
    go_ret
    exact ⟨by rw [E.out]; rfl, by rw [← HW0.out]; exact bW0⟩
  have u1 : ¬ (left - (x1.size : Int) < 0) := by omega
  have E : Hid (szAns (k1) left = left - (x1.size : Int)) := by show _ = _; rw [szAns_yes (by omega)]; omega
  clear HH1
  go_wp2
  go_ret
  exact ⟨by rw [E.out]; rfl, by rw [← HW0.out]; exact bW0⟩

theorem opens_Entry {H : Type} {enc : TypeId × Value → H} {w : World} {spare : Nat → Bool} {held : Bool} : Opens enc Tryz.prog w spare held 80 shEntry := by
  refine opens_struct [.int, .str] Tryz.underlying80 (by kernel_rfl) (fun i s hi => ?_)
  match i, hi with
  | 0, hi => obtain rfl := Option.some.inj hi; exact ⟨_, rfl, opens_int Tryz.underlying3 (by kernel_rfl), rfl⟩
  | 1, hi => obtain rfl := Option.some.inj hi; exact ⟨_, rfl, opens_str Tryz.underlying9 (by kernel_rfl), rfl⟩
  | n + 2, hi => simp at hi

set_option maxRecDepth 100000 in
set_option maxHeartbeats 1000000 in
theorem toEntry_any (cs : List Value) (d : shEntry.D) (w : World) (hr : Reads shEntry w cs d) (hs : shEntry.sz d ≤ 1048576) :
    Calls Tryz.prog 58 #[.agg cs.toArray] w fun e w' => ∃ cs' F, e = .returned (.agg cs'.toArray) ∧ Own shEntry w' w.heap.size cs' d F ∧ F.Nodup ∧ Below w.heap.size w w' := by
  obtain ⟨rfl, r1⟩ := open_Entry hr
  obtain ⟨x0, e0⟩ : ∃ x : Int, x = d.1 := ⟨_, rfl⟩
  obtain ⟨x1, e1⟩ : ∃ x : ByteArray, x = d.2.1 := ⟨_, rfl⟩

  rw [sz_Entry] at hs
  rw [← e0, ← e1]
  have HE : Hid (x0 = d.1 ∧ x1 = d.2.1 ∧ ByteArray.size d.2.1 ≤ maxLen ∧ True) := ⟨e0, e1, r1, trivial⟩
  clear hr hs r1 e0 e1
  go_enter Tryz.func58, Tryz.ntmps58
  go_wp2
  go_returns
  refine ⟨[.int .i64 x0, .string x1], [], rfl, ?_, List.nodup_nil, (((Below.refl _ _).alloc (Nat.le_refl _) _).alloc (by simp) _).alloc (by simp; omega) _⟩
  have := fun w' => own_Entry (w := w') (B := w.heap.size) (d := d) HE.out.2.2.1
  simp only [← HE.out.1, ← HE.out.2.1] at this
  exact this _

set_option maxRecDepth 100000 in
set_option maxHeartbeats 1000000 in
theorem szEntryS_any (a : Option Addr) (n cap : Nat) (d : List shEntry.D) (left : Int) (w : World) (hr : Reads (.sl shEntry) w [.slice a n cap] d) (h0 : 0 ≤ left) (h1 : left ≤ 1048576) :
    Calls Tryz.prog 19 #[.slice a n cap, .int .i64 left] w fun e w' => e = .returned (.int .i64 (szAns (Sh.sz (.sl shEntry) d) left)) ∧ Below w.heap.size w w' := by
  obtain ⟨hl, hc1, hc2⟩ := reads_len hr
  unfold maxLen at hc2
  obtain ⟨K, hK⟩ : ∃ K, K = (List.map shEntry.sz d).sum := ⟨_, rfl⟩
  have hs : Sh.sz (.sl shEntry) d = n + K := by rw [hK, ← hl]; rfl
  rw [hs]
  have HR : Hid (Reads (.sl shEntry) w [.slice a n cap] d) := hr
  have HK : Hid (K = (List.map shEntry.sz d).sum) := hK
  have HL : Hid (d.length = n) := hl
  clear hr hK hs hl
  by_cases h : (n : Int) ≤ left
  · have h2 : ¬ (left - (n : Int) < 0) := by omega
    go_enter Tryz.func19, Tryz.ntmps19
    go_wp2
    go_loopw [1, 5] (fun l i wr => ∃ k S : Nat, k ≤ n ∧ i = .int .i64 k ∧ l = .int .i64 (left - n - S) ∧ Hid (S = szTo shEntry d k) ∧ (n : Int) + S ≤ left ∧ Below w.heap.size w wr) (fun _ i _ => n - (intOf i).toNat)
    case atStart => exact ⟨0, 0, by omega, rfl, by simp, (szTo_zero _ _).symm, by omega, Below.refl _ _⟩
    case round =>
      obtain ⟨k, S, hk, rfl, rfl, hS, hle, hbel⟩ := hrel
      by_cases hlt : k < n
      · obtain ⟨b, off, c, x, rfl, hb, hx, hrx, hcell⟩ := reads_elem HR.out k hlt
        have Sx := szTo_succ shEntry d k x hx
        have Sle := szTo_le shEntry d (k + 1)
        obtain ⟨X, hX⟩ : ∃ X, X = shEntry.sz x := ⟨_, rfl⟩
        have q : Hid (∀ l : Int, 0 ≤ l → l ≤ 1048576 → Calls Tryz.prog 46 #[.agg c.toArray, .int .i64 l] wr fun e w'' => e = .returned (.int .i64 (szAns X l)) ∧ Below wr.heap.size wr w'') := fun l l0 l1 => by rw [hX]; exact szEntry_any c x l wr (hrx.later hbel) l0 l1
        have HX : Hid (szTo shEntry d (k + 1) = S + X ∧ S + X ≤ K) := ⟨by rw [Sx, hS.out, hX], by rw [HK.out, hS.out, hX, ← Sx]; exact Sle⟩
        have hXK := HX.out.2
        obtain ⟨rfl, _⟩ := open_Entry hrx
        obtain ⟨y0, ey0⟩ : ∃ y : Int, y = x.1 := ⟨_, rfl⟩
        obtain ⟨y1, ey1⟩ : ∃ y : ByteArray, y = x.2.1 := ⟨_, rfl⟩
        have g0 : wr.cell? ⟨b, off + k * 2, none⟩ = some (.int .i64 y0) := by rw [ey0]; exact (hbel.cell (p := ⟨b, off + (k * 2 + 0), none⟩) hb).trans (hcell 0 (by decide))
        have g1 : wr.cell? ⟨b, off + k * 2 + 1, none⟩ = some (.string y1) := by rw [ey1]; exact (hbel.cell (p := ⟨b, off + (k * 2 + 1), none⟩) hb).trans (hcell 1 (by decide))
        rw [← ey0, ← ey1] at q
        clear hcell hrx Sx Sle hX hx ey0 ey1
        go_wp2_with fail
        refine (q.out (left - n - S) (by omega) (by omega)).mono ?_
        rintro e w1 ⟨rfl, hb1⟩
        have hbel1 := hbel.trans (hb1.mono hbel.size)
        clear g0 g1
        by_cases t : (X : Int) ≤ left - n - S
        · rw [szAns_yes t]
          have u : ¬ (left - (n : Int) - (S : Int) - (X : Int) < 0) := by omega
          go_wp2
          go_roundw
          case rel => exact ⟨k + 1, S + X, by omega, by go_num, by congr 1; omega, HX.out.1.symm, by omega, hbel1⟩
          case measure => simp [intOf]; omega
        · rw [szAns_no t]
          have E : Hid (szAns (n + K) left = -1) := szAns_no (by omega)
          go_wp2
          go_ret
          exact ⟨by rw [E.out]; rfl, hbel1⟩
      · have e : k = n := by omega
        subst e
        have E : Hid (szAns (k + K) left = left - k - S) := by
          show _ = _
          have h3 : S = K := by rw [hS.out, HK.out]; exact szTo_all _ _ _ (by rw [HL.out]; exact Nat.le_refl _)
          rw [szAns_yes (by omega)]; omega
        go_wp2
        go_ret
        exact ⟨by rw [E.out]; rfl, hbel⟩
  · have h2 : (left - (n : Int) < 0) := by omega
    have E : Hid (szAns (n + K) left = -1) := szAns_no (by omega)
    go_enter Tryz.func19, Tryz.ntmps19
    go_wp2
    go_ret
    exact ⟨by rw [E.out]; rfl, Below.refl _ _⟩

theorem infoEntry : (Tryz.prog.info? 71).map (fun i => (i.zero, i.size, i.bytes)) = some (some (.agg #[.int .i64 0, .string ByteArray.empty]), 2, 24) := by kernel_rfl

set_option maxRecDepth 100000 in
set_option maxHeartbeats 1000000 in
theorem toEntryS_own (a : Option Addr) (n cap : Nat) (d : List shEntry.D) (w : World) (hr : Reads (.sl shEntry) w [.slice a n cap] d) (hs : Sh.sz (.sl shEntry) d ≤ 1048576) :
    Calls Tryz.prog 25 #[.slice a n cap] w fun e w' => ∃ (g : Nat) (F : List Nat), e = .returned (.slice (some ⟨g, 0, none⟩) n n) ∧ Own (.sl shEntry) w' w.heap.size [.slice (some ⟨g, 0, none⟩) n n] d F ∧ F.Nodup ∧ Below w.heap.size w w' := by
  obtain ⟨i0, hi, hz0, hz1, hz2⟩ := info_parts infoEntry
  obtain ⟨hl, hc1, hc2⟩ := reads_len hr
  have hs' : n + (List.map shEntry.sz d).sum ≤ 1048576 := by rw [← hl]; exact hs
  have HS : Hid (n + (List.map shEntry.sz d).sum ≤ 1048576) := hs'
  have hn : n ≤ 1048576 := by omega
  have HR : Hid (Reads (.sl shEntry) w [.slice a n cap] d) := hr
  have HL : Hid (d.length = n) := hl
  clear hr hs hs' hl
  unfold maxLen at hc2
  go_enter Tryz.func25, Tryz.ntmps25
  go_wp2_with (at_make; refine wpList_make_full _ rfl _ _ 37 rfl w.heap.size 71 i0 (.agg #[.int .i64 0, .string ByteArray.empty]) 2 Tryz.underlying37 hi hz0 hz1 _ _ _ _ n rfl rfl rfl rfl ?b2 ?b3 (Nat.le_refl _) ?_)
  case b2 => rw [hz2]; omega
  case b3 => unfold maxLen; omega
  intro w0 hown0 hgrow0
  have hb0 : Below w.heap.size w w0 := (Below.refl _ _).grown hgrow0 (Nat.le_refl _) (fun k h => by cases h)
  have hf0 : Fill shEntry 71 w0 w.heap.size w.heap.size n 0 d := by
    rcases hown0.2 with ⟨h1, _⟩ | ⟨g', cap', cur, hv, hg, hh, h1, h2, h3, h4⟩
    · simp at h1
    · simp only [Value.slice.injEq, Option.some.injEq, Addr.mk.injEq, and_true, true_and] at hv
      obtain ⟨rfl, rfl⟩ := hv
      exact Fill.zero HL.out (by unfold maxLen; omega) (Nat.le_refl _) hh h3
  clear hown0 hgrow0
  have H0 : Hid (Fill shEntry 71 w0 w.heap.size w.heap.size n 0 d ∧ Below w.heap.size w w0) := ⟨hf0, hb0⟩
  clear hf0 hb0
  go_wp2
  go_loopw [4] (fun i wr => ∃ k : Nat, k ≤ n ∧ i = .int .i64 k ∧ Hid (Fill shEntry 71 wr w.heap.size w.heap.size n k d) ∧ Below w.heap.size w wr) (fun i _ => n - (intOf i).toNat)
  case atStart => exact ⟨0, by omega, rfl, H0.out.1, H0.out.2⟩
  case round =>
    obtain ⟨k, hk, rfl, hfill, hbel⟩ := hrel
    by_cases hlt : k < n
    · obtain ⟨b, off, c, x, rfl, hb, hx, hrx, hcell⟩ := reads_elem HR.out k hlt
      have hxs := sz_elem shEntry d k x hx
      have q : Hid (Calls Tryz.prog 58 #[.agg c.toArray] wr fun e w' => ∃ cs' F, e = .returned (.agg cs'.toArray) ∧ Own shEntry w' wr.heap.size cs' x F ∧ F.Nodup ∧ Below wr.heap.size wr w') := toEntry_any c x wr (hrx.later hbel) (by have := HS.out; omega)
      have HX : Hid (shEntry.at d k = some x) := hx
      obtain ⟨rfl, _⟩ := open_Entry hrx
      obtain ⟨y0, ey0⟩ : ∃ y : Int, y = x.1 := ⟨_, rfl⟩
      obtain ⟨y1, ey1⟩ : ∃ y : ByteArray, y = x.2.1 := ⟨_, rfl⟩
      have g0 : wr.cell? ⟨b, off + k * 2, none⟩ = some (.int .i64 y0) := by rw [ey0]; exact (hbel.cell (p := ⟨b, off + (k * 2 + 0), none⟩) hb).trans (hcell 0 (by decide))
      have g1 : wr.cell? ⟨b, off + k * 2 + 1, none⟩ = some (.string y1) := by rw [ey1]; exact (hbel.cell (p := ⟨b, off + (k * 2 + 1), none⟩) hb).trans (hcell 1 (by decide))
      rw [← ey0, ← ey1] at q
      have HEY : Hid (y0 = x.1 ∧ y1 = x.2.1 ∧ True) := ⟨ey0, ey1, trivial⟩
      clear hcell hrx hx hxs ey0 ey1
      go_wp2_with fail
      refine q.out.mono ?_
      rintro e w1 ⟨cs', F, he, ho, hnd, hb1⟩
      obtain ⟨hcs, _⟩ := open_Entry ho.reads
      rw [← HEY.out.1, ← HEY.out.2.1] at hcs
      subst hcs
      subst he
      have hbel1 := hbel.trans (hb1.mono hbel.size)
      have hfill1 := hfill.out.later hb1
      have hsz1 := hbel1.size
      obtain ⟨⟨u0, fc0⟩, ff0⟩ := hfill1.cell (k * 2) (by show _ < n * 2; omega)
      obtain ⟨⟨u1, fc1⟩, ff1⟩ := hfill1.cell (k * 2 + 1) (by show _ < n * 2; omega)
      have HF : Hid (Own shEntry w1 wr.heap.size [.int .i64 y0, .string y1] x F ∧ F.Nodup ∧ Below wr.heap.size wr w1) := ⟨ho, hnd, hb1⟩
      clear ho hnd hb1 hfill1 q g0 g1
      go_wp2_with fail
      obtain ⟨W, hW⟩ : ∃ W, W = ((w1).setCell ⟨w.heap.size, k * 2, none⟩ (.int .i64 y0)).setCell ⟨w.heap.size, k * 2 + 1, none⟩ (.string y1) := ⟨_, rfl⟩
      have hstep : Fill shEntry 71 W w.heap.size w.heap.size n (k + 1) d := by
        refine hfill.out.step hlt HX.out HF.out.2.2 HF.out.1 HF.out.2.1 hbel.size ?_ ?_
        · intro l hh
          rw [hW]
          have := box_set (j := k * 2 + 1) (.string y1) (box_set (j := k * 2) (.int .i64 y0) hh)
          rw [this]
          simp [setRow, size_Entry]
        · intro i hi
          rw [hW]
          exact ((box_other _ hi).trans (box_other _ hi))
      have hbW : Below w.heap.size w W := by rw [hW]; exact ((hbel1.setCell (by simp <;> omega) _).setCell (by simp <;> omega) _)
      rw [← hW]
      have HH : Hid (Fill shEntry 71 W w.heap.size w.heap.size n (k + 1) d ∧ Below w.heap.size w W) := ⟨hstep, hbW⟩
      clear hW hstep hbW fc0 ff0 fc1 ff1
      go_wp2
      go_roundw
      case rel => exact ⟨k + 1, by omega, by go_num, HH.out.1, HH.out.2⟩
      case measure => simp [intOf]; omega
    · have e : k = n := by omega
      subst e
      obtain ⟨F, hF1, hF2⟩ := hfill.out.full
      have HF : Hid (Own (.sl shEntry) wr w.heap.size [.slice (some ⟨w.heap.size, 0, none⟩) k k] d F ∧ F.Nodup) := ⟨hF1, hF2⟩
      clear hF1 hF2
      go_wp2
      go_ret
      exact ⟨_, F, rfl, HF.out.1, HF.out.2, hbel⟩

set_option maxRecDepth 100000 in
set_option maxHeartbeats 1000000 in
theorem eqEntry_any (cs1 cs2 : List Value) (d : shEntry.D) (w : World) (hr : Reads shEntry w cs1 d) (hq : Reads shEntry w cs2 d) (hs : shEntry.sz d ≤ 1048576) :
    Calls Tryz.prog 38 #[.agg cs1.toArray, .agg cs2.toArray] w fun e w' => e = .returned (.bool true) ∧ Below w.heap.size w w' := by
  obtain ⟨rfl, r1⟩ := open_Entry hr
  obtain ⟨rfl, _⟩ := open_Entry hq
  obtain ⟨x0, e0⟩ : ∃ x : Int, x = d.1 := ⟨_, rfl⟩
  obtain ⟨x1, e1⟩ : ∃ x : ByteArray, x = d.2.1 := ⟨_, rfl⟩

  rw [sz_Entry] at hs
  rw [← e0, ← e1]
  have ne0 : (x0 != x0) = false := by simp
  have ne1 : (x1.toList != x1.toList) = false := by simp
  clear hr hq hs r1 e0 e1
  obtain ⟨W0, hW0⟩ : ∃ W0, W0 = (w.alloc (.cells #[.int .i64 x0, .string x1] 71)).alloc (.cells #[.int .i64 x0, .string x1] 71) := ⟨_, rfl⟩
  have bW0 : Below w.heap.size w W0 := by rw [hW0]; exact ((Below.refl _ _).alloc (Nat.le_refl _) _).alloc (by simp) _
  have hA : W0.heap[w.heap.size]? = some (.cells #[.int .i64 x0, .string x1] 71 (0, 0)) := by rw [hW0, heap_alloc_old _ _ (by simp)]; exact heap_alloc_new w _
  have hB : W0.heap[w.heap.size + 1]? = some (.cells #[.int .i64 x0, .string x1] 71 (0, 0)) := by rw [hW0]; exact (by have := heap_alloc_new (w.alloc (.cells #[.int .i64 x0, .string x1] 71)) (.cells #[.int .i64 x0, .string x1] 71); simpa using this)
  have zW0 : W0.heap.size = w.heap.size + 1 + 1 := by rw [hW0]; simp
  have HW0 : Hid (W0 = _) := hW0
  have HAB : Hid (W0.heap[w.heap.size]? = some (.cells #[.int .i64 x0, .string x1] 71 (0, 0)) ∧ W0.heap[w.heap.size + 1]? = some (.cells #[.int .i64 x0, .string x1] 71 (0, 0))) := ⟨hA, hB⟩
  clear hW0 hA hB
  go_enter Tryz.func38, Tryz.ntmps38
  go_wp2
  go_ret
  exact ⟨rfl, by rw [← HW0.out]; exact bW0⟩

set_option maxRecDepth 100000 in
set_option maxHeartbeats 1000000 in
theorem eqEntryS_reads (a b : Option Addr) (n ca cb : Nat) (d : List shEntry.D) (w : World) (hr1 : Reads (.sl shEntry) w [.slice a n ca] d) (hr2 : Reads (.sl shEntry) w [.slice b n cb] d) (hs : Sh.sz (.sl shEntry) d ≤ 1048576) :
    Calls Tryz.prog 14 #[.slice a n ca, .slice b n cb] w fun e w' => e = .returned (.bool true) ∧ Below w.heap.size w w' := by
  obtain ⟨hl, hc1, hc2⟩ := reads_len hr1
  have hs' : n + (List.map shEntry.sz d).sum ≤ 1048576 := by rw [← hl]; exact hs
  have HS : Hid (n + (List.map shEntry.sz d).sum ≤ 1048576) := hs'
  have hn : n ≤ 1048576 := by omega
  have HR : Hid (Reads (.sl shEntry) w [.slice a n ca] d ∧ Reads (.sl shEntry) w [.slice b n cb] d) := ⟨hr1, hr2⟩
  clear hr1 hr2 hs hs' hl hc1 hc2
  have hnn : ((n : Int) != (n : Int)) = false := by simp
  go_enter Tryz.func14, Tryz.ntmps14
  go_wp2
  go_loopw [5] (fun i wr => ∃ k : Nat, k ≤ n ∧ i = .int .i64 k ∧ Below w.heap.size w wr) (fun i _ => n - (intOf i).toNat)
  case atStart => exact ⟨0, Nat.zero_le _, rfl, Below.refl _ _⟩
  case round =>
    obtain ⟨k, hk, rfl, hbel⟩ := hrel
    by_cases hlt : k < n
    · obtain ⟨b1, o1, c, x, rfl, hb1, hx, hrx, hcell⟩ := reads_elem HR.out.1 k hlt
      obtain ⟨b2, o2, c', x', rfl, hb2, hx', hrx', hcell'⟩ := reads_elem HR.out.2 k hlt
      obtain rfl : x = x' := Option.some.inj (hx.symm.trans hx')
      have hxs := sz_elem shEntry d k x hx
      have q : Hid (∀ w', Below wr.heap.size wr w' → Calls Tryz.prog 38 #[.agg c.toArray, .agg c'.toArray] w' fun e w'' => e = .returned (.bool true) ∧ Below w'.heap.size w' w'') := fun w' h' => eqEntry_any c c' x w' ((hrx.later hbel).later h') ((hrx'.later hbel).later h') (by have := HS.out; omega)
      obtain ⟨rfl, _⟩ := open_Entry hrx
      obtain ⟨rfl, _⟩ := open_Entry hrx'
      skip
      obtain ⟨y0, ey0⟩ : ∃ y : Int, y = x.1 := ⟨_, rfl⟩
      obtain ⟨y1, ey1⟩ : ∃ y : ByteArray, y = x.2.1 := ⟨_, rfl⟩
      have g0 : wr.cell? ⟨b1, o1 + k * 2, none⟩ = some (.int .i64 y0) := by rw [ey0]; exact (hbel.cell (p := ⟨b1, o1 + (k * 2 + 0), none⟩) hb1).trans (hcell 0 (by decide))
      have g1 : wr.cell? ⟨b1, o1 + k * 2 + 1, none⟩ = some (.string y1) := by rw [ey1]; exact (hbel.cell (p := ⟨b1, o1 + (k * 2 + 1), none⟩) hb1).trans (hcell 1 (by decide))
      have f0 : wr.cell? ⟨b2, o2 + k * 2, none⟩ = some (.int .i64 y0) := by rw [ey0]; exact (hbel.cell (p := ⟨b2, o2 + (k * 2 + 0), none⟩) hb2).trans (hcell' 0 (by decide))
      have f1 : wr.cell? ⟨b2, o2 + k * 2 + 1, none⟩ = some (.string y1) := by rw [ey1]; exact (hbel.cell (p := ⟨b2, o2 + (k * 2 + 1), none⟩) hb2).trans (hcell' 1 (by decide))
      rw [← ey0, ← ey1] at q
      have hbs := hbel.size
      have hlt' : (k : Int) < (n : Int) := by omega
      have hbb : Below wr.heap.size wr wr := Below.refl _ _
      clear hcell hrx hx hxs hcell' hrx' hx' ey0 ey1
      go_wp2_with fail
      go_region_held (fun w' => w'.cell? ⟨b1, o1 + k * 2, none⟩ = some (.int .i64 y0) ∧ w'.cell? ⟨b1, o1 + k * 2 + 1, none⟩ = some (.string y1) ∧ w'.cell? ⟨b2, o2 + k * 2, none⟩ = some (.int .i64 y0) ∧ w'.cell? ⟨b2, o2 + k * 2 + 1, none⟩ = some (.string y1))
        (first | go_keep | (refine ⟨(hb7.cell (p := ⟨b1, o1 + k * 2, none⟩) (by simp; omega)).trans ?_, (hb7.cell (p := ⟨b1, o1 + k * 2 + 1, none⟩) (by simp; omega)).trans ?_, (hb7.cell (p := ⟨b2, o2 + k * 2, none⟩) (by simp; omega)).trans ?_, (hb7.cell (p := ⟨b2, o2 + k * 2 + 1, none⟩) (by simp; omega)).trans ?_⟩ <;> assumption))
        ((go_at_call 38; refine (q.out _ (Below.drew hbb)).mono ?_; rintro e w7 ⟨rfl, hb7⟩))
      have hbel7 : Below w.heap.size w w7 := hbel.trans (((Below.drew hbb).trans (hb7.mono (by simp))).mono hbel.size)
      clear hb7
      go_wp2
      go_roundw
      case rel => exact ⟨k + 1, by omega, by go_num, hbel7⟩
      case measure => simp [intOf]; omega
    · go_wp2
      go_ret
      exact ⟨rfl, hbel⟩

end Go.Proofs.YtkfmpfbhhmmllaaGreat

/- TyStore: The type Store of the laws, which has structs among its fields: its shape, and what szStore, toStore, eqStore do. By program (tygen2.py). -/
namespace Go.Proofs.YtkfmpfbhhmmllaaGreat
open Go.RowKit
set_option linter.unusedVariables false
set_option maxRecDepth 100000

def shStore : Sh := Sh.ofL [shDisk, .int, .int, (.sl shEntry), .int]

theorem open_Store {w : World} {cs : List Value} {d : shStore.D} (h : Reads shStore w cs d) :
    ∃ a3 n3 c3 a4 n4 c4 a5 n5 c5 a8 n8 c8, cs = [.int .i64 (d.1.1), .int .i64 (d.1.2.1), .int .i64 (d.1.2.2.1), .slice a3 n3 c3, .slice a4 n4 c4, .slice a5 n5 c5, .int .i64 (d.2.1), .int .i64 (d.2.2.1), .slice a8 n8 c8, .int .i64 (d.2.2.2.2.1)] ∧ Reads shDisk w [.int .i64 (d.1.1), .int .i64 (d.1.2.1), .int .i64 (d.1.2.2.1), .slice a3 n3 c3, .slice a4 n4 c4, .slice a5 n5 c5] d.1 ∧ Reads (.sl shEntry) w [.slice a8 n8 c8] d.2.2.2.1 := by
  obtain ⟨_, _, rfl, h0, _, _, rfl, h1, _, _, rfl, h2, _, _, rfl, h3, _, _, rfl, h4, hE⟩ := h
  have g0 := h0
  obtain ⟨a3, n3, c3, a4, n4, c4, a5, n5, c5, e0, _⟩ := open_Disk g0
  have e1 : _ = _ := h1
  have e2 : _ = _ := h2
  have g3 := h3
  obtain ⟨a8, c8, e3, _⟩ := g3
  have e4 : _ = _ := h4
  have eE : _ = _ := hE
  subst e0 e1 e2 e3 e4 eE
  exact ⟨a3, n3, c3, a4, n4, c4, a5, n5, c5, a8, _, c8, rfl, h0, h3⟩

theorem own_Store {w : World} {B : Nat} {d : shStore.D} {v3 : Value} {v4 : Value} {v5 : Value} {F0 : List Nat} {v8 : Value} {F3 : List Nat} (o0 : Own shDisk w B [.int .i64 (d.1.1), .int .i64 (d.1.2.1), .int .i64 (d.1.2.2.1), v3, v4, v5] d.1 F0) (o3 : Own (.sl shEntry) w B [v8] d.2.2.2.1 F3) :
    Own shStore w B [.int .i64 (d.1.1), .int .i64 (d.1.2.1), .int .i64 (d.1.2.2.1), v3, v4, v5, .int .i64 (d.2.1), .int .i64 (d.2.2.1), v8, .int .i64 (d.2.2.2.2.1)] d (F0 ++ (F3 ++ ([]))) := by
  exact ⟨[_, _, _, _, _, _], _, F0, F3 ++ ([]), rfl, rfl, o0, ⟨[_], _, [], F3 ++ ([]), rfl, rfl, ⟨rfl, rfl⟩, ⟨[_], _, [], F3 ++ ([]), rfl, rfl, ⟨rfl, rfl⟩, ⟨[_], _, F3, [], rfl, rfl, o3, ⟨[_], _, [], [], rfl, rfl, ⟨rfl, rfl⟩, ⟨rfl, rfl⟩⟩⟩⟩⟩⟩

theorem size_Store : shStore.size = 10 := rfl

theorem sz_Store (d : shStore.D) : shStore.sz d = Sh.sz shDisk d.1 + Sh.sz (.sl shEntry) d.2.2.2.1 := by
  show Sh.sz shDisk d.1 + (0 + (0 + (Sh.sz (.sl shEntry) d.2.2.2.1 + (0 + (0))))) = _
  omega

set_option maxHeartbeats 2000000 in
theorem szStore_any (cs : List Value) (d : shStore.D) (left : Int) (w : World) (hr : Reads shStore w cs d) (h0 : 0 ≤ left) (h1 : left ≤ 1048576) :
    Calls Tryz.prog 5 #[.agg cs.toArray, .int .i64 left] w fun e w' => e = .returned (.int .i64 (szAns (shStore.sz d) left)) ∧ Below w.heap.size w w' := by
  obtain ⟨a3, n3, c3, a4, n4, c4, a5, n5, c5, a8, n8, c8, rfl, r0, r3⟩ := open_Store hr
  obtain ⟨x0, e0⟩ : ∃ x : Int, x = d.1.1 := ⟨_, rfl⟩
  obtain ⟨x1, e1⟩ : ∃ x : Int, x = d.1.2.1 := ⟨_, rfl⟩
  obtain ⟨x2, e2⟩ : ∃ x : Int, x = d.1.2.2.1 := ⟨_, rfl⟩
  obtain ⟨x6, e6⟩ : ∃ x : Int, x = d.2.1 := ⟨_, rfl⟩
  obtain ⟨x7, e7⟩ : ∃ x : Int, x = d.2.2.1 := ⟨_, rfl⟩
  obtain ⟨x9, e9⟩ : ∃ x : Int, x = d.2.2.2.2.1 := ⟨_, rfl⟩
  rw [sz_Store]
  obtain ⟨k0, hk0⟩ : ∃ k, k = Sh.sz shDisk d.1 := ⟨_, rfl⟩
  have q0 : Hid (∀ w', Below w.heap.size w w' → ∀ l : Int, 0 ≤ l → l ≤ 1048576 → Calls Tryz.prog 10 #[.agg #[.int .i64 x0, .int .i64 x1, .int .i64 x2, .slice a3 n3 c3, .slice a4 n4 c4, .slice a5 n5 c5], .int .i64 l] w' fun e w'' => e = .returned (.int .i64 (szAns k0 l)) ∧ Below w'.heap.size w' w'') := fun w' hb l l0 l1 => by rw [hk0, e0, e1, e2]; exact szDisk_any _ _ l w' (r0.later hb) l0 l1
  obtain ⟨k3, hk3⟩ : ∃ k, k = Sh.sz (.sl shEntry) d.2.2.2.1 := ⟨_, rfl⟩
  have q3 : Hid (∀ w', Below w.heap.size w w' → ∀ l : Int, 0 ≤ l → l ≤ 1048576 → Calls Tryz.prog 19 #[.slice a8 n8 c8, .int .i64 l] w' fun e w'' => e = .returned (.int .i64 (szAns k3 l)) ∧ Below w'.heap.size w' w'') := fun w' hb l l0 l1 => by rw [hk3]; exact szEntryS_any a8 n8 c8 _ l w' (r3.later hb) l0 l1
  rw [← hk0, ← hk3]
  rw [← e0, ← e1, ← e2, ← e6, ← e7, ← e9]
  clear hr r0 hk0 r3 hk3 e0 e1 e2 e6 e7 e9
  obtain ⟨W0, hW0⟩ : ∃ W0, W0 = w.alloc (.cells #[.int .i64 x0, .int .i64 x1, .int .i64 x2, .slice a3 n3 c3, .slice a4 n4 c4, .slice a5 n5 c5, .int .i64 x6, .int .i64 x7, .slice a8 n8 c8, .int .i64 x9] 29) := ⟨_, rfl⟩
  have bW0 : Below w.heap.size w W0 := by rw [hW0]; exact (Below.refl _ _).alloc (Nat.le_refl _) _
  have hbox : W0.heap[w.heap.size]? = some (.cells #[.int .i64 x0, .int .i64 x1, .int .i64 x2, .slice a3 n3 c3, .slice a4 n4 c4, .slice a5 n5 c5, .int .i64 x6, .int .i64 x7, .slice a8 n8 c8, .int .i64 x9] 29 (0, 0)) := by rw [hW0]; exact heap_alloc_new w _
  have zW0 : W0.heap.size = w.heap.size + 1 := by rw [hW0]; simp
  have HW0 : Hid (W0 = _) := hW0
  have HBX : Hid _ := hbox
  clear hW0 hbox
  go_enter Tryz.func5, Tryz.ntmps5
  go_wp2_with fail
  rw [← HW0.out]
  refine (q0.out _ bW0 (left) (by omega) (by omega)).mono ?_
  rintro e w0 ⟨rfl, hb0⟩
  have b0 := bW0.trans (hb0.mono bW0.size)
  have i0 : w0.heap[w.heap.size]? = _ := (hb0.block _ (by rw [zW0]; omega)).trans HBX.out
  have z0 := hb0.size
  rw [zW0] at z0
  have y0_6 : w0.cell? ⟨w.heap.size, 6, none⟩ = some (.int .i64 x6) := box_cell i0 rfl
  have y0_7 : w0.cell? ⟨w.heap.size, 7, none⟩ = some (.int .i64 x7) := box_cell i0 rfl
  have y0_8 : w0.cell? ⟨w.heap.size, 8, none⟩ = some (.slice a8 n8 c8) := box_cell i0 rfl
  have y0_9 : w0.cell? ⟨w.heap.size, 9, none⟩ = some (.int .i64 x9) := box_cell i0 rfl
  have I0 : Hid _ := i0
  clear i0 hb0
  by_cases t0 : (k0 : Int) ≤ left
  rotate_left
  · rw [szAns_no t0]
    have E : Hid (szAns (k0 + k3) left = -1) := szAns_no (by omega)
    go_wp2
    go_ret
    exact ⟨by rw [E.out]; rfl, b0⟩
  rw [szAns_yes t0]
  have u0 : ¬ (left - (k0 : Int) < 0) := by omega
  go_wp2_with fail
  refine (q3.out _ b0 (left - (k0 : Int)) (by omega) (by omega)).mono ?_
  rintro e w3 ⟨rfl, hb3⟩
  have b3 := b0.trans (hb3.mono b0.size)
  have i3 : w3.heap[w.heap.size]? = _ := (hb3.block _ (by omega)).trans I0.out
  have z3 := hb3.size
  have y3_9 : w3.cell? ⟨w.heap.size, 9, none⟩ = some (.int .i64 x9) := box_cell i3 rfl
  have I3 : Hid _ := i3
  clear i3 hb3
  by_cases t3 : (k3 : Int) ≤ left - (k0 : Int)
  rotate_left
  · rw [szAns_no t3]
    have E : Hid (szAns (k0 + k3) left = -1) := szAns_no (by omega)
    go_wp2
    go_ret
    exact ⟨by rw [E.out]; rfl, b3⟩
  rw [szAns_yes t3]
  have u3 : ¬ (left - (k0 : Int) - (k3 : Int) < 0) := by omega
  have E : Hid (szAns (k0 + k3) left = left - (k0 : Int) - (k3 : Int)) := by show _ = _; rw [szAns_yes (by omega)]; omega
  go_wp2
  go_ret
  exact ⟨by rw [E.out]; rfl, b3⟩

theorem opens_Store {H : Type} {enc : TypeId × Value → H} {w : World} {spare : Nat → Bool} {held : Bool} : Opens enc Tryz.prog w spare held 29 shStore := by
  refine opens_struct [shDisk, .int, .int, (.sl shEntry), .int] Tryz.underlying29 (by kernel_rfl) (fun i s hi => ?_)
  match i, hi with
  | 0, hi => obtain rfl := Option.some.inj hi; exact ⟨_, rfl, opens_Disk, rfl⟩
  | 1, hi => obtain rfl := Option.some.inj hi; exact ⟨_, rfl, opens_int Tryz.underlying3 (by kernel_rfl), rfl⟩
  | 2, hi => obtain rfl := Option.some.inj hi; exact ⟨_, rfl, opens_int Tryz.underlying3 (by kernel_rfl), rfl⟩
  | 3, hi => obtain rfl := Option.some.inj hi; exact ⟨_, rfl, opens_sl Tryz.underlying27 (by kernel_rfl) (by decide) opens_Entry, rfl⟩
  | 4, hi => obtain rfl := Option.some.inj hi; exact ⟨_, rfl, opens_int Tryz.underlying3 (by kernel_rfl), rfl⟩
  | n + 5, hi => simp at hi

set_option maxRecDepth 100000 in
set_option maxHeartbeats 4000000 in
theorem toStore_any (cs : List Value) (d : shStore.D) (w : World) (hr : Reads shStore w cs d) (hs : shStore.sz d ≤ 1048576) :
    Calls Tryz.prog 7 #[.agg cs.toArray] w fun e w' => ∃ cs' F, e = .returned (.agg cs'.toArray) ∧ Own shStore w' w.heap.size cs' d F ∧ F.Nodup ∧ Below w.heap.size w w' := by
  obtain ⟨a3, n3, c3, a4, n4, c4, a5, n5, c5, a8, n8, c8, rfl, r0, r3⟩ := open_Store hr
  obtain ⟨x0, e0⟩ : ∃ x : Int, x = d.1.1 := ⟨_, rfl⟩
  obtain ⟨x1, e1⟩ : ∃ x : Int, x = d.1.2.1 := ⟨_, rfl⟩
  obtain ⟨x2, e2⟩ : ∃ x : Int, x = d.1.2.2.1 := ⟨_, rfl⟩
  obtain ⟨x6, e6⟩ : ∃ x : Int, x = d.2.1 := ⟨_, rfl⟩
  obtain ⟨x7, e7⟩ : ∃ x : Int, x = d.2.2.1 := ⟨_, rfl⟩
  obtain ⟨x9, e9⟩ : ∃ x : Int, x = d.2.2.2.2.1 := ⟨_, rfl⟩
  rw [sz_Store] at hs
  have q0 : Hid (∀ w', Below w.heap.size w w' → Calls Tryz.prog 12 #[.agg #[.int .i64 x0, .int .i64 x1, .int .i64 x2, .slice a3 n3 c3, .slice a4 n4 c4, .slice a5 n5 c5]] w' fun e w'' => ∃ (g3 : Option Addr) (m3 k3 : Nat) (g4 : Option Addr) (m4 k4 : Nat) (g5 : Option Addr) (m5 k5 : Nat) (F : List Nat), e = .returned (.agg #[.int .i64 x0, .int .i64 x1, .int .i64 x2, .slice g3 m3 k3, .slice g4 m4 k4, .slice g5 m5 k5]) ∧ Own shDisk w'' w'.heap.size [.int .i64 x0, .int .i64 x1, .int .i64 x2, .slice g3 m3 k3, .slice g4 m4 k4, .slice g5 m5 k5] d.1 F ∧ F.Nodup ∧ Below w'.heap.size w' w'') := fun w' h' => by
    rw [e0, e1, e2]
    refine (toDisk_any _ _ w' (r0.later h') (by show Sh.sz shDisk _ ≤ _; omega)).mono ?_
    rintro e w'' ⟨cs', F, rfl, ho, hn, hb⟩
    obtain ⟨_, _, _, _, _, _, _, _, _, e, _⟩ := open_Disk ho.reads
    subst e
    exact ⟨_, _, _, _, _, _, _, _, _, F, rfl, ho, hn, hb⟩
  have q3 : Hid (∀ w', Below w.heap.size w w' → Calls Tryz.prog 25 #[.slice a8 n8 c8] w' fun e w'' => ∃ (g8 : Option Addr) (m8 k8 : Nat) (F : List Nat), e = .returned (.slice g8 m8 k8) ∧ Own (.sl shEntry) w'' w'.heap.size [.slice g8 m8 k8] d.2.2.2.1 F ∧ F.Nodup ∧ Below w'.heap.size w' w'') := fun w' h' => by
    refine (toEntryS_own a8 n8 c8 _ w' (r3.later h') (by omega)).mono ?_
    rintro e w'' ⟨g, F, rfl, ho, hn, hb⟩
    exact ⟨_, _, _, F, rfl, ho, hn, hb⟩
  rw [← e0, ← e1, ← e2, ← e6, ← e7, ← e9]
  have HE : Hid (x0 = d.1.1 ∧ x1 = d.1.2.1 ∧ x2 = d.1.2.2.1 ∧ x6 = d.2.1 ∧ x7 = d.2.2.1 ∧ x9 = d.2.2.2.2.1 ∧ True) := ⟨e0, e1, e2, e6, e7, e9, trivial⟩
  obtain ⟨i0, i1, i2, isz⟩ := alloc3_heap w (.cells #[.int .i64 x0, .int .i64 x1, .int .i64 x2, .slice a3 n3 c3, .slice a4 n4 c4, .slice a5 n5 c5, .int .i64 x6, .int .i64 x7, .slice a8 n8 c8, .int .i64 x9] 29) (.cells #[.int .i64 0, .int .i64 0, .int .i64 0, .slice none 0 0, .slice none 0 0, .slice none 0 0, .int .i64 0, .int .i64 0, .slice none 0 0, .int .i64 0] 39) (.cells #[.int .i64 0, .int .i64 0, .int .i64 0, .slice none 0 0, .slice none 0 0, .slice none 0 0, .int .i64 0, .int .i64 0, .slice none 0 0, .int .i64 0] 39)
  obtain ⟨W0, hW0⟩ : ∃ W0, W0 = ((w.alloc (.cells #[.int .i64 x0, .int .i64 x1, .int .i64 x2, .slice a3 n3 c3, .slice a4 n4 c4, .slice a5 n5 c5, .int .i64 x6, .int .i64 x7, .slice a8 n8 c8, .int .i64 x9] 29)).alloc (.cells #[.int .i64 0, .int .i64 0, .int .i64 0, .slice none 0 0, .slice none 0 0, .slice none 0 0, .int .i64 0, .int .i64 0, .slice none 0 0, .int .i64 0] 39)).alloc (.cells #[.int .i64 0, .int .i64 0, .int .i64 0, .slice none 0 0, .slice none 0 0, .slice none 0 0, .int .i64 0, .int .i64 0, .slice none 0 0, .int .i64 0] 39) := ⟨_, rfl⟩
  rw [← hW0] at i0 i1 i2 isz
  have bW0 : Below w.heap.size w W0 := by rw [hW0]; exact (((Below.refl _ _).alloc (Nat.le_refl _) _).alloc (by simp) _).alloc (by simp; omega) _
  have HW0 : Hid (W0 = _) := hW0
  have HI : Hid (_ ∧ _ ∧ _) := ⟨i0, i1, i2⟩
  clear hr hs hW0 i0 i1 i2 r0 r3 e0 e1 e2 e6 e7 e9
  go_enter Tryz.func7, Tryz.ntmps7
  go_wp2_with fail
  rw [← HW0.out]
  refine (q0.out _ bW0).mono ?_
  rintro e w0 ⟨g3, m3, k3, g4, m4, k4, g5, m5, k5, F0, rfl, o0, nd0, hb0⟩
  have b0 := bW0.trans (hb0.mono bW0.size)
  have z0 := hb0.size
  have iA : w0.heap[w.heap.size]? = some (.cells #[.int .i64 x0, .int .i64 x1, .int .i64 x2, .slice a3 n3 c3, .slice a4 n4 c4, .slice a5 n5 c5, .int .i64 x6, .int .i64 x7, .slice a8 n8 c8, .int .i64 x9] 29 (0, 0)) := (hb0.block _ (by omega)).trans HI.out.1
  have iB : w0.heap[w.heap.size + 1]? = some (.cells #[.int .i64 0, .int .i64 0, .int .i64 0, .slice none 0 0, .slice none 0 0, .slice none 0 0, .int .i64 0, .int .i64 0, .slice none 0 0, .int .i64 0] 39 (0, 0)) := (hb0.block _ (by omega)).trans HI.out.2.1
  have iC : w0.heap[w.heap.size + 1 + 1]? = some (.cells #[.int .i64 0, .int .i64 0, .int .i64 0, .slice none 0 0, .slice none 0 0, .slice none 0 0, .int .i64 0, .int .i64 0, .slice none 0 0, .int .i64 0] 39 (0, 0)) := (hb0.block _ (by omega)).trans HI.out.2.2
  have ya0_6 : w0.cell? ⟨w.heap.size, 6, none⟩ = some (.int .i64 x6) := box_cell iA rfl
  have ya0_7 : w0.cell? ⟨w.heap.size, 7, none⟩ = some (.int .i64 x7) := box_cell iA rfl
  have ya0_8 : w0.cell? ⟨w.heap.size, 8, none⟩ = some (.slice a8 n8 c8) := box_cell iA rfl
  have ya0_9 : w0.cell? ⟨w.heap.size, 9, none⟩ = some (.int .i64 x9) := box_cell iA rfl
  have yb0_0 : w0.cell? ⟨w.heap.size + 1 + 1, 0, none⟩ = some (.int .i64 0) := box_cell iC rfl
  have yf0_0 : w0.frozen? ⟨w.heap.size + 1 + 1, 0, none⟩ = false := box_frozen iC
  have yb0_1 : w0.cell? ⟨w.heap.size + 1 + 1, 1, none⟩ = some (.int .i64 0) := box_cell iC rfl
  have yf0_1 : w0.frozen? ⟨w.heap.size + 1 + 1, 1, none⟩ = false := box_frozen iC
  have yb0_2 : w0.cell? ⟨w.heap.size + 1 + 1, 2, none⟩ = some (.int .i64 0) := box_cell iC rfl
  have yf0_2 : w0.frozen? ⟨w.heap.size + 1 + 1, 2, none⟩ = false := box_frozen iC
  have yb0_3 : w0.cell? ⟨w.heap.size + 1 + 1, 3, none⟩ = some (.slice none 0 0) := box_cell iC rfl
  have yf0_3 : w0.frozen? ⟨w.heap.size + 1 + 1, 3, none⟩ = false := box_frozen iC
  have yb0_4 : w0.cell? ⟨w.heap.size + 1 + 1, 4, none⟩ = some (.slice none 0 0) := box_cell iC rfl
  have yf0_4 : w0.frozen? ⟨w.heap.size + 1 + 1, 4, none⟩ = false := box_frozen iC
  have yb0_5 : w0.cell? ⟨w.heap.size + 1 + 1, 5, none⟩ = some (.slice none 0 0) := box_cell iC rfl
  have yf0_5 : w0.frozen? ⟨w.heap.size + 1 + 1, 5, none⟩ = false := box_frozen iC
  have yb0_6 : w0.cell? ⟨w.heap.size + 1 + 1, 6, none⟩ = some (.int .i64 0) := box_cell iC rfl
  have yf0_6 : w0.frozen? ⟨w.heap.size + 1 + 1, 6, none⟩ = false := box_frozen iC
  have yb0_7 : w0.cell? ⟨w.heap.size + 1 + 1, 7, none⟩ = some (.int .i64 0) := box_cell iC rfl
  have yf0_7 : w0.frozen? ⟨w.heap.size + 1 + 1, 7, none⟩ = false := box_frozen iC
  rw [isz] at o0
  obtain ⟨W0, hW0⟩ : ∃ W, W = ((((((((w0).setCell ⟨w.heap.size + 1 + 1, 0, none⟩ (.int .i64 x0)).setCell ⟨w.heap.size + 1 + 1, 1, none⟩ (.int .i64 x1)).setCell ⟨w.heap.size + 1 + 1, 2, none⟩ (.int .i64 x2)).setCell ⟨w.heap.size + 1 + 1, 3, none⟩ (.slice g3 m3 k3)).setCell ⟨w.heap.size + 1 + 1, 4, none⟩ (.slice g4 m4 k4)).setCell ⟨w.heap.size + 1 + 1, 5, none⟩ (.slice g5 m5 k5)).setCell ⟨w.heap.size + 1 + 1, 6, none⟩ (.int .i64 x6)).setCell ⟨w.heap.size + 1 + 1, 7, none⟩ (.int .i64 x7) := ⟨_, rfl⟩
  have bW0 : Below w.heap.size w W0 := by rw [hW0]; exact ((((((((b0.setCell (by simp <;> omega) _).setCell (by simp <;> omega) _).setCell (by simp <;> omega) _).setCell (by simp <;> omega) _).setCell (by simp <;> omega) _).setCell (by simp <;> omega) _).setCell (by simp <;> omega) _).setCell (by simp <;> omega) _)
  have zW0 : w0.heap.size = W0.heap.size := by rw [hW0]; simp
  have jA : W0.heap[w.heap.size]? = some (.cells #[.int .i64 x0, .int .i64 x1, .int .i64 x2, .slice a3 n3 c3, .slice a4 n4 c4, .slice a5 n5 c5, .int .i64 x6, .int .i64 x7, .slice a8 n8 c8, .int .i64 x9] 29 (0, 0)) := by rw [hW0]; exact (((box_other _ (by omega)).trans ((box_other _ (by omega)).trans ((box_other _ (by omega)).trans ((box_other _ (by omega)).trans ((box_other _ (by omega)).trans ((box_other _ (by omega)).trans ((box_other _ (by omega)).trans (box_other _ (by omega)))))))))).trans iA
  have jB : W0.heap[w.heap.size + 1]? = some (.cells #[.int .i64 0, .int .i64 0, .int .i64 0, .slice none 0 0, .slice none 0 0, .slice none 0 0, .int .i64 0, .int .i64 0, .slice none 0 0, .int .i64 0] 39 (0, 0)) := by rw [hW0]; exact (((box_other _ (by omega)).trans ((box_other _ (by omega)).trans ((box_other _ (by omega)).trans ((box_other _ (by omega)).trans ((box_other _ (by omega)).trans ((box_other _ (by omega)).trans ((box_other _ (by omega)).trans (box_other _ (by omega)))))))))).trans iB
  have jC : W0.heap[w.heap.size + 1 + 1]? = some (.cells #[.int .i64 x0, .int .i64 x1, .int .i64 x2, .slice g3 m3 k3, .slice g4 m4 k4, .slice g5 m5 k5, .int .i64 x6, .int .i64 x7, .slice none 0 0, .int .i64 0] 39 (0, 0)) := by rw [hW0]; exact box_set _ (box_set _ (box_set _ (box_set _ (box_set _ (box_set _ (box_set _ (box_set _ iC)))))))
  have oW0_0 : Own shDisk W0 (w.heap.size + 1 + 1 + 1) [.int .i64 x0, .int .i64 x1, .int .i64 x2, .slice g3 m3 k3, .slice g4 m4 k4, .slice g5 m5 k5] d.1 F0 := by rw [hW0]; exact o0.keep fun g hg => (((box_other _ (by have := (o0.lt g hg).1; omega)).trans ((box_other _ (by have := (o0.lt g hg).1; omega)).trans ((box_other _ (by have := (o0.lt g hg).1; omega)).trans ((box_other _ (by have := (o0.lt g hg).1; omega)).trans ((box_other _ (by have := (o0.lt g hg).1; omega)).trans ((box_other _ (by have := (o0.lt g hg).1; omega)).trans ((box_other _ (by have := (o0.lt g hg).1; omega)).trans (box_other _ (by have := (o0.lt g hg).1; omega))))))))))
  have OW0_0 : Hid (Own shDisk W0 (w.heap.size + 1 + 1 + 1) [.int .i64 x0, .int .i64 x1, .int .i64 x2, .slice g3 m3 k3, .slice g4 m4 k4, .slice g5 m5 k5] d.1 F0) := oW0_0
  have TOP0 : ∀ x ∈ F0, x < W0.heap.size := fun x hx => (oW0_0.lt x hx).2
  have HJ0 : Hid (_ ∧ _ ∧ _) := ⟨jA, jB, jC⟩
  go_wp2_with fail
  rw [← hW0]
  clear hW0 iA iB iC jA jB jC b0 hb0 o0 oW0_0 ya0_6 ya0_7 ya0_8 ya0_9 yb0_0 yf0_0 yb0_1 yf0_1 yb0_2 yf0_2 yb0_3 yf0_3 yb0_4 yf0_4 yb0_5 yf0_5 yb0_6 yf0_6 yb0_7 yf0_7
  refine (q3.out _ bW0).mono ?_
  rintro e w3 ⟨g8, m8, k8, F3, rfl, o3, nd3, hb3⟩
  have b3 := bW0.trans (hb3.mono bW0.size)
  have z3 := hb3.size
  have iA : w3.heap[w.heap.size]? = some (.cells #[.int .i64 x0, .int .i64 x1, .int .i64 x2, .slice a3 n3 c3, .slice a4 n4 c4, .slice a5 n5 c5, .int .i64 x6, .int .i64 x7, .slice a8 n8 c8, .int .i64 x9] 29 (0, 0)) := (hb3.block _ (by omega)).trans HJ0.out.1
  have iB : w3.heap[w.heap.size + 1]? = some (.cells #[.int .i64 0, .int .i64 0, .int .i64 0, .slice none 0 0, .slice none 0 0, .slice none 0 0, .int .i64 0, .int .i64 0, .slice none 0 0, .int .i64 0] 39 (0, 0)) := (hb3.block _ (by omega)).trans HJ0.out.2.1
  have iC : w3.heap[w.heap.size + 1 + 1]? = some (.cells #[.int .i64 x0, .int .i64 x1, .int .i64 x2, .slice g3 m3 k3, .slice g4 m4 k4, .slice g5 m5 k5, .int .i64 x6, .int .i64 x7, .slice none 0 0, .int .i64 0] 39 (0, 0)) := (hb3.block _ (by omega)).trans HJ0.out.2.2
  have p0_3 := OW0_0.out.later hb3
  have ya3_9 : w3.cell? ⟨w.heap.size, 9, none⟩ = some (.int .i64 x9) := box_cell iA rfl
  have yb3_8 : w3.cell? ⟨w.heap.size + 1 + 1, 8, none⟩ = some (.slice none 0 0) := box_cell iC rfl
  have yf3_8 : w3.frozen? ⟨w.heap.size + 1 + 1, 8, none⟩ = false := box_frozen iC
  have yb3_9 : w3.cell? ⟨w.heap.size + 1 + 1, 9, none⟩ = some (.int .i64 0) := box_cell iC rfl
  have yf3_9 : w3.frozen? ⟨w.heap.size + 1 + 1, 9, none⟩ = false := box_frozen iC
  have yb3_0 : w3.cell? ⟨w.heap.size + 1 + 1, 0, none⟩ = some (.int .i64 x0) := box_cell iC rfl
  have yr3_0 : w3.cell? ⟨w.heap.size + 1, 0, none⟩ = some (.int .i64 0) := box_cell iB rfl
  have yg3_0 : w3.frozen? ⟨w.heap.size + 1, 0, none⟩ = false := box_frozen iB
  have yb3_1 : w3.cell? ⟨w.heap.size + 1 + 1, 1, none⟩ = some (.int .i64 x1) := box_cell iC rfl
  have yr3_1 : w3.cell? ⟨w.heap.size + 1, 1, none⟩ = some (.int .i64 0) := box_cell iB rfl
  have yg3_1 : w3.frozen? ⟨w.heap.size + 1, 1, none⟩ = false := box_frozen iB
  have yb3_2 : w3.cell? ⟨w.heap.size + 1 + 1, 2, none⟩ = some (.int .i64 x2) := box_cell iC rfl
  have yr3_2 : w3.cell? ⟨w.heap.size + 1, 2, none⟩ = some (.int .i64 0) := box_cell iB rfl
  have yg3_2 : w3.frozen? ⟨w.heap.size + 1, 2, none⟩ = false := box_frozen iB
  have yb3_3 : w3.cell? ⟨w.heap.size + 1 + 1, 3, none⟩ = some (.slice g3 m3 k3) := box_cell iC rfl
  have yr3_3 : w3.cell? ⟨w.heap.size + 1, 3, none⟩ = some (.slice none 0 0) := box_cell iB rfl
  have yg3_3 : w3.frozen? ⟨w.heap.size + 1, 3, none⟩ = false := box_frozen iB
  have yb3_4 : w3.cell? ⟨w.heap.size + 1 + 1, 4, none⟩ = some (.slice g4 m4 k4) := box_cell iC rfl
  have yr3_4 : w3.cell? ⟨w.heap.size + 1, 4, none⟩ = some (.slice none 0 0) := box_cell iB rfl
  have yg3_4 : w3.frozen? ⟨w.heap.size + 1, 4, none⟩ = false := box_frozen iB
  have yb3_5 : w3.cell? ⟨w.heap.size + 1 + 1, 5, none⟩ = some (.slice g5 m5 k5) := box_cell iC rfl
  have yr3_5 : w3.cell? ⟨w.heap.size + 1, 5, none⟩ = some (.slice none 0 0) := box_cell iB rfl
  have yg3_5 : w3.frozen? ⟨w.heap.size + 1, 5, none⟩ = false := box_frozen iB
  have yb3_6 : w3.cell? ⟨w.heap.size + 1 + 1, 6, none⟩ = some (.int .i64 x6) := box_cell iC rfl
  have yr3_6 : w3.cell? ⟨w.heap.size + 1, 6, none⟩ = some (.int .i64 0) := box_cell iB rfl
  have yg3_6 : w3.frozen? ⟨w.heap.size + 1, 6, none⟩ = false := box_frozen iB
  have yb3_7 : w3.cell? ⟨w.heap.size + 1 + 1, 7, none⟩ = some (.int .i64 x7) := box_cell iC rfl
  have yr3_7 : w3.cell? ⟨w.heap.size + 1, 7, none⟩ = some (.int .i64 0) := box_cell iB rfl
  have yg3_7 : w3.frozen? ⟨w.heap.size + 1, 7, none⟩ = false := box_frozen iB
  have yr3_8 : w3.cell? ⟨w.heap.size + 1, 8, none⟩ = some (.slice none 0 0) := box_cell iB rfl
  have yg3_8 : w3.frozen? ⟨w.heap.size + 1, 8, none⟩ = false := box_frozen iB
  have yr3_9 : w3.cell? ⟨w.heap.size + 1, 9, none⟩ = some (.int .i64 0) := box_cell iB rfl
  have yg3_9 : w3.frozen? ⟨w.heap.size + 1, 9, none⟩ = false := box_frozen iB
  have L0 := p0_3.lt
  have L3 := o3.lt
  have ND : (F0 ++ (F3 ++ ([]))).Nodup := by
    simp only [List.append_nil, List.nodup_append]
    refine ⟨nd0, nd3, fun x hx y hy e => ?n0⟩
    case n0 =>
      subst e
      have h1 := TOP0 x hx
      have h2 := L3 x hy; omega
  have HO : Hid ((∀ w', (∀ g, w.heap.size + 1 + 1 < g → w'.heap[g]? = w3.heap[g]?) → Own shStore w' w.heap.size [.int .i64 x0, .int .i64 x1, .int .i64 x2, .slice g3 m3 k3, .slice g4 m4 k4, .slice g5 m5 k5, .int .i64 x6, .int .i64 x7, .slice g8 m8 k8, .int .i64 x9] d (F0 ++ (F3 ++ ([])))) ∧ True) := ⟨fun w' hw' => by
    have u0 := (p0_3.keep fun g hg => hw' g (by have := (L0 g hg).1; omega)).base (B' := w.heap.size) (by omega)
    rw [HE.out.1, HE.out.2.1, HE.out.2.2.1] at u0
    have u3 := (o3.keep fun g hg => hw' g (by have := (L3 g hg).1; omega)).base (B' := w.heap.size) (by omega)
    have := own_Store (w := w') (B := w.heap.size) (d := d) u0 u3
    simpa only [← HE.out.1, ← HE.out.2.1, ← HE.out.2.2.1, ← HE.out.2.2.2.1, ← HE.out.2.2.2.2.1, ← HE.out.2.2.2.2.2.1] using this, trivial⟩
  have HB : Hid (Below w.heap.size w w3) := b3
  have HN : Hid ((F0 ++ (F3 ++ ([]))).Nodup) := ND
  clear iA iB iC ND b3 hb3 L0 L3 p0_3 o3
  have yz0 : ((((w3).setCell ⟨w.heap.size + 1 + 1, 8, none⟩ (.slice g8 m8 k8)).setCell ⟨w.heap.size + 1 + 1, 9, none⟩ (.int .i64 x9)).setCell ⟨w.heap.size + 1, 0, none⟩ (.int .i64 x0)).cell? ⟨w.heap.size + 1, 0, none⟩ = some (.int .i64 x0) := World.cell?_setCell_same _ _ _ (by rw [World.cell?_setCell_other _ _ _ _ (by simp), World.cell?_setCell_other _ _ _ _ (by simp)]; exact yr3_0)
  have yz1 : (((((w3).setCell ⟨w.heap.size + 1 + 1, 8, none⟩ (.slice g8 m8 k8)).setCell ⟨w.heap.size + 1 + 1, 9, none⟩ (.int .i64 x9)).setCell ⟨w.heap.size + 1, 0, none⟩ (.int .i64 x0)).setCell ⟨w.heap.size + 1, 1, none⟩ (.int .i64 x1)).cell? ⟨w.heap.size + 1, 1, none⟩ = some (.int .i64 x1) := World.cell?_setCell_same _ _ _ (by rw [World.cell?_setCell_other _ _ _ _ (by simp), World.cell?_setCell_other _ _ _ _ (by simp), World.cell?_setCell_other _ _ _ _ (by simp)]; exact yr3_1)
  have yz2 : ((((((w3).setCell ⟨w.heap.size + 1 + 1, 8, none⟩ (.slice g8 m8 k8)).setCell ⟨w.heap.size + 1 + 1, 9, none⟩ (.int .i64 x9)).setCell ⟨w.heap.size + 1, 0, none⟩ (.int .i64 x0)).setCell ⟨w.heap.size + 1, 1, none⟩ (.int .i64 x1)).setCell ⟨w.heap.size + 1, 2, none⟩ (.int .i64 x2)).cell? ⟨w.heap.size + 1, 2, none⟩ = some (.int .i64 x2) := World.cell?_setCell_same _ _ _ (by rw [World.cell?_setCell_other _ _ _ _ (by simp), World.cell?_setCell_other _ _ _ _ (by simp), World.cell?_setCell_other _ _ _ _ (by simp), World.cell?_setCell_other _ _ _ _ (by simp)]; exact yr3_2)
  have yz3 : (((((((w3).setCell ⟨w.heap.size + 1 + 1, 8, none⟩ (.slice g8 m8 k8)).setCell ⟨w.heap.size + 1 + 1, 9, none⟩ (.int .i64 x9)).setCell ⟨w.heap.size + 1, 0, none⟩ (.int .i64 x0)).setCell ⟨w.heap.size + 1, 1, none⟩ (.int .i64 x1)).setCell ⟨w.heap.size + 1, 2, none⟩ (.int .i64 x2)).setCell ⟨w.heap.size + 1, 3, none⟩ (.slice g3 m3 k3)).cell? ⟨w.heap.size + 1, 3, none⟩ = some (.slice g3 m3 k3) := World.cell?_setCell_same _ _ _ (by rw [World.cell?_setCell_other _ _ _ _ (by simp), World.cell?_setCell_other _ _ _ _ (by simp), World.cell?_setCell_other _ _ _ _ (by simp), World.cell?_setCell_other _ _ _ _ (by simp), World.cell?_setCell_other _ _ _ _ (by simp)]; exact yr3_3)
  have yz4 : ((((((((w3).setCell ⟨w.heap.size + 1 + 1, 8, none⟩ (.slice g8 m8 k8)).setCell ⟨w.heap.size + 1 + 1, 9, none⟩ (.int .i64 x9)).setCell ⟨w.heap.size + 1, 0, none⟩ (.int .i64 x0)).setCell ⟨w.heap.size + 1, 1, none⟩ (.int .i64 x1)).setCell ⟨w.heap.size + 1, 2, none⟩ (.int .i64 x2)).setCell ⟨w.heap.size + 1, 3, none⟩ (.slice g3 m3 k3)).setCell ⟨w.heap.size + 1, 4, none⟩ (.slice g4 m4 k4)).cell? ⟨w.heap.size + 1, 4, none⟩ = some (.slice g4 m4 k4) := World.cell?_setCell_same _ _ _ (by rw [World.cell?_setCell_other _ _ _ _ (by simp), World.cell?_setCell_other _ _ _ _ (by simp), World.cell?_setCell_other _ _ _ _ (by simp), World.cell?_setCell_other _ _ _ _ (by simp), World.cell?_setCell_other _ _ _ _ (by simp), World.cell?_setCell_other _ _ _ _ (by simp)]; exact yr3_4)
  have yz5 : (((((((((w3).setCell ⟨w.heap.size + 1 + 1, 8, none⟩ (.slice g8 m8 k8)).setCell ⟨w.heap.size + 1 + 1, 9, none⟩ (.int .i64 x9)).setCell ⟨w.heap.size + 1, 0, none⟩ (.int .i64 x0)).setCell ⟨w.heap.size + 1, 1, none⟩ (.int .i64 x1)).setCell ⟨w.heap.size + 1, 2, none⟩ (.int .i64 x2)).setCell ⟨w.heap.size + 1, 3, none⟩ (.slice g3 m3 k3)).setCell ⟨w.heap.size + 1, 4, none⟩ (.slice g4 m4 k4)).setCell ⟨w.heap.size + 1, 5, none⟩ (.slice g5 m5 k5)).cell? ⟨w.heap.size + 1, 5, none⟩ = some (.slice g5 m5 k5) := World.cell?_setCell_same _ _ _ (by rw [World.cell?_setCell_other _ _ _ _ (by simp), World.cell?_setCell_other _ _ _ _ (by simp), World.cell?_setCell_other _ _ _ _ (by simp), World.cell?_setCell_other _ _ _ _ (by simp), World.cell?_setCell_other _ _ _ _ (by simp), World.cell?_setCell_other _ _ _ _ (by simp), World.cell?_setCell_other _ _ _ _ (by simp)]; exact yr3_5)
  have yz6 : ((((((((((w3).setCell ⟨w.heap.size + 1 + 1, 8, none⟩ (.slice g8 m8 k8)).setCell ⟨w.heap.size + 1 + 1, 9, none⟩ (.int .i64 x9)).setCell ⟨w.heap.size + 1, 0, none⟩ (.int .i64 x0)).setCell ⟨w.heap.size + 1, 1, none⟩ (.int .i64 x1)).setCell ⟨w.heap.size + 1, 2, none⟩ (.int .i64 x2)).setCell ⟨w.heap.size + 1, 3, none⟩ (.slice g3 m3 k3)).setCell ⟨w.heap.size + 1, 4, none⟩ (.slice g4 m4 k4)).setCell ⟨w.heap.size + 1, 5, none⟩ (.slice g5 m5 k5)).setCell ⟨w.heap.size + 1, 6, none⟩ (.int .i64 x6)).cell? ⟨w.heap.size + 1, 6, none⟩ = some (.int .i64 x6) := World.cell?_setCell_same _ _ _ (by rw [World.cell?_setCell_other _ _ _ _ (by simp), World.cell?_setCell_other _ _ _ _ (by simp), World.cell?_setCell_other _ _ _ _ (by simp), World.cell?_setCell_other _ _ _ _ (by simp), World.cell?_setCell_other _ _ _ _ (by simp), World.cell?_setCell_other _ _ _ _ (by simp), World.cell?_setCell_other _ _ _ _ (by simp), World.cell?_setCell_other _ _ _ _ (by simp)]; exact yr3_6)
  have yz7 : (((((((((((w3).setCell ⟨w.heap.size + 1 + 1, 8, none⟩ (.slice g8 m8 k8)).setCell ⟨w.heap.size + 1 + 1, 9, none⟩ (.int .i64 x9)).setCell ⟨w.heap.size + 1, 0, none⟩ (.int .i64 x0)).setCell ⟨w.heap.size + 1, 1, none⟩ (.int .i64 x1)).setCell ⟨w.heap.size + 1, 2, none⟩ (.int .i64 x2)).setCell ⟨w.heap.size + 1, 3, none⟩ (.slice g3 m3 k3)).setCell ⟨w.heap.size + 1, 4, none⟩ (.slice g4 m4 k4)).setCell ⟨w.heap.size + 1, 5, none⟩ (.slice g5 m5 k5)).setCell ⟨w.heap.size + 1, 6, none⟩ (.int .i64 x6)).setCell ⟨w.heap.size + 1, 7, none⟩ (.int .i64 x7)).cell? ⟨w.heap.size + 1, 7, none⟩ = some (.int .i64 x7) := World.cell?_setCell_same _ _ _ (by rw [World.cell?_setCell_other _ _ _ _ (by simp), World.cell?_setCell_other _ _ _ _ (by simp), World.cell?_setCell_other _ _ _ _ (by simp), World.cell?_setCell_other _ _ _ _ (by simp), World.cell?_setCell_other _ _ _ _ (by simp), World.cell?_setCell_other _ _ _ _ (by simp), World.cell?_setCell_other _ _ _ _ (by simp), World.cell?_setCell_other _ _ _ _ (by simp), World.cell?_setCell_other _ _ _ _ (by simp)]; exact yr3_7)
  have yz8 : ((((((((((((w3).setCell ⟨w.heap.size + 1 + 1, 8, none⟩ (.slice g8 m8 k8)).setCell ⟨w.heap.size + 1 + 1, 9, none⟩ (.int .i64 x9)).setCell ⟨w.heap.size + 1, 0, none⟩ (.int .i64 x0)).setCell ⟨w.heap.size + 1, 1, none⟩ (.int .i64 x1)).setCell ⟨w.heap.size + 1, 2, none⟩ (.int .i64 x2)).setCell ⟨w.heap.size + 1, 3, none⟩ (.slice g3 m3 k3)).setCell ⟨w.heap.size + 1, 4, none⟩ (.slice g4 m4 k4)).setCell ⟨w.heap.size + 1, 5, none⟩ (.slice g5 m5 k5)).setCell ⟨w.heap.size + 1, 6, none⟩ (.int .i64 x6)).setCell ⟨w.heap.size + 1, 7, none⟩ (.int .i64 x7)).setCell ⟨w.heap.size + 1, 8, none⟩ (.slice g8 m8 k8)).cell? ⟨w.heap.size + 1, 8, none⟩ = some (.slice g8 m8 k8) := World.cell?_setCell_same _ _ _ (by rw [World.cell?_setCell_other _ _ _ _ (by simp), World.cell?_setCell_other _ _ _ _ (by simp), World.cell?_setCell_other _ _ _ _ (by simp), World.cell?_setCell_other _ _ _ _ (by simp), World.cell?_setCell_other _ _ _ _ (by simp), World.cell?_setCell_other _ _ _ _ (by simp), World.cell?_setCell_other _ _ _ _ (by simp), World.cell?_setCell_other _ _ _ _ (by simp), World.cell?_setCell_other _ _ _ _ (by simp), World.cell?_setCell_other _ _ _ _ (by simp)]; exact yr3_8)
  have yz9 : (((((((((((((w3).setCell ⟨w.heap.size + 1 + 1, 8, none⟩ (.slice g8 m8 k8)).setCell ⟨w.heap.size + 1 + 1, 9, none⟩ (.int .i64 x9)).setCell ⟨w.heap.size + 1, 0, none⟩ (.int .i64 x0)).setCell ⟨w.heap.size + 1, 1, none⟩ (.int .i64 x1)).setCell ⟨w.heap.size + 1, 2, none⟩ (.int .i64 x2)).setCell ⟨w.heap.size + 1, 3, none⟩ (.slice g3 m3 k3)).setCell ⟨w.heap.size + 1, 4, none⟩ (.slice g4 m4 k4)).setCell ⟨w.heap.size + 1, 5, none⟩ (.slice g5 m5 k5)).setCell ⟨w.heap.size + 1, 6, none⟩ (.int .i64 x6)).setCell ⟨w.heap.size + 1, 7, none⟩ (.int .i64 x7)).setCell ⟨w.heap.size + 1, 8, none⟩ (.slice g8 m8 k8)).setCell ⟨w.heap.size + 1, 9, none⟩ (.int .i64 x9)).cell? ⟨w.heap.size + 1, 9, none⟩ = some (.int .i64 x9) := World.cell?_setCell_same _ _ _ (by rw [World.cell?_setCell_other _ _ _ _ (by simp), World.cell?_setCell_other _ _ _ _ (by simp), World.cell?_setCell_other _ _ _ _ (by simp), World.cell?_setCell_other _ _ _ _ (by simp), World.cell?_setCell_other _ _ _ _ (by simp), World.cell?_setCell_other _ _ _ _ (by simp), World.cell?_setCell_other _ _ _ _ (by simp), World.cell?_setCell_other _ _ _ _ (by simp), World.cell?_setCell_other _ _ _ _ (by simp), World.cell?_setCell_other _ _ _ _ (by simp), World.cell?_setCell_other _ _ _ _ (by simp)]; exact yr3_9)
  go_wp2
  (try simp only [Exit.inBlock, Exit.then])
  refine bodyPost_ret (by simp [results, Tryz.results7, go_sem, yz0, yz1, yz2, yz3, yz4, yz5, yz6, yz7, yz8, yz9]; try rfl) rfl ?_
  refine ⟨_, _, rfl, HO.out.1 _ (fun g hg => ((box_other _ (by omega)).trans ((box_other _ (by omega)).trans ((box_other _ (by omega)).trans ((box_other _ (by omega)).trans ((box_other _ (by omega)).trans ((box_other _ (by omega)).trans ((box_other _ (by omega)).trans ((box_other _ (by omega)).trans ((box_other _ (by omega)).trans ((box_other _ (by omega)).trans ((box_other _ (by omega)).trans (box_other _ (by omega)))))))))))))), HN.out, ?_⟩
  exact ((((((((((((HB.out.setCell (by simp <;> omega) _).setCell (by simp <;> omega) _).setCell (by simp <;> omega) _).setCell (by simp <;> omega) _).setCell (by simp <;> omega) _).setCell (by simp <;> omega) _).setCell (by simp <;> omega) _).setCell (by simp <;> omega) _).setCell (by simp <;> omega) _).setCell (by simp <;> omega) _).setCell (by simp <;> omega) _).setCell (by simp <;> omega) _)

set_option maxRecDepth 100000 in
set_option maxHeartbeats 4000000 in
theorem eqStore_any (cs1 cs2 : List Value) (d : shStore.D) (w : World) (hr : Reads shStore w cs1 d) (hq : Reads shStore w cs2 d) (hs : shStore.sz d ≤ 1048576) :
    Calls Tryz.prog 9 #[.agg cs1.toArray, .agg cs2.toArray] w fun e w' => e = .returned (.bool true) ∧ Below w.heap.size w w' := by
  obtain ⟨a3, n3, c3, a4, n4, c4, a5, n5, c5, a8, n8, c8, rfl, r0, r3⟩ := open_Store hr
  obtain ⟨p3, m3, k3, p4, m4, k4, p5, m5, k5, p8, m8, k8, rfl, t0, t3⟩ := open_Store hq
  obtain ⟨x0, e0⟩ : ∃ x : Int, x = d.1.1 := ⟨_, rfl⟩
  obtain ⟨x1, e1⟩ : ∃ x : Int, x = d.1.2.1 := ⟨_, rfl⟩
  obtain ⟨x2, e2⟩ : ∃ x : Int, x = d.1.2.2.1 := ⟨_, rfl⟩
  obtain ⟨x6, e6⟩ : ∃ x : Int, x = d.2.1 := ⟨_, rfl⟩
  obtain ⟨x7, e7⟩ : ∃ x : Int, x = d.2.2.1 := ⟨_, rfl⟩
  obtain ⟨x9, e9⟩ : ∃ x : Int, x = d.2.2.2.2.1 := ⟨_, rfl⟩
  rw [sz_Store] at hs
  have q0 : Hid (∀ w', Below w.heap.size w w' → Calls Tryz.prog 15 #[.agg #[.int .i64 x0, .int .i64 x1, .int .i64 x2, .slice a3 n3 c3, .slice a4 n4 c4, .slice a5 n5 c5], .agg #[.int .i64 x0, .int .i64 x1, .int .i64 x2, .slice p3 m3 k3, .slice p4 m4 k4, .slice p5 m5 k5]] w' fun e w'' => e = .returned (.bool true) ∧ Below w'.heap.size w' w'') := fun w' h' => by rw [e0, e1, e2]; exact eqDisk_any _ _ _ w' (r0.later h') (t0.later h') (by show Sh.sz shDisk _ ≤ _; omega)
  obtain rfl : n8 = m8 := (reads_len r3).1.symm.trans (reads_len t3).1
  have q3 : Hid (∀ w', Below w.heap.size w w' → Calls Tryz.prog 14 #[.slice a8 n8 c8, .slice p8 n8 k8] w' fun e w'' => e = .returned (.bool true) ∧ Below w'.heap.size w' w'') := fun w' h' => eqEntryS_reads a8 p8 n8 c8 k8 _ w' (r3.later h') (t3.later h') (by omega)
  rw [← e0, ← e1, ← e2, ← e6, ← e7, ← e9]
  have ne6 : (x6 != x6) = false := by simp
  have ne7 : (x7 != x7) = false := by simp
  have ne9 : (x9 != x9) = false := by simp
  clear hr hq hs r0 t0 r3 t3 e0 e1 e2 e6 e7 e9
  obtain ⟨W0, hW0⟩ : ∃ W0, W0 = (w.alloc (.cells #[.int .i64 x0, .int .i64 x1, .int .i64 x2, .slice a3 n3 c3, .slice a4 n4 c4, .slice a5 n5 c5, .int .i64 x6, .int .i64 x7, .slice a8 n8 c8, .int .i64 x9] 39)).alloc (.cells #[.int .i64 x0, .int .i64 x1, .int .i64 x2, .slice p3 m3 k3, .slice p4 m4 k4, .slice p5 m5 k5, .int .i64 x6, .int .i64 x7, .slice p8 n8 k8, .int .i64 x9] 39) := ⟨_, rfl⟩
  have bW0 : Below w.heap.size w W0 := by rw [hW0]; exact ((Below.refl _ _).alloc (Nat.le_refl _) _).alloc (by simp) _
  have hA : W0.heap[w.heap.size]? = some (.cells #[.int .i64 x0, .int .i64 x1, .int .i64 x2, .slice a3 n3 c3, .slice a4 n4 c4, .slice a5 n5 c5, .int .i64 x6, .int .i64 x7, .slice a8 n8 c8, .int .i64 x9] 39 (0, 0)) := by rw [hW0, heap_alloc_old _ _ (by simp)]; exact heap_alloc_new w _
  have hB : W0.heap[w.heap.size + 1]? = some (.cells #[.int .i64 x0, .int .i64 x1, .int .i64 x2, .slice p3 m3 k3, .slice p4 m4 k4, .slice p5 m5 k5, .int .i64 x6, .int .i64 x7, .slice p8 n8 k8, .int .i64 x9] 39 (0, 0)) := by rw [hW0]; exact (by have := heap_alloc_new (w.alloc (.cells #[.int .i64 x0, .int .i64 x1, .int .i64 x2, .slice a3 n3 c3, .slice a4 n4 c4, .slice a5 n5 c5, .int .i64 x6, .int .i64 x7, .slice a8 n8 c8, .int .i64 x9] 39)) (.cells #[.int .i64 x0, .int .i64 x1, .int .i64 x2, .slice p3 m3 k3, .slice p4 m4 k4, .slice p5 m5 k5, .int .i64 x6, .int .i64 x7, .slice p8 n8 k8, .int .i64 x9] 39); simpa using this)
  have zW0 : W0.heap.size = w.heap.size + 1 + 1 := by rw [hW0]; simp
  have HW0 : Hid (W0 = _) := hW0
  have HAB : Hid (_ ∧ _) := ⟨hA, hB⟩
  clear hW0 hA hB
  go_enter Tryz.func9, Tryz.ntmps9
  go_wp2_with fail
  rw [← HW0.out]
  refine (q0.out _ bW0).mono ?_
  rintro e w0 ⟨rfl, hb0⟩
  have b0 := bW0.trans (hb0.mono bW0.size)
  have z0 := hb0.size
  have iA : w0.heap[w.heap.size]? = some (.cells #[.int .i64 x0, .int .i64 x1, .int .i64 x2, .slice a3 n3 c3, .slice a4 n4 c4, .slice a5 n5 c5, .int .i64 x6, .int .i64 x7, .slice a8 n8 c8, .int .i64 x9] 39 (0, 0)) := (hb0.block _ (by omega)).trans HAB.out.1
  have iB : w0.heap[w.heap.size + 1]? = some (.cells #[.int .i64 x0, .int .i64 x1, .int .i64 x2, .slice p3 m3 k3, .slice p4 m4 k4, .slice p5 m5 k5, .int .i64 x6, .int .i64 x7, .slice p8 n8 k8, .int .i64 x9] 39 (0, 0)) := (hb0.block _ (by omega)).trans HAB.out.2
  have ya0_6 : w0.cell? ⟨w.heap.size, 6, none⟩ = some (.int .i64 x6) := box_cell iA rfl
  have yb0_6 : w0.cell? ⟨w.heap.size + 1, 6, none⟩ = some (.int .i64 x6) := box_cell iB rfl
  have ya0_7 : w0.cell? ⟨w.heap.size, 7, none⟩ = some (.int .i64 x7) := box_cell iA rfl
  have yb0_7 : w0.cell? ⟨w.heap.size + 1, 7, none⟩ = some (.int .i64 x7) := box_cell iB rfl
  have ya0_8 : w0.cell? ⟨w.heap.size, 8, none⟩ = some (.slice a8 n8 c8) := box_cell iA rfl
  have yb0_8 : w0.cell? ⟨w.heap.size + 1, 8, none⟩ = some (.slice p8 n8 k8) := box_cell iB rfl
  have ya0_9 : w0.cell? ⟨w.heap.size, 9, none⟩ = some (.int .i64 x9) := box_cell iA rfl
  have yb0_9 : w0.cell? ⟨w.heap.size + 1, 9, none⟩ = some (.int .i64 x9) := box_cell iB rfl
  have I0 : Hid (_ ∧ _) := ⟨iA, iB⟩
  clear iA iB hb0
  go_wp2_with fail
  refine (q3.out _ b0).mono ?_
  rintro e w3 ⟨rfl, hb3⟩
  have b3 := b0.trans (hb3.mono b0.size)
  have z3 := hb3.size
  have iA : w3.heap[w.heap.size]? = some (.cells #[.int .i64 x0, .int .i64 x1, .int .i64 x2, .slice a3 n3 c3, .slice a4 n4 c4, .slice a5 n5 c5, .int .i64 x6, .int .i64 x7, .slice a8 n8 c8, .int .i64 x9] 39 (0, 0)) := (hb3.block _ (by omega)).trans I0.out.1
  have iB : w3.heap[w.heap.size + 1]? = some (.cells #[.int .i64 x0, .int .i64 x1, .int .i64 x2, .slice p3 m3 k3, .slice p4 m4 k4, .slice p5 m5 k5, .int .i64 x6, .int .i64 x7, .slice p8 n8 k8, .int .i64 x9] 39 (0, 0)) := (hb3.block _ (by omega)).trans I0.out.2
  have ya3_9 : w3.cell? ⟨w.heap.size, 9, none⟩ = some (.int .i64 x9) := box_cell iA rfl
  have yb3_9 : w3.cell? ⟨w.heap.size + 1, 9, none⟩ = some (.int .i64 x9) := box_cell iB rfl
  have I3 : Hid (_ ∧ _) := ⟨iA, iB⟩
  clear iA iB hb3
  go_wp2
  go_ret
  exact ⟨rfl, b3⟩

end Go.Proofs.YtkfmpfbhhmmllaaGreat

/- OwnM: Data of the call's own that is written into: 'Touch' (only the blocks F turn), one element of a slice opened and shut again. -/
namespace Go.Proofs.YtkfmpfbhhmmllaaGreat
open Go.RowKit
set_option linter.unusedVariables false

/-- From w to w' only the blocks F of those that were there have turned. -/
structure Touch (w w' : World) (F : List Nat) : Prop where
  os : w'.os = w.os
  tape : w'.tape = w.tape
  output : w'.output = w.output
  size : w.heap.size ≤ w'.heap.size
  block : ∀ i, i < w.heap.size → i ∉ F → w'.heap[i]? = w.heap[i]?

theorem Touch.refl (w : World) (F : List Nat) : Touch w w F := ⟨rfl, rfl, rfl, Nat.le_refl _, fun _ _ _ => rfl⟩
theorem Touch.trans {a b c : World} {F : List Nat} (h : Touch a b F) (k : Touch b c F) : Touch a c F :=
  ⟨k.os.trans h.os, k.tape.trans h.tape, k.output.trans h.output, Nat.le_trans h.size k.size, fun i hi hf => (k.block i (Nat.lt_of_lt_of_le hi h.size) hf).trans (h.block i hi hf)⟩
theorem Touch.mono {a b : World} {F G : List Nat} (h : Touch a b F) (hs : ∀ x ∈ F, x ∈ G) : Touch a b G :=
  ⟨h.os, h.tape, h.output, h.size, fun i hi hf => h.block i hi fun hm => hf (hs i hm)⟩
theorem Touch.of_below {w w' : World} (h : Below w.heap.size w w') (F : List Nat) : Touch w w' F := ⟨h.os, h.tape, h.output, h.size, fun i hi _ => h.block i hi⟩
theorem Touch.of_grown {w w' : World} {g : Nat} (h : w.grownBy w' (some g)) {F : List Nat} (hg : g ∈ F) : Touch w w' F :=
  ⟨h.os, h.tape, h.output, h.size, fun i hi hf => h.block i hi fun e => hf (by cases e; exact hg)⟩
theorem Touch.set (w : World) (g j : Nat) (v : Value) {F : List Nat} (hg : g ∈ F) : Touch w (w.setCell ⟨g, j, none⟩ v) F :=
  ⟨rfl, rfl, rfl, by simp, fun i _ hf => box_other v fun e => hf (e ▸ hg)⟩
theorem Touch.below {B : Nat} {a w w' : World} {F : List Nat} (h : Touch w w' F) (hb : Below B a w) (hB : B ≤ w.heap.size) (hF : ∀ g ∈ F, B ≤ g) : Below B a w' :=
  ⟨h.os.trans hb.os, h.tape.trans hb.tape, h.output.trans hb.output, Nat.le_trans hb.size h.size, fun i hi => (h.block i (by omega) fun hm => by have := hF i hm; omega).trans (hb.block i hi)⟩
theorem Touch.own {s : Sh} {w w' : World} {B : Nat} {cs : List Value} {d : s.D} {F G : List Nat} (h : Touch w w' F) (ho : Own s w B cs d G) (hd : ∀ g ∈ G, g ∉ F) : Own s w' B cs d G :=
  ho.keep fun g hg => h.block g (ho.lt g hg).2 (hd g hg)

theorem disj_flatten : ∀ {L : List (List Nat)} {i k : Nat} {a b : List Nat}, L.flatten.Nodup → L[i]? = some a → L[k]? = some b → i ≠ k → ∀ x ∈ a, x ∉ b
  | [], i, k, a, b, _, h, _, _ => by simp at h
  | l :: L, 0, 0, a, b, _, _, _, hne => absurd rfl hne
  | l :: L, 0, k + 1, a, b, hn, ha, hb, _ => by
    intro x hx hxb
    simp at ha; subst ha
    rw [List.flatten_cons, List.nodup_append] at hn
    exact hn.2.2 x hx x (List.mem_flatten.2 ⟨b, List.mem_of_getElem? (by simpa using hb), hxb⟩) rfl
  | l :: L, i + 1, 0, a, b, hn, ha, hb, _ => by
    intro x hx hxb
    simp at hb; subst hb
    rw [List.flatten_cons, List.nodup_append] at hn
    exact hn.2.2 x hxb x (List.mem_flatten.2 ⟨a, List.mem_of_getElem? (by simpa using ha), hx⟩) rfl
  | l :: L, i + 1, k + 1, a, b, hn, ha, hb, hne => by
    rw [List.flatten_cons, List.nodup_append] at hn
    exact disj_flatten hn.2.1 (by simpa using ha) (by simpa using hb) (by omega)

theorem nodup_of_flatten : ∀ {L : List (List Nat)} {i : Nat} {a : List Nat}, L.flatten.Nodup → L[i]? = some a → a.Nodup
  | [], i, a, _, h => by simp at h
  | l :: L, 0, a, hn, h => by
    simp at h; subst h
    rw [List.flatten_cons, List.nodup_append] at hn
    exact hn.1
  | l :: L, i + 1, a, hn, h => by
    rw [List.flatten_cons, List.nodup_append] at hn
    exact nodup_of_flatten hn.2.1 (by simpa using h)

theorem take_mid (A c Z : List Value) (m : Nat) (h : A.length + c.length ≤ m) : (A ++ (c ++ Z)).take m = A ++ (c ++ Z.take (m - (A.length + c.length))) := by
  rw [← List.append_assoc, List.take_append, List.take_of_length_le (by simp; omega), List.length_append, List.append_assoc]

theorem flatten_take {n : Nat} : ∀ {l : List (List Value)} (i : Nat), (∀ d ∈ l, d.length = n) → l.flatten.take (i * n) = (l.take i).flatten
  | [], i, _ => by simp
  | d :: l, 0, _ => by simp
  | d :: l, i + 1, h => by
    have hd := h d (by simp)
    rw [List.flatten_cons, List.take_succ_cons, List.flatten_cons, Nat.add_mul, Nat.one_mul, Nat.add_comm, ← hd, List.take_length_add_append, hd, flatten_take i (fun x hx => h x (by simp [hx]))]

theorem flatten_drop {n : Nat} : ∀ {l : List (List Value)} (i : Nat), (∀ d ∈ l, d.length = n) → l.flatten.drop (i * n) = (l.drop i).flatten
  | [], i, _ => by simp
  | d :: l, 0, _ => by simp
  | d :: l, i + 1, h => by
    have hd := h d (by simp)
    rw [List.flatten_cons, List.drop_succ_cons, Nat.add_mul, Nat.one_mul, Nat.add_comm, ← hd, List.drop_length_add_append, hd, flatten_drop i (fun x hx => h x (by simp [hx]))]

theorem setRow_eq (l c : List Value) (p : Nat) (h : p + c.length ≤ l.length) : setRow l p c = l.take p ++ (c ++ l.drop (p + c.length)) := by
  have e : l = l.take p ++ l.drop p := (List.take_append_drop p l).symm
  have hl : (l.take p).length = p := by rw [List.length_take]; omega
  have := setRow_at c (l.take p) (l.drop p) (by rw [List.length_drop]; omega)
  rw [hl, ← e] at this
  rw [this, List.drop_drop]

theorem set_flatten {l : List (List Value)} {i : Nat} {c : List Value} (hi : i < l.length) : (l.set i c).flatten = (l.take i).flatten ++ (c ++ (l.drop (i + 1)).flatten) := by
  rw [List.set_eq_take_append_cons_drop, if_pos hi, List.flatten_append, List.flatten_cons]

/-- One element opened; and what shuts it again. -/
theorem own_elem {e : Sh} {w : World} {B g n cap : Nat} {d : List e.D} {F : List Nat} (h : Own (.sl e) w B [.slice (some ⟨g, 0, none⟩) n cap] d F) (hnd : F.Nodup) (i : Nat) (hi : i < n) :
    ∃ (t : TypeId) (cur : Array Value) (c : List Value) (x : e.D) (f : List Nat), w.heap[g]? = some (.cells cur t (0, 0)) ∧ e.at d i = some x ∧ Own e w B c x f ∧ f.Nodup ∧ g ∉ f ∧ (∀ y ∈ f, y ∈ F) ∧ g ∈ F ∧ B ≤ g ∧
      (∀ j, j < e.size → cur[i * e.size + j]? = c[j]?) ∧
      ∀ (w2 : World) (c' : List Value) (x' : e.D), Own e w2 B c' x' f → w2.heap[g]? = some (.cells (setRow cur.toList (i * e.size) c').toArray t (0, 0)) → (∀ y ∈ F, y ≠ g → y ∉ f → w2.heap[y]? = w.heap[y]?) →
        Own (.sl e) w2 B [.slice (some ⟨g, 0, none⟩) n cap] (List.set d i x') F := by
  rcases h with ⟨h1, _⟩ | ⟨g', cap', t, cur, Cs, Fs, hcs, hB, hh, h1, h2, h3, h4, h5, h6, hFF, he⟩
  · simp at h1
  · simp only [List.cons.injEq, Value.slice.injEq, Option.some.injEq, Addr.mk.injEq, and_true] at hcs
    obtain ⟨rfl, hn, rfl⟩ := hcs
    have h1 : d.length ≤ cap := h1
    have h4 : cur.toList.take (d.length * e.size) = Cs.flatten := h4
    have h5 : Cs.length = d.length := h5
    have h6 : Fs.length = d.length := h6
    have hid : i < d.length := by omega
    have hCi : Cs[i]? = some Cs[i] := List.getElem?_eq_getElem (by omega)
    have hFi : Fs[i]? = some Fs[i] := List.getElem?_eq_getElem (by omega)
    have hxi : e.at d i = some d[i] := List.getElem?_eq_getElem hid
    have ho := he i _ _ _ hCi hxi hFi
    have hall : ∀ c ∈ Cs, c.length = e.size := by
      intro c hc
      obtain ⟨k, hk, rfl⟩ := List.mem_iff_getElem.1 hc
      have hkd : k < d.length := by omega
      exact e.ow_length (he k Cs[k] d[k] Fs[k] (List.getElem?_eq_getElem hk) (List.getElem?_eq_getElem hkd) (List.getElem?_eq_getElem (by omega)))
    rw [hFF] at hnd
    have hnd2 := (List.nodup_cons.1 hnd)
    have hfl : Cs.flatten.length = d.length * e.size := by
      rw [List.length_flatten]
      have : Cs.map List.length = Cs.map fun _ => e.size := List.map_congr_left hall
      rw [this]
      simp [List.map_const', h5]
    have hmul : (i + 1) * e.size ≤ d.length * e.size := Nat.mul_le_mul_right _ hid
    rw [Nat.add_mul, Nat.one_mul] at hmul
    have hcap : d.length * e.size ≤ cap * e.size := Nat.mul_le_mul_right _ h1
    refine ⟨t, cur, Cs[i], d[i], Fs[i], hh, hxi, ho, nodup_of_flatten hnd2.2 hFi, fun hm => hnd2.1 (List.mem_flatten.2 ⟨_, List.mem_of_getElem? hFi, hm⟩), fun y hy => ?_, ?_, hB, fun j hj => ?_, ?_⟩
    · rw [hFF]; exact List.mem_cons_of_mem _ (List.mem_flatten.2 ⟨_, List.mem_of_getElem? hFi, hy⟩)
    · rw [hFF]; exact List.mem_cons_self
    · have := flatten_get (l := Cs) (n := e.size) (i := i) (j := j) (c := Cs[i]) (fun k d hk => hall d (List.mem_of_getElem? hk)) hCi hj
      rw [← h4, List.getElem?_take_of_lt (by omega)] at this
      rw [← this]; simp
    · intro w2 c' x' ho' hg' hoth
      have hcl := ho'.length
      have hlen : cur.toList.length = cap * e.size := by simpa using h3
      have hsr : setRow cur.toList (i * e.size) c' = cur.toList.take (i * e.size) ++ (c' ++ cur.toList.drop (i * e.size + e.size)) := by
        rw [setRow_eq _ _ _ (by rw [hlen, hcl]; omega), hcl]
      refine .inr ⟨g, cap, t, _, Cs.set i c', Fs, ?_, hB, hg', ?_, h2, ?_, ?_, ?_, ?_, hFF, ?_⟩
      · show _ = [Value.slice _ (List.length (List.set d i x')) cap]
        rw [List.length_set, hn]
      · show List.length (List.set d i x') ≤ cap
        rw [List.length_set]; exact h1
      · rw [hsr]
        simp only [List.size_toArray, List.length_append, List.length_take, List.length_drop, hlen, hcl]
        omega
      · show (setRow cur.toList (i * e.size) c').toArray.toList.take (List.length (List.set d i x') * e.size) = _
        rw [List.length_set, set_flatten (by omega)]
        show (setRow cur.toList (i * e.size) c').take (d.length * e.size) = _
        have e1 : (cur.toList.take (i * e.size)).length = i * e.size := by rw [List.length_take, hlen]; omega
        rw [hsr, take_mid _ _ _ _ (by rw [e1, hcl]; omega), e1, hcl, ← flatten_take i hall, ← flatten_drop (i + 1) hall, ← h4, List.take_take, List.drop_take, Nat.min_eq_left (by omega), Nat.add_mul, Nat.one_mul]
      · show (Cs.set i c').length = List.length (List.set d i x'); simp [h5]
      · show Fs.length = List.length (List.set d i x'); simp [h6]
      · intro k c2 x2 f2 hc2 hx2 hf2
        have hx2 : (List.set d i x')[k]? = some x2 := hx2
        rw [List.getElem?_set] at hc2 hx2
        by_cases hik : i = k
        · subst hik
          rw [if_pos rfl, if_pos (by omega)] at hc2 hx2
          obtain rfl := Option.some.inj hc2
          obtain rfl := Option.some.inj hx2
          obtain rfl : Fs[i] = f2 := Option.some.inj (hFi.symm.trans hf2)
          exact ho'
        · rw [if_neg hik] at hc2 hx2
          refine e.ow_keep (he k c2 x2 f2 hc2 hx2 hf2) fun y hy => hoth y ?_ ?_ ?_
          · rw [hFF]; exact List.mem_cons_of_mem _ (List.mem_flatten.2 ⟨f2, List.mem_of_getElem? hf2, hy⟩)
          · intro e; exact hnd2.1 (e ▸ List.mem_flatten.2 ⟨f2, List.mem_of_getElem? hf2, hy⟩)
          · exact disj_flatten hnd2.2 hf2 hFi (fun e => hik e.symm) y hy

end Go.Proofs.YtkfmpfbhhmmllaaGreat

/- Mtx: markText: the text that a mark is. -/
namespace Go.Proofs.YtkfmpfbhhmmllaaGreat
open Go.RowKit
set_option linter.unusedVariables false

theorem one_byteS (d : Int) (b : Nat) (W : World) (h : W.cell? ⟨b, 0, none⟩ = some (.int .u8 d)) :
    (convert 55 9 (.slice (some ⟨b, 0, none⟩) 1 1)).run Tryz.prog W = .ok (.string (strOfNums [d])) W := by
  refine run_convert_bytes_arg (P := Tryz.prog) W 55 5 Tryz.underlying55 Tryz.underlying5 b 0 1 1 [d] rfl ?_ 9 Tryz.underlying9
  intro i hi
  obtain rfl : i = 0 := by omega
  simpa using h

set_option maxHeartbeats 1000000 in
theorem markText_any (k : Nat) (w : World) (h0 : 1 ≤ k) (h1 : k ≤ 1000000000000) :
    Calls Tryz.prog 45 #[.int .i64 k] w fun e w' => e = .returned (.string (mtext k)) ∧ Below w.heap.size w w' := by
  have h0' : ¬ ((k : Int) ≤ 0) := by omega
  go_enter Tryz.func45, Tryz.ntmps45
  go_wp2
  go_loopw [0, 3] (fun n o wr => ∃ (f j : Nat) (t : ByteArray), n = .int .i64 j ∧ o = .string t ∧ j ≤ 1000000000000 ∧ Hid (j < 10 ^ f ∧ f ≤ 20 ∧ mgo 20 k ⟨#[]⟩ = mgo f j t) ∧ t.size + f ≤ 20 ∧ Below w.heap.size w wr) (fun n _ _ => (intOf n).toNat)
  case atStart => exact ⟨20, k, ⟨#[]⟩, rfl, rfl, h1, ⟨by omega, by omega, rfl⟩, by show 0 + 20 ≤ 20; omega, Below.refl _ _⟩
  case round =>
    obtain ⟨f, j, t, rfl, rfl, hj, HF, hts, hbel⟩ := hrel
    have hbs := hbel.size
    by_cases hj0 : 0 < j
    · have hj0' : (0 : Int) < (j : Int) := by omega
      obtain ⟨f', rfl⟩ : ∃ f', f = f' + 1 := by
        cases f with
        | zero => have := HF.out.1; simp at this; omega
        | succ f' => exact ⟨f', rfl⟩
      have hcv := one_byteS (48 + (j : Int) % 10) wr.heap.size (wr.alloc (.cells #[.int .u8 (48 + (j : Int) % 10)] 5)) (by simp)
      obtain ⟨B, hB⟩ : ∃ B, B = strOfNums [48 + (j : Int) % 10] := ⟨_, rfl⟩
      have hBs : B.size = 1 := by rw [hB]; rfl
      have hsum : ¬ (9223372036854775807 < B.size + t.size) := by omega
      have HF2 : Hid (j / 10 < 10 ^ f' ∧ f' ≤ 20 ∧ mgo 20 k ⟨#[]⟩ = mgo f' (j / 10) (B ++ t)) := by
        obtain ⟨a1, a2, a3⟩ := HF.out
        refine ⟨by rw [Nat.pow_succ] at a1; omega, by omega, ?_⟩
        rw [a3, mgo, if_neg (by omega), hB]
      have hs2 : (B ++ t).size + f' ≤ 20 := by rw [ByteArray.size_append]; omega
      rw [← hB] at hcv
      clear hB HF
      go_wp2
      go_roundw
      case rel => exact ⟨f', j / 10, B ++ t, by go_num, rfl, by omega, HF2, hs2, hbel.alloc hbs _⟩
      case measure => simp [intOf]; omega
    · obtain rfl : j = 0 := by omega
      have hsum : ¬ (9223372036854775807 < (⟨#[109]⟩ : ByteArray).size + t.size) := by
        have : (⟨#[109]⟩ : ByteArray).size = 1 := rfl
        omega
      have HE : Hid (mtext k = ⟨#[109]⟩ ++ t) := by
        show mtext k = _
        rw [mtext, HF.out.2.2]
        cases f <;> rfl
      go_wp2
      go_ret
      exact ⟨by rw [HE.out]; rfl, hbel⟩

end Go.Proofs.YtkfmpfbhhmmllaaGreat

/- Mk: The marks that the laws write into data, by shapes: how many ('cnt'), what is there behind them ('mk'). -/
namespace Go.Proofs.YtkfmpfbhhmmllaaGreat
open Go.RowKit
set_option linter.unusedVariables false

theorem cnt_le (s : Sh) (d : s.D) : s.cnt d ≤ s.wd * (s.sz d + 1) := s.cnt_le d
theorem cntV_le (s : Sh) (d : s.D) : s.cntV d ≤ s.cnt d := s.cntV_le d

/-- The marks of the first i elements. -/
def cntTo (e : Sh) (d : List e.D) (i : Nat) : Nat := ((d.take i).map e.cnt).sum

theorem cntTo_zero (e : Sh) (d : List e.D) : cntTo e d 0 = 0 := by simp [cntTo]

theorem at_some {e : Sh} {d : List e.D} {i : Nat} {x : e.D} (h : e.at d i = some x) : ∃ hi : i < d.length, d[i] = x := by
  have hk : i < d.length := by
    rcases Nat.lt_or_ge i d.length with h' | h'
    · exact h'
    · rw [show e.at d i = none from List.getElem?_eq_none h'] at h; cases h
  refine ⟨hk, ?_⟩
  have : d[i]? = some x := h
  rw [List.getElem?_eq_getElem hk] at this
  exact Option.some.inj this

theorem cntTo_succ (e : Sh) (d : List e.D) (i : Nat) (x : e.D) (h : e.at d i = some x) : cntTo e d (i + 1) = cntTo e d i + e.cnt x := by
  obtain ⟨hk, hx⟩ := at_some h
  have e2 : d.take (i + 1) = d.take i ++ [x] := by rw [List.take_succ_eq_append_getElem hk, hx]
  unfold cntTo
  rw [e2, List.map_append, List.sum_append]
  simp

theorem cntTo_all (e : Sh) (d : List e.D) (i : Nat) (h : d.length ≤ i) : cntTo e d i = Sh.cnt (.sl e) d := by
  unfold cntTo; rw [List.take_of_length_le h]; rfl

theorem cntTo_le (e : Sh) (d : List e.D) (i : Nat) : cntTo e d i ≤ Sh.cnt (.sl e) d := by
  show cntTo e d i ≤ (d.map e.cnt).sum
  unfold cntTo
  conv => rhs; rw [← List.take_append_drop i d, List.map_append, List.sum_append]
  omega

/-- The first i elements marked. -/
def mkTo (e : Sh) (d : List e.D) (k i : Nat) : List e.D := mkRow e.mk e.cnt (d.take i) k ++ d.drop i

theorem mkRow_length {α : Type} (f : α → Nat → α) (c : α → Nat) : ∀ (l : List α) (k : Nat), (mkRow f c l k).length = l.length
  | [], _ => rfl
  | x :: l, k => by simp [mkRow, mkRow_length f c l]

theorem mkRow_snoc {α : Type} (f : α → Nat → α) (c : α → Nat) : ∀ (l : List α) (x : α) (k : Nat), mkRow f c (l ++ [x]) k = mkRow f c l k ++ [f x (k + (l.map c).sum)]
  | [], x, k => by simp [mkRow]
  | y :: l, x, k => by
    simp only [List.cons_append, mkRow, mkRow_snoc f c l x]
    simp [Nat.add_assoc]

theorem mkTo_zero (e : Sh) (d : List e.D) (k : Nat) : mkTo e d k 0 = d := by simp [mkTo, mkRow]

theorem mkTo_all (e : Sh) (d : List e.D) (k i : Nat) (h : d.length ≤ i) : mkTo e d k i = Sh.mk (.sl e) d k := by
  unfold mkTo; rw [List.take_of_length_le h, List.drop_eq_nil_of_le h, List.append_nil]; rfl

theorem mkTo_length (e : Sh) (d : List e.D) (k i : Nat) : (mkTo e d k i).length = d.length := by
  unfold mkTo; rw [List.length_append, mkRow_length, List.length_take, List.length_drop]; omega

theorem mkTo_at (e : Sh) (d : List e.D) (k i : Nat) (x : e.D) (h : e.at d i = some x) : e.at (mkTo e d k i) i = some x := by
  obtain ⟨hk, hx⟩ := at_some h
  show (mkTo e d k i)[i]? = some x
  unfold mkTo
  rw [List.getElem?_append_right (by rw [mkRow_length, List.length_take]; omega), mkRow_length, List.length_take, Nat.min_eq_left (by omega), Nat.sub_self, List.getElem?_drop, Nat.add_zero]
  exact h

theorem mkTo_set (e : Sh) (d : List e.D) (k i : Nat) (x : e.D) (h : e.at d i = some x) : List.set (mkTo e d k i) i (e.mk x (k + cntTo e d i)) = mkTo e d k (i + 1) := by
  obtain ⟨hk, hx⟩ := at_some h
  have e2 : d.take (i + 1) = d.take i ++ [x] := by rw [List.take_succ_eq_append_getElem hk, hx]
  have hl : (mkRow e.mk e.cnt (d.take i) k).length = i := by rw [mkRow_length, List.length_take]; omega
  unfold mkTo
  rw [e2, mkRow_snoc, List.set_append_right _ _ (by omega), hl, Nat.sub_self, List.append_assoc]
  congr 1
  rw [show d.drop i = x :: d.drop (i + 1) by rw [List.drop_eq_getElem_cons hk, hx]]
  rfl

theorem mk_at (e : Sh) (d : List e.D) (k i : Nat) (x : e.D) (h : e.at d i = some x) : e.at (Sh.mk (.sl e) d k) i = some (e.mk x (k + cntTo e d i)) := by
  obtain ⟨hk, hx⟩ := at_some h
  have h1 := mkTo_set e d k i x h
  have key : ∀ j, i + 1 ≤ j → j ≤ d.length → (mkTo e d k j)[i]? = some (e.mk x (k + cntTo e d i)) := by
    intro j hj
    induction j with
    | zero => omega
    | succ j ih =>
      intro hjl
      by_cases hji : j = i
      · subst hji
        rw [← h1]
        rw [List.getElem?_set, if_pos rfl, if_pos (by rw [mkTo_length]; omega)]
      · have hj' : e.at d j = some d[j] := List.getElem?_eq_getElem (by omega)
        rw [← mkTo_set e d k j _ hj', List.getElem?_set, if_neg hji]
        exact ih (by omega) (by omega)
  have := key d.length (by omega) (Nat.le_refl _)
  rw [mkTo_all _ _ _ _ (Nat.le_refl _)] at this
  exact this

theorem mgo_size : ∀ (f k : Nat) (o : ByteArray), (mgo f k o).size ≤ o.size + f
  | 0, _, o => by simp [mgo]
  | f + 1, k, o => by
    unfold mgo
    split
    · omega
    · have h := mgo_size f (k / 10) (strOfNums [48 + (k : Int) % 10] ++ o)
      rw [ByteArray.size_append, strOfNums_size] at h
      simp at h
      omega

theorem mtext_le (k : Nat) : (mtext k).size ≤ maxLen := by
  unfold mtext maxLen
  have h := mgo_size 20 k ⟨#[]⟩
  have h0 : (⟨#[]⟩ : ByteArray).size = 0 := rfl
  have h1 : (⟨#[109]⟩ : ByteArray).size = 1 := rfl
  rw [ByteArray.size_append, h1]
  omega

theorem lt_heap {w : World} {g : Nat} {o : Obj} (h : w.heap[g]? = some o) : g < w.heap.size := by
  rcases Nat.lt_or_ge g w.heap.size with h' | h'
  · exact h'
  · rw [Array.getElem?_eq_none h'] at h; cases h

/-- A cell that is as it is to be. -/
theorem setRow_skip {l : List Value} {p : Nat} {v : Value} {vs : List Value} (h : l[p]? = some v) : setRow l p (v :: vs) = setRow l (p + 1) vs := by
  have hp : p < l.length := by
    rcases Nat.lt_or_ge p l.length with h' | h'
    · exact h'
    · rw [List.getElem?_eq_none h'] at h; cases h
  have e : l.set p v = l := by
    apply List.ext_getElem?
    intro i
    rw [List.getElem?_set]
    split
    · rename_i hi
      subst hi
      first | rw [if_pos hp, h] | rw [h]
    · rfl
  show setRow (l.set p v) (p + 1) vs = _
  rw [e]

end Go.Proofs.YtkfmpfbhhmmllaaGreat

/- MkB: markByteS and heldByteS, from any number on, in the words of shapes. -/
namespace Go.Proofs.YtkfmpfbhhmmllaaGreat
open Go.RowKit
set_option linter.unusedVariables false

theorem set_toArray1 (cur : Array Value) (i : Nat) (v : Value) : cur.setIfInBounds i v = (setRow cur.toList (i * 1) [v]).toArray := by
  apply Array.ext'
  simp [setRow]

theorem cnt_bytes (d : List Int) : Sh.cnt (.sl .u8) d = d.length := by
  show (List.map (fun _ => 1) d).sum = d.length
  induction d with
  | nil => rfl
  | cons a l ih => simp [ih]; omega

theorem cntTo_bytes (d : List Int) (i : Nat) (h : i ≤ d.length) : cntTo .u8 d i = i := by
  have h1 : cntTo .u8 d i = Sh.cnt (.sl .u8) (List.take (α := Int) i d) := rfl
  exact h1.trans ((cnt_bytes (List.take (α := Int) i d)).trans (by rw [List.length_take]; omega))

theorem own_len {e : Sh} {w : World} {B : Nat} {a : Option Addr} {n cap : Nat} {d : List e.D} {F : List Nat} (h : Own (.sl e) w B [.slice a n cap] d F) : d.length = n ∧ n ≤ maxLen ∧ (n = 0 ∨ ∃ g, a = some ⟨g, 0, none⟩) := by
  rcases h with ⟨h1, h2, _⟩ | ⟨g, cp, t, cur, Cs, Fs, h1, _, _, h2, h3, _⟩
  · simp only [List.cons.injEq, Value.slice.injEq, and_true] at h1
    obtain ⟨_, rfl, _⟩ := h1
    exact ⟨h2, Nat.zero_le _, .inl rfl⟩
  · simp only [List.cons.injEq, Value.slice.injEq, and_true] at h1
    obtain ⟨rfl, rfl, rfl⟩ := h1
    exact ⟨rfl, Nat.le_trans h2 h3, .inr ⟨g, rfl⟩⟩

set_option maxRecDepth 100000 in
set_option maxHeartbeats 1000000 in
theorem markByteS_own (a : Option Addr) (n cap B k : Nat) (d : List Int) (F : List Nat) (w : World) (ho : Own (.sl .u8) w B [.slice a n cap] d F) (hnd : F.Nodup) (hk : k + Sh.cnt (.sl .u8) d ≤ 1000000000000) :
    Calls Tryz.prog 82 #[.slice a n cap, .int .i64 k] w fun e w' => e = .returned (.int .i64 ((k + Sh.cnt (.sl .u8) d : Nat) : Int)) ∧ Own (.sl .u8) w' B [.slice a n cap] (Sh.mk (.sl .u8) d k) F ∧ Touch w w' F := by
  obtain ⟨hl0, hm, hg⟩ := own_len ho
  have hl : List.length (α := Int) d = n := hl0
  rw [cnt_bytes] at hk ⊢
  have HO : Hid (Own (.sl .u8) w B [.slice a n cap] d F ∧ F.Nodup) := ⟨ho, hnd⟩
  have HL : Hid (d.length = n) := hl
  rw [hl] at hk ⊢
  clear ho hnd hl hl0
  unfold maxLen at hm
  go_enter Tryz.func82, Tryz.ntmps82
  go_wp2
  go_loopw [1, 5] (fun m i wr => ∃ j : Nat, j ≤ n ∧ m = .int .i64 ((k + j : Nat) : Int) ∧ i = .int .i64 j ∧ Hid (Own (.sl .u8) wr B [.slice a n cap] (mkTo .u8 d k j) F) ∧ Touch w wr F) (fun _ i _ => n - (intOf i).toNat)
  case atStart => exact ⟨0, Nat.zero_le _, by simp, rfl, (congrArg (fun z => Own (.sl .u8) w B [.slice a n cap] z F) (mkTo_zero .u8 d k)).mpr HO.out.1, Touch.refl _ _⟩
  case round =>
    obtain ⟨j, hj, rfl, rfl, ho, ht⟩ := hrel
    by_cases hlt : j < n
    · obtain ⟨g, rfl⟩ := hg.resolve_left (by omega)
      have hxd : Sh.at .u8 d j = some (d[j]'(by have := HL.out; omega)) := List.getElem?_eq_getElem _
      obtain ⟨t, cur, c, x, f, hh, hx, hoe, hnf, hgf, hfF, hgF, hBg, hcur, hclose⟩ := own_elem ho.out HO.out.2 j hlt
      obtain ⟨⟨rfl, _⟩, rfl⟩ := hoe
      have hc0 : wr.cell? ⟨g, j, none⟩ = some (.int .u8 x) := box_cell hh (by have := hcur 0 (by decide); simpa [Sh.size_u8] using this)
      have hf0 : wr.frozen? ⟨g, j, none⟩ = false := box_frozen hh
      have hset : Own (.sl .u8) (wr.setCell ⟨g, j, none⟩ (.int .u8 (((k + j : Nat) : Int) % 256))) B [.slice (some ⟨g, 0, none⟩) n cap] (mkTo .u8 d k (j + 1)) F := by
        have h1 := mkTo_set .u8 d k j _ hxd
        rw [cntTo_bytes d j (by have := HL.out; omega)] at h1
        rw [← h1]
        refine hclose _ [.int .u8 (((k + j : Nat) : Int) % 256)] _ ⟨⟨?_, ?_⟩, rfl⟩ ?_ ?_
        · show [_] = [Value.int .u8 ((((k + j) % 256 : Nat)) : Int)]
          simp
        · show isByte ((((k + j) % 256 : Nat)) : Int)
          unfold isByte; omega
        · rw [box_set _ hh, set_toArray1]; rfl
        · intro y _ hy _; exact box_other _ hy
      have ht2 : Touch w (wr.setCell ⟨g, j, none⟩ (.int .u8 (((k + j : Nat) : Int) % 256))) F := ht.trans (Touch.set wr g j _ hgF)
      have HH : Hid (_ ∧ _) := ⟨hset, ht2⟩
      clear hh hx hcur hclose hset ht2 hfF hgF hBg hnf hgf ho ht hxd
      go_wp2
      go_roundw
      case rel => exact ⟨j + 1, by omega, by congr 1, by go_num, HH.out.1, HH.out.2⟩
      case measure => simp [intOf]; omega
    · have e : j = n := by omega
      subst e
      have hfin : Own (.sl .u8) wr B [.slice a j cap] (Sh.mk (.sl .u8) d k) F := (congrArg (fun z => Own (.sl .u8) wr B [.slice a j cap] z F) (mkTo_all .u8 d k j (Nat.le_of_eq HL.out))).mp ho.out
      have HH : Hid (Own (.sl .u8) wr B [.slice a j cap] (Sh.mk (.sl .u8) d k) F) := hfin
      clear hfin ho
      go_wp2
      go_ret
      exact ⟨rfl, HH.out, ht⟩

end Go.Proofs.YtkfmpfbhhmmllaaGreat

/- MkEntry: The marks of the type Entry. By program (mkgen.py). -/
namespace Go.Proofs.YtkfmpfbhhmmllaaGreat
open Go.RowKit
set_option linter.unusedVariables false
set_option maxRecDepth 100000

theorem openO_Entry {w : World} {B : Nat} {cs : List Value} {d : shEntry.D} {F : List Nat} (h : Own shEntry w B cs d F) :
    cs = [.int .i64 (d.1), .string (d.2.1)] ∧ F = [] := by
  obtain ⟨_, _, G0, _, rfl, rfl, h0, _, _, G1, _, rfl, rfl, h1, hE⟩ := h
  obtain ⟨rfl, rfl⟩ := h0
  obtain ⟨⟨rfl, _⟩, rfl⟩ := h1
  obtain ⟨rfl, rfl⟩ := hE
  exact ⟨rfl, by simp⟩

theorem cnt_Entry (d : shEntry.D) : shEntry.cnt d = 1 + 1 := by
  show 1 + (1 + (0)) = _
  omega

set_option maxRecDepth 100000 in
set_option maxHeartbeats 2000000 in
theorem markEntryS_own (a : Option Addr) (n cap B k : Nat) (d : List shEntry.D) (F : List Nat) (w : World) (ho : Own (.sl shEntry) w B [.slice a n cap] d F) (hnd : F.Nodup) (hk0 : 1 ≤ k) (hk : k + Sh.cnt (.sl shEntry) d ≤ 1000000000000) :
    Calls Tryz.prog 17 #[.slice a n cap, .int .i64 k] w fun e w' => e = .returned (.int .i64 ((k + Sh.cnt (.sl shEntry) d : Nat) : Int)) ∧ Own (.sl shEntry) w' B [.slice a n cap] (Sh.mk (.sl shEntry) d k) F ∧ Touch w w' F := by
  obtain ⟨hl, hm, hg⟩ := own_len ho
  obtain ⟨C, hC⟩ : ∃ C, C = Sh.cnt (.sl shEntry) d := ⟨_, rfl⟩
  rw [← hC] at hk ⊢
  have HO : Hid (Own (.sl shEntry) w B [.slice a n cap] d F ∧ F.Nodup) := ⟨ho, hnd⟩
  have HL : Hid (d.length = n ∧ C = Sh.cnt (.sl shEntry) d) := ⟨hl, hC⟩
  clear ho hnd hl hC
  unfold maxLen at hm
  go_enter Tryz.func17, Tryz.ntmps17
  go_wp2
  go_loopw [1, 5] (fun m i wr => ∃ j kk : Nat, j ≤ n ∧ m = .int .i64 (kk : Int) ∧ i = .int .i64 j ∧ Hid (kk = k + cntTo shEntry d j) ∧ 1 ≤ kk ∧ Hid (Own (.sl shEntry) wr B [.slice a n cap] (mkTo shEntry d k j) F) ∧ Touch w wr F) (fun _ i _ => n - (intOf i).toNat)
  case atStart => exact ⟨0, k, Nat.zero_le _, rfl, rfl, by show k = _; rw [cntTo_zero]; rfl, hk0, by show Own _ _ _ _ _ _; rw [mkTo_zero]; exact HO.out.1, Touch.refl _ _⟩
  case round =>
    obtain ⟨j, kk, hj, rfl, rfl, hkk, hkk1, ho, ht⟩ := hrel
    by_cases hlt : j < n
    · obtain ⟨g, rfl⟩ := hg.resolve_left (by omega)
      obtain ⟨t, cur, c, x, f, hh, hx, hoe, hnf, hgf, hfF, hgF, hBg, hcur, hclose⟩ := own_elem ho.out HO.out.2 j hlt
      have hxd : shEntry.at d j = some x := by
        have h1 : j < d.length := by rw [HL.out.1]; exact hlt
        have h2 : shEntry.at d j = some d[j] := List.getElem?_eq_getElem h1
        have h3 := mkTo_at shEntry d k j _ h2
        rw [h2, ← h3]; exact hx
      have hsucc := cntTo_succ shEntry d j x hxd
      have hle := cntTo_le shEntry d (j + 1)
      have hms := mkTo_set shEntry d k j x hxd
      rw [← hkk.out] at hms
      rw [cnt_Entry] at hsucc
      obtain ⟨rfl, rfl⟩ := openO_Entry hoe
      have hkn : kk + (1 + 1) ≤ 1000000000000 := by have h1 := hkk.out; have h2 := HL.out.2; rw [← h2] at hle; omega
      have HK : Hid (kk + (1 + 1) = k + cntTo shEntry d (j + 1)) := by show _ = _; rw [hsucc, hkk.out]; omega
      have hq0 : cur[j * 2]? = some (.int .i64 (x.1)) := hcur 0 (by decide)
      have hq1 : cur[j * 2 + 1]? = some (.string (x.2.1)) := hcur 1 (by decide)
      have HQ : Hid (cur[j * 2]? = some (.int .i64 (x.1)) ∧ cur[j * 2 + 1]? = some (.string (x.2.1)) ∧ True) := ⟨hq0, hq1, trivial⟩
      have qc1 : Hid (∀ w' : World, Calls Tryz.prog 45 #[.int .i64 ((kk : Int) + 1)] w' fun e w'' => e = .returned (.string (mtext (kk + 1))) ∧ Below w'.heap.size w' w'') := fun w' => by
        have e : (((kk + 1 : Nat)) : Int) = (kk : Int) + 1 := by omega
        rw [← e]
        exact markText_any (kk + 1) w' (by omega) (by omega)
      obtain ⟨T1, hT1⟩ : ∃ T, T = mtext (kk + 1) := ⟨_, rfl⟩
      have HT1 : Hid (T1 = mtext (kk + 1)) := hT1
      rw [← hT1] at qc1
      clear hT1
      have HGN : Hid (True) := trivial
      have HMS : Hid (List.set (mkTo shEntry d k j) j (shEntry.mk x kk) = mkTo shEntry d k (j + 1)) := hms
      have HCL : Hid (∀ (w2 : World) (c' : List Value) (x' : shEntry.D), Own shEntry w2 B c' x' ([]) → w2.heap[g]? = some (.cells (setRow cur.toList (j * shEntry.size) c').toArray t (0, 0)) → (∀ y ∈ F, y ≠ g → y ∉ [] → w2.heap[y]? = wr.heap[y]?) → Own (.sl shEntry) w2 B [.slice (some ⟨g, 0, none⟩) n cap] (List.set (mkTo shEntry d k j) j x') F) := hclose
      obtain ⟨uwr_0, ywr_0⟩ : ∃ u, wr.cell? ⟨g, j * 2, none⟩ = some u := ⟨_, box_cell hh (by exact HQ.out.1)⟩
      have yfwr_0 : wr.frozen? ⟨g, j * 2, none⟩ = false := box_frozen hh
      obtain ⟨uwr_1, ywr_1⟩ : ∃ u, wr.cell? ⟨g, j * 2 + 1, none⟩ = some u := ⟨_, box_cell hh (by exact HQ.out.2.1)⟩
      have yfwr_1 : wr.frozen? ⟨g, j * 2 + 1, none⟩ = false := box_frozen hh
      clear hms hclose hcur hsucc hle hx hxd hoe hgf hq0 hq1
      go_wp2_with fail
      obtain ⟨W1, hW1⟩ : ∃ W, W = (wr).setCell ⟨g, j * 2, none⟩ (.int .i64 ((kk : Int))) := ⟨_, rfl⟩
      have hhW1 : W1.heap[g]? = some (.cells ((cur).setIfInBounds (j * 2) (.int .i64 ((kk : Int)))) t (0, 0)) := by rw [hW1]; exact box_set (j := j * 2) (.int .i64 ((kk : Int))) (hh)
      have tW1 : Touch w W1 F := by rw [hW1]; exact (ht.trans (Touch.set _ g _ _ hgF))
      have rW1 : Hid (∀ y ∈ F, y ≠ g → y ∉ [] → W1.heap[y]? = wr.heap[y]?) := fun y hy hyg hyf => by rw [hW1]; exact ((box_other _ hyg).trans rfl)
      have zW1 : wr.heap.size ≤ W1.heap.size := by rw [hW1]; simp
      rw [← hW1]
      refine (qc1.out _).mono ?_
      rintro e w1 ⟨rfl, hb1⟩
      have tb1 : Touch W1 w1 F := Touch.of_below hb1 F
      have hhw1 : w1.heap[g]? = some (.cells ((cur).setIfInBounds (j * 2) (.int .i64 ((kk : Int)))) t (0, 0)) := (hb1.block g (lt_heap hhW1)).trans hhW1
      have rw1 : Hid (∀ y ∈ F, y ≠ g → y ∉ [] → w1.heap[y]? = wr.heap[y]?) := fun y hy hyg hyf => (hb1.block y (Nat.lt_of_lt_of_le (ho.out.lt y hy).2 zW1)).trans ((rW1.out y hy hyg hyf))
      have zw1 : wr.heap.size ≤ w1.heap.size := Nat.le_trans zW1 hb1.size
      have tw1 : Touch w w1 F := tW1.trans tb1
      obtain ⟨uw1_0, yw1_0⟩ : ∃ u, w1.cell? ⟨g, j * 2, none⟩ = some u := ⟨_, box_cell hhw1 (by rw [Array.getElem?_setIfInBounds_self_of_lt (by first | exact (Array.getElem?_eq_some_iff.1 HQ.out.1).1 | (simp only [Array.size_setIfInBounds]; exact (Array.getElem?_eq_some_iff.1 HQ.out.1).1))])⟩
      have yfw1_0 : w1.frozen? ⟨g, j * 2, none⟩ = false := box_frozen hhw1
      obtain ⟨uw1_1, yw1_1⟩ : ∃ u, w1.cell? ⟨g, j * 2 + 1, none⟩ = some u := ⟨_, box_cell hhw1 (by rw [Array.getElem?_setIfInBounds_ne (by omega)]; exact HQ.out.2.1)⟩
      have yfw1_1 : w1.frozen? ⟨g, j * 2 + 1, none⟩ = false := box_frozen hhw1
      have hfin : Own (.sl shEntry) ((w1).setCell ⟨g, j * 2 + 1, none⟩ (.string T1)) B [.slice (some ⟨g, 0, none⟩) n cap] (mkTo shEntry d k (j + 1)) F := by
        rw [← HMS.out]
        have l0 : Value.int .i64 ((kk : Int)) = Value.int .i64 (((kk : Nat)) : Int) := by congr 1 <;> omega
        have l1 : Value.string T1 = Value.string (mtext (kk + 1)) := by rw [HT1.out]
        refine HCL.out _ [.int .i64 ((kk : Int)), .string T1] _ ?_ ?_ ?_
        · have hb : Own shEntry ((w1).setCell ⟨g, j * 2 + 1, none⟩ (.string T1)) B [.int .i64 (((kk : Nat)) : Int), .string (mtext (kk + 1))] (shEntry.mk x kk) ([]) := own_Entry (w := (w1).setCell ⟨g, j * 2 + 1, none⟩ (.string T1)) (B := B) (d := shEntry.mk x kk) (mtext_le _)
          rw [l0, l1]
          exact hb
        · rw [show ((w1).setCell ⟨g, j * 2 + 1, none⟩ (.string T1)).heap[g]? = some (.cells (((cur).setIfInBounds (j * 2) (.int .i64 ((kk : Int)))).setIfInBounds (j * 2 + 1) (.string T1)) t (0, 0)) from box_set (j := j * 2 + 1) (.string T1) (hhw1)]
          congr 2
          apply Array.ext'
          simp only [Array.toList_setIfInBounds]
          show _ = setRow cur.toList (j * 2) [.int .i64 ((kk : Int)), .string T1]
          rw [setRow]
          rw [setRow]
          all_goals (first | rfl | (rw [setRow]; all_goals rfl))
        · intro y hy hyg hyf; exact ((box_other _ hyg).trans (rw1.out y hy hyg hyf))
      have HFIN : Hid (Own (.sl shEntry) ((w1).setCell ⟨g, j * 2 + 1, none⟩ (.string T1)) B [.slice (some ⟨g, 0, none⟩) n cap] (mkTo shEntry d k (j + 1)) F ∧ Touch w ((w1).setCell ⟨g, j * 2 + 1, none⟩ (.string T1)) F) := ⟨hfin, (tw1.trans (Touch.set _ g _ _ hgF))⟩
      clear hfin tw1 hhw1 
      go_wp2
      go_roundw
      case rel => exact ⟨j + 1, kk + (1 + 1), by omega, by congr 1 <;> omega, by go_num, HK.out, by omega, HFIN.out.1, HFIN.out.2⟩
      case measure => simp [intOf]; omega
    · have e : j = n := by omega
      subst e
      have hfin : Own (.sl shEntry) wr B [.slice a j cap] (Sh.mk (.sl shEntry) d k) F := (congrArg (fun z => Own (.sl shEntry) wr B [.slice a j cap] z F) (mkTo_all shEntry d k j (Nat.le_of_eq HL.out.1))).mp ho.out
      have hke : kk = k + C := by rw [hkk.out, HL.out.2, cntTo_all shEntry d j (Nat.le_of_eq HL.out.1)]
      have HH : Hid (Own (.sl shEntry) wr B [.slice a j cap] (Sh.mk (.sl shEntry) d k) F ∧ kk = k + C) := ⟨hfin, hke⟩
      clear hfin ho hke hkk
      go_wp2
      go_ret
      exact ⟨by rw [← HH.out.2]; rfl, HH.out.1, ht⟩

set_option maxRecDepth 100000 in
set_option maxHeartbeats 2000000 in
theorem heldEntryS_own (a : Option Addr) (n cap B k : Nat) (d : List shEntry.D) (F : List Nat) (w : World) (ho : Own (.sl shEntry) w B [.slice a n cap] (Sh.mk (.sl shEntry) d k) F) (hnd : F.Nodup) (hk0 : 1 ≤ k) (hk : k + Sh.cnt (.sl shEntry) d ≤ 1000000000000) :
    Calls Tryz.prog 18 #[.slice a n cap, .int .i64 k] w fun e w' => e = .returned (.int .i64 ((k + Sh.cnt (.sl shEntry) d : Nat) : Int)) ∧ Below w.heap.size w w' := by
  obtain ⟨hl0, hm, hg⟩ := own_len ho
  have hl : d.length = n := by rw [← hl0]; exact (mkRow_length _ _ _ _).symm
  obtain ⟨C, hC⟩ : ∃ C, C = Sh.cnt (.sl shEntry) d := ⟨_, rfl⟩
  rw [← hC] at hk ⊢
  have HO : Hid (Own (.sl shEntry) w B [.slice a n cap] (Sh.mk (.sl shEntry) d k) F ∧ F.Nodup) := ⟨ho, hnd⟩
  have HL : Hid (d.length = n ∧ C = Sh.cnt (.sl shEntry) d) := ⟨hl, hC⟩
  clear ho hnd hl hl0 hC
  unfold maxLen at hm
  go_enter Tryz.func18, Tryz.ntmps18
  go_wp2
  go_loopw [1, 5] (fun m i wr => ∃ j kk : Nat, j ≤ n ∧ m = .int .i64 (kk : Int) ∧ i = .int .i64 j ∧ Hid (kk = k + cntTo shEntry d j) ∧ 1 ≤ kk ∧ Below w.heap.size w wr) (fun _ i _ => n - (intOf i).toNat)
  case atStart => exact ⟨0, k, Nat.zero_le _, rfl, rfl, by show k = _; rw [cntTo_zero]; rfl, hk0, Below.refl _ _⟩
  case round =>
    obtain ⟨j, kk, hj, rfl, rfl, hkk, hkk1, hbel⟩ := hrel
    by_cases hlt : j < n
    · obtain ⟨g, rfl⟩ := hg.resolve_left (by omega)
      obtain ⟨t, cur, c, x', f, hh, hx', hoe, hnf, hgf, hfF, hgF, hBg, hcur, -⟩ := own_elem HO.out.1 HO.out.2 j hlt
      have hjd : j < d.length := by rw [HL.out.1]; exact hlt
      obtain ⟨x, hxe⟩ : ∃ x, x = d[j] := ⟨_, rfl⟩
      have hxd : shEntry.at d j = some x := by rw [hxe]; exact List.getElem?_eq_getElem hjd
      have hxm := mk_at shEntry d k j x hxd
      rw [← hkk.out] at hxm
      obtain rfl : shEntry.mk x kk = x' := Option.some.inj (hxm.symm.trans hx')
      have hsucc := cntTo_succ shEntry d j x hxd
      have hle := cntTo_le shEntry d (j + 1)
      rw [cnt_Entry] at hsucc
      have hglt := lt_heap hh
      obtain ⟨rfl, rfl⟩ := openO_Entry hoe
      have hkn : kk + (1 + 1) ≤ 1000000000000 := by have h1 := hkk.out; have h2 := HL.out.2; rw [← h2] at hle; omega
      have HK : Hid (kk + (1 + 1) = k + cntTo shEntry d (j + 1)) := by show _ = _; rw [hsucc, hkk.out]; omega
      have e0 : Value.int .i64 (((kk : Nat)) : Int) = Value.int .i64 ((kk : Int)) := by congr 1 <;> omega
      have cw0 : w.cell? ⟨g, j * 2, none⟩ = some (.int .i64 ((kk : Int))) := (box_cell hh (hcur 0 (by decide))).trans (congrArg some e0)
      have ne0 : (((kk : Int)) != ((kk : Int))) = false := by simp
      obtain ⟨T1, hT1⟩ : ∃ T, T = mtext (kk + 1) := ⟨_, rfl⟩
      have qc1 : Hid (∀ w' : World, Calls Tryz.prog 45 #[.int .i64 ((kk : Int) + 1)] w' fun e w'' => e = .returned (.string T1) ∧ Below w'.heap.size w' w'') := fun w' => by
        have e : (((kk + 1 : Nat)) : Int) = (kk : Int) + 1 := by omega
        rw [← e, hT1]
        exact markText_any (kk + 1) w' (by omega) (by omega)
      have e1 : Value.string (mtext (kk + 1)) = Value.string T1 := by rw [hT1]
      have cw1 : w.cell? ⟨g, j * 2 + 1, none⟩ = some (.string T1) := (box_cell hh (hcur 1 (by decide))).trans (congrArg some e1)
      have ne1 : (T1.toList != T1.toList) = false := by simp
      clear hh hx' hoe hnf hgf hfF hgF hBg hcur hxd hxm hsucc hle hxe e0 e1 hT1
      have HCW : Hid (w.cell? ⟨g, j * 2, none⟩ = some (.int .i64 ((kk : Int))) ∧ w.cell? ⟨g, j * 2 + 1, none⟩ = some (.string T1) ∧ True) := ⟨cw0, cw1, trivial⟩
      clear cw0 cw1
      have ywr_0 : wr.cell? ⟨g, j * 2, none⟩ = _ := (hbel.cell (p := ⟨g, j * 2, none⟩) hglt).trans HCW.out.1
      have ywr_1 : wr.cell? ⟨g, j * 2 + 1, none⟩ = _ := (hbel.cell (p := ⟨g, j * 2 + 1, none⟩) hglt).trans HCW.out.2.1
      go_wp2_with fail
      have zz1 := hbel.size
      go_region_held (fun w' => w'.cell? ⟨g, j * 2 + 1, none⟩ = some (.string T1))
        (first | go_keep | (refine (hb1.cell (p := ⟨g, j * 2 + 1, none⟩) (by simp; omega)).trans ?_; assumption))
        ((go_at_call 45; refine (qc1.out _).mono ?_; rintro e w1 ⟨rfl, hb1⟩))
      have b1 := hbel.drew.trans (hb1.mono hbel.drew.size)
      clear hb1
      go_wp2
      go_roundw
      case rel => exact ⟨j + 1, kk + (1 + 1), by omega, by congr 1 <;> omega, by go_num, HK.out, by omega, b1⟩
      case measure => simp [intOf]; omega
    · have e : j = n := by omega
      subst e
      have hke : kk = k + C := by rw [hkk.out, HL.out.2, cntTo_all shEntry d j (Nat.le_of_eq HL.out.1)]
      have HH : Hid (kk = k + C) := hke
      clear hke hkk
      go_wp2
      go_ret
      exact ⟨by rw [← HH.out]; rfl, hbel⟩

end Go.Proofs.YtkfmpfbhhmmllaaGreat
