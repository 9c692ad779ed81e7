/-
  What the helpers of the exact laws do to slices of strings: markText, eqStringS, markStringS, heldStringS.
-/
import Derived.Test.YtmikibekioekmalDoorRows
import Derived.WalkKit
import Derived.WalkSpells
import Derived.WalkLawsBesides
import Derived.Laws.BytesArg
import Derived.Deep.QuietTactic
import Derived.BigQuiet
import Derived.Deep.RegionHeld3
import Derived.Deep.AppendLies
namespace Go.Proofs.YtmikibekioekmalDoor
open Go.RowKit
set_option linter.unusedVariables false

theorem Tryd.infoS : (Tryd.prog.info? 9).map (fun i => (i.zero, i.size, i.bytes)) = some (some (.string ByteArray.empty), 1, 16) := by kernel_rfl

theorem below_grown {w w' : World} (h : Below w.heap.size w w') : w.grownBy w' none := ⟨h.os, h.tape, h.output, h.size, fun k hk _ => h.block k hk⟩

theorem own_later {w w' : World} {base : Nat} {e : TypeId} {size : Nat} {v : Value} {n : Nat} {xs : List Value} (h : w.ownsRow base e size v n xs) (hb : Below w.heap.size w w') : w'.ownsRow base e size v n xs := by
  refine h.kept (below_grown hb) ?_
  cases v.ownBlock with
  | none => exact .inl rfl
  | some x => exact .inr (by simp)

theorem grownBy_trans {a b c : World} {row : Option Nat} (h : a.grownBy b row) (k : b.grownBy c row) : a.grownBy c row :=
  ⟨k.os.trans h.os, k.tape.trans h.tape, k.output.trans h.output, Nat.le_trans h.size k.size, fun i hi hr => (k.block i (Nat.lt_of_lt_of_le hi h.size) hr).trans (h.block i hi hr)⟩

theorem grownBy_any {a b : World} (h : a.grownBy b none) (row : Option Nat) : a.grownBy b row := ⟨h.os, h.tape, h.output, h.size, fun k hk _ => h.block k hk (by simp)⟩

/-- The text that markText makes of k, the digits laid ahead of o. -/
def mgo : Nat → Nat → ByteArray → ByteArray
  | 0, _, o => o
  | f + 1, k, o => if k = 0 then o else mgo f (k / 10) (strOfNums [48 + (k : Int) % 10] ++ o)
def mtext (k : Nat) : ByteArray := ⟨#[109]⟩ ++ mgo 20 k ⟨#[]⟩

theorem one_byte (d : Int) (b : Nat) (W : World) (h : W.cell? ⟨b, 0, none⟩ = some (.int .u8 d)) :
    (convert 32 9 (.slice (some ⟨b, 0, none⟩) 1 1)).run Tryd.prog W = .ok (.string (strOfNums [d])) W := by
  refine run_convert_bytes_arg (P := Tryd.prog) W 32 5 Tryd.underlying32 Tryd.underlying5 b 0 1 1 [d] rfl ?_ 9 Tryd.underlying9
  intro i hi
  obtain rfl : i = 0 := by omega
  simpa using h

set_option maxHeartbeats 1000000 in
theorem markText_any (k : Nat) (w : World) (h0 : 1 ≤ k) (h1 : k ≤ 2097153) :
    Calls Tryd.prog 14 #[.int .i64 k] w fun e w' => e = .returned (.string (mtext k)) ∧ Below w.heap.size w w' := by
  have h0' : ¬ ((k : Int) ≤ 0) := by omega
  go_enter Tryd.func14, Tryd.ntmps14
  go_wp2
  go_loopw [0, 3] (fun n o wr => ∃ (f j : Nat) (t : ByteArray), n = .int .i64 j ∧ o = .string t ∧ j ≤ 2097153 ∧ Hid (j < 10 ^ f ∧ f ≤ 20 ∧ mgo 20 k ⟨#[]⟩ = mgo f j t) ∧ t.size + f ≤ 20 ∧ Below w.heap.size w wr) (fun n _ _ => (intOf n).toNat)
  case atStart => exact ⟨20, k, ⟨#[]⟩, rfl, rfl, h1, ⟨by omega, by omega, rfl⟩, by show 0 + 20 ≤ 20; omega, Below.refl _ _⟩
  case round =>
    obtain ⟨f, j, t, rfl, rfl, hj, HF, hts, hbel⟩ := hrel
    have hbs := hbel.size
    by_cases hj0 : 0 < j
    · have hj0' : (0 : Int) < (j : Int) := by omega
      obtain ⟨f', rfl⟩ : ∃ f', f = f' + 1 := by
        cases f with
        | zero => have := HF.out.1; simp at this; omega
        | succ f' => exact ⟨f', rfl⟩
      have hcv := one_byte (48 + (j : Int) % 10) wr.heap.size (wr.alloc (.cells #[.int .u8 (48 + (j : Int) % 10)] 5)) (by simp)
      obtain ⟨B, hB⟩ : ∃ B, B = strOfNums [48 + (j : Int) % 10] := ⟨_, rfl⟩
      have hBs : B.size = 1 := by rw [hB]; rfl
      have hsum : ¬ (9223372036854775807 < B.size + t.size) := by omega
      have HF2 : Hid (j / 10 < 10 ^ f' ∧ f' ≤ 20 ∧ mgo 20 k ⟨#[]⟩ = mgo f' (j / 10) (B ++ t)) := by
        obtain ⟨a1, a2, a3⟩ := HF.out
        refine ⟨by rw [Nat.pow_succ] at a1; omega, by omega, ?_⟩
        rw [a3, mgo, if_neg (by omega), hB]
      have hs2 : (B ++ t).size + f' ≤ 20 := by rw [ByteArray.size_append]; omega
      rw [← hB] at hcv
      clear hB HF
      go_wp2
      go_roundw
      case rel => exact ⟨f', j / 10, B ++ t, by go_num, rfl, by omega, HF2, hs2, hbel.alloc hbs _⟩
      case measure => simp [intOf]; omega
    · obtain rfl : j = 0 := by omega
      have hsum : ¬ (9223372036854775807 < (⟨#[109]⟩ : ByteArray).size + t.size) := by
        have : (⟨#[109]⟩ : ByteArray).size = 1 := rfl
        omega
      have HE : Hid (mtext k = ⟨#[109]⟩ ++ t) := by
        show mtext k = _
        rw [mtext, HF.out.2.2]
        cases f <;> rfl
      go_wp2
      go_ret
      exact ⟨by rw [HE.out]; rfl, hbel⟩

/-- The address a leads to the strings xs in w. -/
def RdS (w : World) (a : Option Addr) (xs : List ByteArray) : Prop :=
  xs = [] ∨ ∃ b off, a = some ⟨b, off, none⟩ ∧ b < w.heap.size ∧ ∀ i, i < xs.length → w.cell? ⟨b, off + i, none⟩ = some (.string (xs[i]?.getD ByteArray.empty))

theorem rdS_own {w : World} {base g n cap : Nat} {xs : List ByteArray} (hl : xs.length = n)
    (h : w.ownsRow base 9 1 (.slice (some ⟨g, 0, none⟩) n cap) n (xs.map Value.string)) : RdS w (some ⟨g, 0, none⟩) xs := by
  refine .inr ⟨g, 0, rfl, (h.lt g rfl).2, fun i hi => ?_⟩
  rw [Nat.zero_add, h.cellAt i (by omega)]
  simp [hi]

set_option maxHeartbeats 400000 in
theorem eqStringS_same (a b : Option Addr) (n ca cb : Nat) (xs : List ByteArray) (w : World) (hl : Hid (xs.length = n)) (hra : RdS w a xs) (hrb : RdS w b xs) (hn : n ≤ 2097152) :
    Calls Tryd.prog 7 #[.slice a n ca, .slice b n cb] w fun e w' => e = .returned (.bool true) ∧ Below w.heap.size w w' := by
  have hnn : ((n : Int) != (n : Int)) = false := by simp
  go_enter Tryd.func7, Tryd.ntmps7
  go_wp2
  go_loopw [5] (fun i wr => ∃ k : Nat, k ≤ n ∧ i = .int .i64 k ∧ Below w.heap.size w wr) (fun i _ => n - (intOf i).toNat)
  case atStart => exact ⟨0, Nat.zero_le _, rfl, Below.refl _ _⟩
  case round =>
    obtain ⟨k, hk, rfl, hbel⟩ := hrel
    by_cases hlt : k < n
    · have hne : xs ≠ [] := by intro h; have := hl.out; subst h; simp at this; omega
      obtain ⟨b1, o1, rfl, hb1, hc1⟩ := hra.resolve_left hne
      obtain ⟨b2, o2, rfl, hb2, hc2⟩ := hrb.resolve_left hne
      obtain ⟨t, ht⟩ : ∃ t, t = xs[k]?.getD ByteArray.empty := ⟨_, rfl⟩
      have g1 : wr.cell? ⟨b1, o1 + k, none⟩ = some (.string t) := by rw [ht]; exact (hbel.cell (p := ⟨b1, o1 + k, none⟩) hb1).trans (hc1 k (by have := hl.out; omega))
      have g2 : wr.cell? ⟨b2, o2 + k, none⟩ = some (.string t) := by rw [ht]; exact (hbel.cell (p := ⟨b2, o2 + k, none⟩) hb2).trans (hc2 k (by have := hl.out; omega))
      have hlt' : (k : Int) < (n : Int) := by omega
      clear hc1 hc2 hne hra hrb ht
      go_wp2
      go_quiet (fail)
      go_wp2
      go_roundw
      case rel => exact ⟨k + 1, by omega, by go_num, below_drewN hbel _⟩
      case measure => simp [intOf]; omega
    · go_wp2
      go_ret
      exact ⟨rfl, hbel⟩

/-- The marks of 1 .. k laid over xs. -/
def markedS (xs : List ByteArray) (k : Nat) : List ByteArray := (List.range xs.length).map fun i => if i < k then mtext (i + 1) else xs[i]?.getD ByteArray.empty

theorem markedS_zero (xs : List ByteArray) : markedS xs 0 = xs := by
  apply List.ext_getElem
  · simp [markedS]
  · intro i h1 h2
    simp [markedS, h2]

theorem markedS_set (xs : List ByteArray) (k : Nat) : ((markedS xs k).map Value.string).set k (.string (mtext (k + 1))) = (markedS xs (k + 1)).map Value.string := by
  apply List.ext_getElem
  · simp [markedS]
  · intro i h1 h2
    simp [markedS] at h1 h2
    rw [List.getElem_set]
    by_cases e : k = i
    · subst e; simp [markedS]
    · by_cases h : i < k
      · simp [markedS, e, h, Nat.lt_succ_of_lt h]
      · have : ¬ i < k + 1 := by omega
        simp [markedS, e, h, this]

set_option maxHeartbeats 1000000 in
theorem markStringS_any (g n cap base : Nat) (xs : List ByteArray) (w : World) (hl : Hid (xs.length = n)) (hn : n ≤ 2097152)
    (hown0 : w.ownsRow base 9 1 (.slice (some ⟨g, 0, none⟩) n cap) n (xs.map Value.string)) :
    Calls Tryd.prog 8 #[.slice (some ⟨g, 0, none⟩) n cap, .int .i64 1] w fun e w' => e = .returned (.int .i64 ((n : Int) + 1)) ∧
      w'.ownsRow base 9 1 (.slice (some ⟨g, 0, none⟩) n cap) n ((markedS xs n).map Value.string) ∧ w.grownBy w' (some g) := by
  go_enter Tryd.func8, Tryd.ntmps8
  go_wp2
  go_loopw [1, 5] (fun m i wr => ∃ k : Nat, k ≤ n ∧ m = .int .i64 ((k : Int) + 1) ∧ i = .int .i64 k ∧ wr.ownsRow base 9 1 (.slice (some ⟨g, 0, none⟩) n cap) n ((markedS xs k).map Value.string) ∧ w.grownBy wr (some g))
    (fun _ i _ => n - (intOf i).toNat)
  case atStart => exact ⟨0, Nat.zero_le _, rfl, rfl, by rw [markedS_zero]; exact hown0, World.grownBy.refl _ _⟩
  case round =>
    obtain ⟨k, hk, rfl, rfl, hown, hb⟩ := hrel
    by_cases hlt : k < n
    · obtain ⟨T, hT⟩ : ∃ T, T = mtext (k + 1) := ⟨_, rfl⟩
      have HT : Hid (T = mtext (k + 1)) := hT
      clear hT
      have HE1 : Hid ((k : Int) + 1 = ((k + 1 : Nat) : Int)) := by show (k : Int) + 1 = _; omega
      go_wp2_with fail
      rw [HE1.out]
      refine (markText_any (k + 1) _ (by omega) (by omega)).mono ?_
      rintro e w1 ⟨rfl, hb1⟩
      rw [← HT.out, ← HE1.out]
      have hown1 := own_later hown hb1
      have hgr1 := grownBy_trans hb (grownBy_any (below_grown hb1) (some g))
      have hfz := hown1.frozenAt k
      have hco : ∃ u, w1.cell? ⟨g, k, none⟩ = some u := by rw [hown1.cellAt k (by omega)]; exact ⟨_, List.getElem?_eq_getElem (by have := hl.out; simp [markedS]; omega)⟩
      obtain ⟨u, hco⟩ := hco
      have hst := hown1.stored k (.string T)
      rw [HT.out, markedS_set xs k, ← HT.out] at hst
      have HS : Hid (_ ∧ _) := hst
      have HB := grownBy_trans hgr1 HS.out.2
      clear hst hb hown hown1 hgr1
      go_wp2
      go_roundw
      case rel => exact ⟨k + 1, by omega, by go_num, by go_num, HS.out.1, HB⟩
      case measure => simp [intOf]; omega
    · have e : k = n := by omega
      subst e
      go_wp2
      go_ret
      exact ⟨rfl, hown, hb⟩

set_option maxRecDepth 100000 in
set_option maxHeartbeats 1000000 in
theorem heldStringS_marked (g n cap base : Nat) (xs : List ByteArray) (w : World) (hl : Hid (xs.length = n)) (hn : n ≤ 2097152)
    (hown : w.ownsRow base 9 1 (.slice (some ⟨g, 0, none⟩) n cap) n ((markedS xs n).map Value.string)) :
    Calls Tryd.prog 9 #[.slice (some ⟨g, 0, none⟩) n cap, .int .i64 1] w fun e w' => e = .returned (.int .i64 ((n : Int) + 1)) ∧ Below w.heap.size w w' := by
  have hg := (hown.lt g rfl).2
  go_enter Tryd.func9, Tryd.ntmps9
  go_wp2
  go_loopw [1, 5] (fun m i wr => ∃ k : Nat, k ≤ n ∧ m = .int .i64 ((k : Int) + 1) ∧ i = .int .i64 k ∧ Below w.heap.size w wr) (fun _ i _ => n - (intOf i).toNat)
  case atStart => exact ⟨0, Nat.zero_le _, rfl, rfl, Below.refl _ _⟩
  case round =>
    obtain ⟨k, hk, rfl, rfl, hbel⟩ := hrel
    by_cases hlt : k < n
    · obtain ⟨T, hT⟩ : ∃ T, T = mtext (k + 1) := ⟨_, rfl⟩
      have hc : wr.cell? ⟨g, k, none⟩ = some (.string T) := by
        rw [hbel.cell (p := ⟨g, k, none⟩) hg, hown.cellAt k (by omega), hT]
        have := hl.out
        simp [markedS, this, hlt]
      have hmt : ∀ W : World, Calls Tryd.prog 14 #[.int .i64 ((k : Int) + 1)] W fun e w' => e = .returned (.string T) ∧ Below W.heap.size W w' := by
        intro W
        have := markText_any (k + 1) W (by omega) (by omega)
        rw [← hT] at this
        exact this
      have hk0 : (0 : Int) ≤ (k : Int) := Int.natCast_nonneg _
      have hk1 : (k : Int) < (n : Int) := by omega
      have hgr : g < wr.heap.size := Nat.lt_of_lt_of_le hg hbel.size
      have HB : Hid (Below w.heap.size w wr) := hbel
      clear hown hT hbel
      go_wp2_with fail
      go_region_held3 (fun w' => w'.cell? ⟨g, k, none⟩ = some (.string T))
        (first | go_keep | (rw [hb1.cell (p := ⟨g, k, none⟩) (by simpa using hgr)]; simpa using hc))
        ((go_at_call 14; refine (hmt _).mono ?_; rintro e w1 ⟨rfl, hb1⟩))
      have hbel1 : Below w.heap.size w w1 := (HB.out.drew).trans (hb1.mono (by have := HB.out.size; simpa using this))
      go_wp2
      go_roundw
      case rel => exact ⟨k + 1, by omega, by go_num, by go_num, hbel1⟩
      case measure => simp [intOf]; omega
    · have e : k = n := by omega
      subst e
      go_wp2
      go_ret
      exact ⟨rfl, hbel⟩

end Go.Proofs.YtmikibekioekmalDoor
