/-
  Joined: Bytes, Marks, Open, Keep, Shp, OwnD, TyBase, TyLink, Nm, NameS.
-/
import Derived.Test.YtkaegbhmeonjfaaGreatRows
import Derived.WalkKit
import Derived.WalkSpells
import Derived.WalkLawsBesides
import Derived.Deep.QuietTactic
import Derived.BigQuiet
import Derived.ChangeArms
import Derived.Laws.BytesArg
import Derived.Deep.Slices
import Derived.Handy
import Derived.Deep.RegionHeld3
/- Bytes: What the helpers of the exact laws do to slices of bytes: toByteS copies, eqByteS compares. For slices of at most 1048576 bytes. -/
namespace Go.Proofs.YtkaegbhmeonjfaaGreat
open Go.RowKit
set_option linter.unusedVariables false
set_option maxRecDepth 100000

theorem Tryz.infoB : (Tryz.prog.info? 5).map (fun i => (i.zero, i.size, i.bytes)) = some (some (.int .u8 0), 1, 1) := by kernel_rfl

/-- The address a leads to the bytes zs in w. -/
def Rd (w : World) (a : Option Addr) (zs : List Int) : Prop :=
  (∀ i : Nat, 0 ≤ zs[i]?.getD 0 ∧ zs[i]?.getD 0 ≤ 255) ∧ (zs = [] ∨ ∃ b off, a = some ⟨b, off, none⟩ ∧ b < w.heap.size ∧ ∀ i, i < zs.length → w.cell? ⟨b, off + i, none⟩ = some (.int .u8 (zs[i]?.getD 0)))

theorem Rd.later {w w' : World} {a : Option Addr} {zs : List Int} (h : Rd w a zs) (hb : Below w.heap.size w w') : Rd w' a zs := by
  obtain ⟨h1, h2⟩ := h
  refine ⟨h1, ?_⟩
  rcases h2 with h2 | ⟨b, off, ha, hlt, hc⟩
  · exact .inl h2
  · exact .inr ⟨b, off, ha, Nat.lt_of_lt_of_le hlt hb.size, fun i hi => (hb.cell (p := ⟨b, off + i, none⟩) hlt).trans (hc i hi)⟩

/-- What toByteS has laid behind k rounds. -/
def half (zs : List Int) (n k : Nat) : List Int := (List.range n).map fun i => if i < k then zs[i]?.getD 0 else 0

theorem half_zero (zs : List Int) (n : Nat) : (madeCells #[Value.int .u8 0] n).toList = (half zs n 0).map (Value.int .u8) := by
  rw [toList_madeCells_one]
  apply List.ext_getElem
  · simp [half]
  · intro i h1 h2
    simp [half]

theorem half_full (zs : List Int) (n : Nat) (h : zs.length = n) : half zs n n = zs := by
  apply List.ext_getElem
  · simp [half, h]
  · intro i h1 h2
    simp [half] at h1
    simp [half, h1, h2]

theorem half_set (zs : List Int) (n k : Nat) (hk : k < n) : ((half zs n k).map (Value.int .u8)).set k (.int .u8 (zs[k]?.getD 0)) = (half zs n (k + 1)).map (Value.int .u8) := by
  apply List.ext_getElem
  · simp [half]
  · intro i h1 h2
    simp [half] at h1 h2
    rw [List.getElem_set]
    by_cases e : k = i
    · subst e; simp [half]
    · by_cases h : i < k
      · simp [half, e, h, Nat.lt_succ_of_lt h]
      · have : ¬ i < k + 1 := by omega
        simp [half, e, h, this]

set_option maxHeartbeats 400000 in
theorem toByteS_any (a : Option Addr) (n cap : Nat) (zs : List Int) (w : World) (hl : Hid (zs.length = n)) (hr : Rd w a zs) (hn : n ≤ 1048576) :
    Calls Tryz.prog 64 #[.slice a n cap] w fun e w' => e = .returned (.slice (some ⟨w.heap.size, 0, none⟩) n n) ∧
      w'.ownsRow w.heap.size 5 1 (.slice (some ⟨w.heap.size, 0, none⟩) n n) n (zs.map (Value.int .u8)) ∧ Below w.heap.size w w' := by
  obtain ⟨i0, hi, hz0, hz1, hz2⟩ := info_parts Tryz.infoB
  go_enter Tryz.func64, Tryz.ntmps64
  go_wp2_with (at_make; refine wpList_make_full _ rfl _ _ 43 rfl w.heap.size 5 i0 (.int .u8 0) 1 Tryz.underlying43 hi hz0 hz1 _ _ _ _ n rfl rfl rfl rfl ?b2 ?b3 (Nat.le_refl _) ?_)
  case b2 => rw [hz2]; omega
  case b3 => unfold maxLen; omega
  intro w0 hown0 hgrow0
  rw [half_zero zs] at hown0
  go_wp2
  go_loopw [4] (fun i wr => ∃ k : Nat, k ≤ n ∧ i = .int .i64 k ∧ wr.ownsRow w.heap.size 5 1 (.slice (some ⟨w.heap.size, 0, none⟩) n n) n ((half zs n k).map (Value.int .u8)) ∧ Below w.heap.size w wr)
    (fun i _ => n - (intOf i).toNat)
  case atStart => exact ⟨0, Nat.zero_le _, rfl, hown0, (Below.refl _ _).grown hgrow0 (Nat.le_refl _) (fun k h => by cases h)⟩
  case round =>
    obtain ⟨k, hk, rfl, hown, hb⟩ := hrel
    by_cases hlt : k < n
    · obtain ⟨b, off, rfl, hbl, hc⟩ : ∃ b off, a = some ⟨b, off, none⟩ ∧ b < w.heap.size ∧ ∀ i, i < n → w.cell? ⟨b, off + i, none⟩ = some (.int .u8 (zs[i]?.getD 0)) := by
        rcases hr.2 with h | ⟨b, off, h1, h2, h3⟩
        · have := hl.out; subst h; simp at this; omega
        · exact ⟨b, off, h1, h2, fun i hi => h3 i (by have := hl.out; omega)⟩
      have hcr : wr.cell? ⟨b, off + k, none⟩ = some (.int .u8 (zs[k]?.getD 0)) := (hb.cell (p := ⟨b, off + k, none⟩) hbl).trans (hc k hlt)
      have hfz := hown.frozenAt k
      have hco : ∃ u, wr.cell? ⟨w.heap.size, k, none⟩ = some u := by rw [hown.cellAt k (by omega)]; exact ⟨_, List.getElem?_eq_getElem (by simp [half]; omega)⟩
      obtain ⟨u, hco⟩ := hco
      have hst := hown.stored k (.int .u8 (zs[k]?.getD 0))
      rw [half_set zs n k hlt] at hst
      have HS : Hid (_ ∧ _) := hst
      have hbs : Below w.heap.size w (wr.setCell ⟨w.heap.size, k, none⟩ (.int .u8 (zs[k]?.getD 0))) := hb.setCell (Nat.le_refl _) _
      clear hst hc
      go_wp2
      go_roundw
      case rel => exact ⟨k + 1, by omega, by go_num, HS.out.1, hbs⟩
      case measure => simp [intOf]; omega
    · have e : k = n := by omega
      subst e
      rw [half_full zs k hl.out] at hown
      go_wp2
      go_ret
      exact ⟨rfl, hown, hb⟩

end Go.Proofs.YtkaegbhmeonjfaaGreat

/- Marks: What the helpers of the exact laws do to slices of bytes, more: eqByteS over two readings of one list says true; markByteS writes 1, 2, 3 .. (as bytes) into a row of the call's own; heldByteS finds them again. -/
namespace Go.Proofs.YtkaegbhmeonjfaaGreat
open Go.RowKit
set_option linter.unusedVariables false
set_option maxRecDepth 100000

set_option maxHeartbeats 400000 in
theorem eqByteS_same (a b : Option Addr) (n ca cb : Nat) (zs : List Int) (w : World) (hl : Hid (zs.length = n)) (hra : Rd w a zs) (hrb : Rd w b zs) (hn : n ≤ 2097152) :
    Calls Tryz.prog 69 #[.slice a n ca, .slice b n cb] w fun e w' => e = .returned (.bool true) ∧ ∃ q, w' = w.drewN q := by
  have hnn : ((n : Int) != (n : Int)) = false := by simp
  go_enter Tryz.func69, Tryz.ntmps69
  go_wp2
  go_loopw [5] (fun i wr => ∃ k : Nat, k ≤ n ∧ i = .int .i64 k ∧ ∃ q, wr = w.drewN q) (fun i _ => n - (intOf i).toNat)
  case atStart => exact ⟨0, Nat.zero_le _, rfl, 0, rfl⟩
  case round =>
    obtain ⟨k, hk, rfl, q, rfl⟩ := hrel
    by_cases hlt : k < n
    · have hne : zs ≠ [] := by intro h; have := hl.out; subst h; simp at this; omega
      obtain ⟨b1, o1, rfl, hb1, hc1⟩ := hra.2.resolve_left hne
      obtain ⟨b2, o2, rfl, hb2, hc2⟩ := hrb.2.resolve_left hne
      have g1 : w.cell? ⟨b1, o1 + k, none⟩ = some (.int .u8 (zs[k]?.getD 0)) := hc1 k (by have := hl.out; omega)
      have g2 : w.cell? ⟨b2, o2 + k, none⟩ = some (.int .u8 (zs[k]?.getD 0)) := hc2 k (by have := hl.out; omega)
      have hlt' : (k : Int) < (n : Int) := by omega
      clear hc1 hc2 hne hra hrb
      go_wp2
      go_quiet (fail)
      go_wp2
      go_roundw
      case rel => exact ⟨k + 1, by omega, by go_num, _, rfl⟩
      case measure => simp [intOf]; omega
    · go_wp2
      go_ret
      exact ⟨rfl, q, rfl⟩

theorem grownBy_trans {a b c : World} {row : Option Nat} (h : a.grownBy b row) (k : b.grownBy c row) : a.grownBy c row :=
  ⟨k.os.trans h.os, k.tape.trans h.tape, k.output.trans h.output, Nat.le_trans h.size k.size, fun i hi hr => (k.block i (Nat.lt_of_lt_of_le hi h.size) hr).trans (h.block i hi hr)⟩

/-- The marks 1 .. k laid over xs. -/
def marked (xs : List Int) (k : Nat) : List Int := (List.range xs.length).map fun i => if i < k then ((i : Int) + 1) % 256 else xs[i]?.getD 0

theorem marked_zero (xs : List Int) : marked xs 0 = xs := by
  apply List.ext_getElem
  · simp [marked]
  · intro i h1 h2
    simp [marked, h2]

theorem marked_set (xs : List Int) (k : Nat) : ((marked xs k).map (Value.int .u8)).set k (.int .u8 (((k : Int) + 1) % 256)) = (marked xs (k + 1)).map (Value.int .u8) := by
  apply List.ext_getElem
  · simp [marked]
  · intro i h1 h2
    simp [marked] at h1 h2
    rw [List.getElem_set]
    by_cases e : k = i
    · subst e; simp [marked]
    · by_cases h : i < k
      · simp [marked, e, h, Nat.lt_succ_of_lt h]
      · have : ¬ i < k + 1 := by omega
        simp [marked, e, h, this]

set_option maxHeartbeats 400000 in
theorem markByteS_any (g n cap base : Nat) (xs : List Int) (w : World) (hl : Hid (xs.length = n)) (hn : n ≤ 2097152)
    (hown0 : w.ownsRow base 5 1 (.slice (some ⟨g, 0, none⟩) n cap) n (xs.map (Value.int .u8))) :
    Calls Tryz.prog 70 #[.slice (some ⟨g, 0, none⟩) n cap, .int .i64 1] w fun e w' => e = .returned (.int .i64 ((n : Int) + 1)) ∧
      w'.ownsRow base 5 1 (.slice (some ⟨g, 0, none⟩) n cap) n ((marked xs n).map (Value.int .u8)) ∧ w.grownBy w' (some g) := by
  go_enter Tryz.func70, Tryz.ntmps70
  go_wp2
  go_loopw [1, 5] (fun m i wr => ∃ k : Nat, k ≤ n ∧ m = .int .i64 ((k : Int) + 1) ∧ i = .int .i64 k ∧ wr.ownsRow base 5 1 (.slice (some ⟨g, 0, none⟩) n cap) n ((marked xs k).map (Value.int .u8)) ∧ w.grownBy wr (some g))
    (fun _ i _ => n - (intOf i).toNat)
  case atStart => exact ⟨0, Nat.zero_le _, rfl, rfl, by rw [marked_zero]; exact hown0, World.grownBy.refl _ _⟩
  case round =>
    obtain ⟨k, hk, rfl, rfl, hown, hb⟩ := hrel
    by_cases hlt : k < n
    · have hfz := hown.frozenAt k
      have hco : ∃ u, wr.cell? ⟨g, k, none⟩ = some u := by rw [hown.cellAt k (by omega)]; exact ⟨_, List.getElem?_eq_getElem (by have := hl.out; simp [marked]; omega)⟩
      obtain ⟨u, hco⟩ := hco
      have hst := hown.stored k (.int .u8 (((k : Int) + 1) % 256))
      rw [marked_set xs k] at hst
      have HS : Hid (_ ∧ _) := hst
      have HB := grownBy_trans hb HS.out.2
      clear hst hb hown
      go_wp2
      go_roundw
      case rel => exact ⟨k + 1, by omega, by go_num, by go_num, HS.out.1, HB⟩
      case measure => simp [intOf]; omega
    · have e : k = n := by omega
      subst e
      go_wp2
      go_ret
      exact ⟨rfl, hown, hb⟩

set_option maxHeartbeats 400000 in
/-- No element: nothing is written. -/
theorem markByteS_none (a : Option Addr) (cap : Nat) (w : World) :
    Calls Tryz.prog 70 #[.slice a 0 cap, .int .i64 1] w fun e w' => e = .returned (.int .i64 1) ∧ w' = w := by
  go_enter Tryz.func70, Tryz.ntmps70
  go_wp2
  go_loop [1, 5] (fun m i => m = .int .i64 1 ∧ i = .int .i64 0) (fun _ _ => 0)
  case atStart => exact ⟨rfl, rfl⟩
  case round =>
    obtain ⟨rfl, rfl⟩ := hrel
    go_wp2
    go_ret
    exact ⟨rfl, rfl⟩

set_option maxHeartbeats 400000 in
theorem heldByteS_marked (g n cap base : Nat) (xs : List Int) (w : World) (hl : Hid (xs.length = n)) (hn : n ≤ 2097152)
    (hown : w.ownsRow base 5 1 (.slice (some ⟨g, 0, none⟩) n cap) n ((marked xs n).map (Value.int .u8))) :
    Calls Tryz.prog 103 #[.slice (some ⟨g, 0, none⟩) n cap, .int .i64 1] w fun e w' => e = .returned (.int .i64 ((n : Int) + 1)) ∧ w' = w := by
  go_enter Tryz.func103, Tryz.ntmps103
  go_wp2
  go_loop [1, 5] (fun m i => ∃ k : Nat, k ≤ n ∧ m = .int .i64 ((k : Int) + 1) ∧ i = .int .i64 k) (fun _ i => n - (intOf i).toNat)
  case atStart => exact ⟨0, Nat.zero_le _, rfl, rfl⟩
  case round =>
    obtain ⟨k, hk, rfl, rfl⟩ := hrel
    by_cases hlt : k < n
    · have hc : w.cell? ⟨g, k, none⟩ = some (.int .u8 (((k : Int) + 1) % 256)) := by
        rw [hown.cellAt k (by omega)]
        have := hl.out
        simp [marked, this, hlt]
      have hne : ((((k : Int) + 1) % 256) != (((k : Int) + 1) % 256)) = false := by simp
      clear hown
      go_wp2
      go_round
      case rel => exact ⟨k + 1, by omega, by go_num, by go_num⟩
      case measure => simp [intOf]; omega
    · have e : k = n := by omega
      subst e
      go_wp2
      go_ret
      exact ⟨rfl, rfl⟩

set_option maxHeartbeats 400000 in
theorem heldByteS_none (a : Option Addr) (cap : Nat) (w : World) :
    Calls Tryz.prog 103 #[.slice a 0 cap, .int .i64 1] w fun e w' => e = .returned (.int .i64 1) ∧ w' = w := by
  go_enter Tryz.func103, Tryz.ntmps103
  go_wp2
  go_loop [1, 5] (fun m i => m = .int .i64 1 ∧ i = .int .i64 0) (fun _ _ => 0)
  case atStart => exact ⟨rfl, rfl⟩
  case round =>
    obtain ⟨rfl, rfl⟩ := hrel
    go_wp2
    go_ret
    exact ⟨rfl, rfl⟩

end Go.Proofs.YtkaegbhmeonjfaaGreat

/- Open: From the reading of a slice of bytes that came in to 'Rd', and small facts on worlds and owned rows. -/
namespace Go.Proofs.YtkaegbhmeonjfaaGreat
open Go.RowKit
set_option linter.unusedVariables false
set_option maxRecDepth 100000

theorem rd_of {w : World} {a : Option Addr} {len cap : Nat} {zs : List Int}
    (h : (a = none ∧ len = 0 ∧ cap = 0 ∧ zs = []) ∨
      ∃ x, a = some x ∧ len ≤ cap ∧ cap ≤ maxLen ∧ zs.length = cap ∧ (∀ i, i < zs.length → w.cell? (x.add i) = some (.int .u8 (zs.getD i 0))) ∧ ∀ n ∈ zs, (Lit.int .u8 n).wf = true) :
    Rd w a (zs.take len) ∧ (zs.take len).length = len ∧ len ≤ maxLen := by
  rcases h with ⟨rfl, rfl, rfl, rfl⟩ | ⟨x, rfl, hl, hm, hz, hc, hw⟩
  · exact ⟨⟨fun i => by simp, .inl rfl⟩, rfl, Nat.zero_le _⟩
  · refine ⟨⟨fun i => ?_, ?_⟩, by rw [List.length_take]; omega, by omega⟩
    · by_cases h : i < len
      · have hi : i < zs.length := by omega
        have := hw zs[i] (List.getElem_mem hi)
        simp [Lit.wf, IntKind.min, IntKind.max, IntKind.signed, IntKind.bits] at this
        simp [h, hi]
        exact this
      · simp [List.getElem?_take, h]
    · by_cases h0 : len = 0
      · left; subst h0; rfl
      · right
        obtain ⟨b, off, spot⟩ := x
        have h1 := hc 0 (by omega)
        have hspot : spot = none := by simpa [Addr.add] using World.cell?_spot h1
        subst hspot
        refine ⟨b, off, rfl, ?_, ?_⟩
        · exact World.block_lt_of_cell? w _ h1
        · intro i hi
          rw [List.length_take] at hi
          have h2 := hc i (by omega)
          have h3 : i < len := by omega
          have h4 : i < zs.length := by omega
          have e : (⟨b, off, none⟩ : Addr).add i = ⟨b, off + i, none⟩ := by cases i <;> simp [Addr.add]
          rw [e] at h2
          simpa [h3, h4] using h2

theorem wf64 {n : Int} (h : (Lit.int .i64 n).wf = true) : -9223372036854775808 ≤ n ∧ n ≤ 9223372036854775807 := by
  simpa [Lit.wf, IntKind.min, IntKind.max, IntKind.signed, IntKind.bits] using h

/-- A row that the call owns can be read. -/
theorem rd_own {w : World} {base g n cap : Nat} {zs : List Int} (hl : zs.length = n) (hz : ∀ i : Nat, 0 ≤ zs[i]?.getD 0 ∧ zs[i]?.getD 0 ≤ 255)
    (h : w.ownsRow base 5 1 (.slice (some ⟨g, 0, none⟩) n cap) n (zs.map (Value.int .u8))) : Rd w (some ⟨g, 0, none⟩) zs := by
  refine ⟨hz, .inr ⟨g, 0, rfl, (h.lt g rfl).2, fun i hi => ?_⟩⟩
  rw [Nat.zero_add, h.cellAt i (by omega)]
  simp [hi]

theorem rd_kept {w w' : World} {a : Option Addr} {zs : List Int} {row : Option Nat} (h : Rd w a zs) (hg : w.grownBy w' row) (hne : ∀ x, a = some x → some x.block ≠ row) : Rd w' a zs := by
  obtain ⟨h1, h2⟩ := h
  refine ⟨h1, ?_⟩
  rcases h2 with h2 | ⟨b, off, rfl, hlt, hc⟩
  · exact .inl h2
  · exact .inr ⟨b, off, rfl, Nat.lt_of_lt_of_le hlt hg.size, fun i hi => hg.cell (hc i hi) (hne ⟨b, off, none⟩ rfl)⟩

theorem rd_drewN {w : World} {a : Option Addr} {zs : List Int} (h : Rd w a zs) (q : Nat) : Rd (w.drewN q) a zs := h

end Go.Proofs.YtkaegbhmeonjfaaGreat

/- Keep: Owned rows that stay owned, in the forms that the exact laws' walks want. -/
namespace Go.Proofs.YtkaegbhmeonjfaaGreat
open Go.RowKit
set_option linter.unusedVariables false
set_option maxRecDepth 100000

theorem below_grown {w w' : World} (h : Below w.heap.size w w') : w.grownBy w' none := ⟨h.os, h.tape, h.output, h.size, fun k hk _ => h.block k hk⟩

theorem own_later {w w' : World} {base : Nat} {e : TypeId} {size : Nat} {v : Value} {n : Nat} {xs : List Value} (h : w.ownsRow base e size v n xs) (hb : Below w.heap.size w w') : w'.ownsRow base e size v n xs := by
  refine h.kept (below_grown hb) ?_
  cases v.ownBlock with
  | none => exact .inl rfl
  | some x => exact .inr (by simp)

theorem own_form {w : World} {base : Nat} {e : TypeId} {size : Nat} {v : Value} {n : Nat} {xs : List Value} (h : w.ownsRow base e size v n xs) (hn : 0 < n) : ∃ g cap, v = .slice (some ⟨g, 0, none⟩) n cap ∧ base ≤ g ∧ g < w.heap.size := by
  rcases h.2 with ⟨_, h0⟩ | ⟨g, cap, cur, hv, hg, _⟩
  · omega
  · exact ⟨g, cap, hv, hg, (h.lt g (by rw [hv]; rfl)).2⟩

theorem own_base {w : World} {base base' : Nat} {e : TypeId} {size : Nat} {g : Nat} {n cap : Nat} {xs : List Value} (h : w.ownsRow base e size (.slice (some ⟨g, 0, none⟩) n cap) n xs) (hb : base' ≤ g) : w.ownsRow base' e size (.slice (some ⟨g, 0, none⟩) n cap) n xs := by
  refine ⟨h.1, ?_⟩
  rcases h.2 with ⟨h1, h2⟩ | ⟨g', cap', cur, hv, hg, r⟩
  · simp at h1
  · simp only [Value.slice.injEq, Option.some.injEq, Addr.mk.injEq, and_true, true_and] at hv
    obtain ⟨rfl, rfl⟩ := hv
    exact .inr ⟨g, cap, cur, rfl, hb, r⟩

theorem eqByteS_true (a b : Option Addr) (n ca cb : Nat) (zs : List Int) (w : World) (hl : Hid (zs.length = n)) (hra : Rd w a zs) (hrb : Rd w b zs) (hn : n ≤ 2097152) :
    Calls Tryz.prog 69 #[.slice a n ca, .slice b n cb] w fun e w' => e = .returned (.bool true) ∧ Below w.heap.size w w' := by
  refine (eqByteS_same a b n ca cb zs w hl hra hrb hn).mono ?_
  rintro e w' ⟨rfl, q, rfl⟩
  exact ⟨rfl, below_drewN (Below.refl _ _) q⟩

end Go.Proofs.YtkaegbhmeonjfaaGreat

/- Shp: Shapes of data (ints, bytes, bools, strings, fields one behind the other, slices) and what it is that cells hold such data: 'Reads'. One lemma for all shapes: what is read stays readable in later worlds; how much it holds ('sz'). -/
namespace Go.Proofs.YtkaegbhmeonjfaaGreat
open Go.RowKit
open Go.ChangeShapes Go.WideShapes
set_option linter.unusedVariables false
set_option maxRecDepth 100000

def mgo : Nat → Nat → ByteArray → ByteArray
  | 0, _, o => o
  | f + 1, k, o => if k = 0 then o else mgo f (k / 10) (strOfNums [48 + (k : Int) % 10] ++ o)
def mtext (k : Nat) : ByteArray := ⟨#[109]⟩ ++ mgo 20 k ⟨#[]⟩

/-- One behind the other. -/
def mkRow {α : Type} (f : α → Nat → α) (c : α → Nat) : List α → Nat → List α
  | [], _ => []
  | x :: l, k => f x k :: mkRow f c l (k + c x)


theorem sum_le {α : Type} (f g : α → Nat) (l : List α) (h : ∀ x ∈ l, f x ≤ g x) : (l.map f).sum ≤ (l.map g).sum := by
  induction l with
  | nil => simp
  | cons a l ih =>
    have h1 := h a (by simp)
    have h2 := ih fun x hx => h x (by simp [hx])
    simp; omega

theorem sum_mul {α : Type} (f : α → Nat) (c : Nat) (l : List α) : (l.map fun x => c * (f x + 1)).sum = c * ((l.map f).sum + l.length) := by
  induction l with
  | nil => simp
  | cons a l ih =>
    have e : c * ((f a + (l.map f).sum) + (l.length + 1)) = c * (f a + 1) + c * ((l.map f).sum + l.length) := by rw [← Nat.mul_add]; congr 1; omega
    simp only [List.map_cons, List.sum_cons, List.length_cons]
    rw [ih, e]

theorem mem_flatten_get {l : List (List Nat)} {x : Nat} (h : x ∈ l.flatten) : ∃ (i : Nat) (f : List Nat), l[i]? = some f ∧ x ∈ f := by
  obtain ⟨f, hf, hx⟩ := List.mem_flatten.1 h
  obtain ⟨i, hi, rfl⟩ := List.mem_iff_getElem.1 hf
  exact ⟨i, l[i], List.getElem?_eq_getElem hi, hx⟩

theorem flatten_get {n : Nat} : ∀ {l : List (List Value)} {i j : Nat} {c : List Value}, (∀ (k : Nat) (d : List Value), l[k]? = some d → d.length = n) → l[i]? = some c → j < n → l.flatten[i * n + j]? = c[j]?
  | [], i, j, c, _, h, _ => by simp at h
  | d :: l, 0, j, c, hl, h, hj => by
    simp at h; subst h
    have := hl 0 d rfl
    rw [List.flatten_cons, List.getElem?_append_left (by omega)]
    simp
  | d :: l, i + 1, j, c, hl, h, hj => by
    have hd := hl 0 d rfl
    rw [List.flatten_cons, List.getElem?_append_right (by rw [hd, Nat.add_mul]; omega), hd]
    have e : (i + 1) * n + j - n = i * n + j := by rw [Nat.add_mul]; omega
    rw [e]
    exact flatten_get (fun k d hk => hl (k + 1) d (by simpa using hk)) (by simpa using h) hj

/-- A byte's number. -/
def isByte (z : Int) : Prop := 0 ≤ z ∧ z ≤ 255

/-- A shape of data: what it is, how many cells a value has, how much it holds, what cells hold it (and such of the call's own, with the blocks named), how marks are written into it; and the laws of these. -/
structure Sh where shape ::
  D : Type
  size : Nat
  sz : D → Nat
  Rd : World → List Value → D → Prop
  Ow : World → Nat → List Value → D → List Nat → Prop
  cnt : D → Nat
  mk : D → Nat → D
  cntV : D → Nat
  mkV : D → Nat → D
  wd : Nat
  rd_length : ∀ {w : World} {cs : List Value} {d : D}, Rd w cs d → cs.length = size
  rd_later : ∀ {w w' : World} {cs : List Value} {d : D}, Rd w cs d → Below w.heap.size w w' → Rd w' cs d
  ow_length : ∀ {w : World} {B : Nat} {cs : List Value} {d : D} {F : List Nat}, Ow w B cs d F → cs.length = size
  ow_lt : ∀ {w : World} {B : Nat} {cs : List Value} {d : D} {F : List Nat}, Ow w B cs d F → ∀ g ∈ F, B ≤ g ∧ g < w.heap.size
  ow_keep : ∀ {w w' : World} {B : Nat} {cs : List Value} {d : D} {F : List Nat}, Ow w B cs d F → (∀ g ∈ F, w'.heap[g]? = w.heap[g]?) → Ow w' B cs d F
  ow_base : ∀ {w : World} {B B' : Nat} {cs : List Value} {d : D} {F : List Nat}, Ow w B cs d F → B' ≤ B → Ow w B' cs d F
  ow_reads : ∀ {w : World} {B : Nat} {cs : List Value} {d : D} {F : List Nat}, Ow w B cs d F → Rd w cs d
  cnt_le : ∀ d : D, cnt d ≤ wd * (sz d + 1)
  cntV_le : ∀ d : D, cntV d ≤ cnt d

/-- A shape of one cell that leads to no block. -/
def Sh.leaf (D : Type) (z : D → Nat) (R : List Value → D → Prop) (m : D → Nat → D) (hl : ∀ cs d, R cs d → cs.length = 1) : Sh where
  D := D
  size := 1
  sz := z
  Rd := fun _ cs d => R cs d
  Ow := fun _ _ cs d F => R cs d ∧ F = []
  cnt := fun _ => 1
  mk := m
  cntV := fun _ => 0
  mkV := fun d _ => d
  wd := 1
  rd_length := fun h => hl _ _ h
  rd_later := fun h _ => h
  ow_length := fun h => hl _ _ h.1
  ow_lt := fun h g hg => by rw [h.2] at hg; cases hg
  ow_keep := fun h _ => h
  ow_base := fun h _ => h
  ow_reads := fun h => h.1
  cnt_le := fun _ => by omega
  cntV_le := fun _ => by omega

def Sh.int : Sh := Sh.leaf Int (fun _ => 0) (fun cs d => cs = [Value.int .i64 d]) (fun _ k => ((k : Nat) : Int)) (fun cs d h => by rw [h]; rfl)
def Sh.bool : Sh := Sh.leaf Bool (fun _ => 0) (fun cs d => cs = [Value.bool d]) (fun _ k => decide (k % 3 = 0)) (fun cs d h => by rw [h]; rfl)
def Sh.str : Sh := Sh.leaf ByteArray (fun d => ByteArray.size d) (fun cs d => cs = [Value.string d] ∧ ByteArray.size d ≤ maxLen) (fun _ k => mtext k) (fun cs d h => by rw [h.1]; rfl)
def Sh.u8 : Sh := Sh.leaf Int (fun _ => 0) (fun cs d => cs = [Value.int .u8 d] ∧ isByte d) (fun _ k => (((k % 256 : Nat)) : Int)) (fun cs d h => by rw [h.1]; rfl)

/-- No cell at all. -/
def Sh.none : Sh where
  D := Unit
  size := 0
  sz := fun _ => 0
  Rd := fun _ cs _ => cs = []
  Ow := fun _ _ cs _ F => cs = [] ∧ F = []
  cnt := fun _ => 0
  mk := fun d _ => d
  cntV := fun _ => 0
  mkV := fun d _ => d
  wd := 0
  rd_length := fun h => by rw [h]; rfl
  rd_later := fun h _ => h
  ow_length := fun h => by rw [h.1]; rfl
  ow_lt := fun h g hg => by rw [h.2] at hg; cases hg
  ow_keep := fun h _ => h
  ow_base := fun h _ => h
  ow_reads := fun h => h.1
  cnt_le := fun _ => by omega
  cntV_le := fun _ => by omega

/-- One behind the other. -/
def Sh.pair (a b : Sh) : Sh where
  D := a.D × b.D
  size := a.size + b.size
  sz := fun d => a.sz d.1 + b.sz d.2
  Rd := fun w cs d => ∃ c1 c2, cs = c1 ++ c2 ∧ a.Rd w c1 d.1 ∧ b.Rd w c2 d.2
  Ow := fun w B cs d F => ∃ c1 c2 F1 F2, cs = c1 ++ c2 ∧ F = F1 ++ F2 ∧ a.Ow w B c1 d.1 F1 ∧ b.Ow w B c2 d.2 F2
  cnt := fun d => a.cnt d.1 + b.cnt d.2
  mk := fun d k => (a.mk d.1 k, b.mk d.2 (k + a.cnt d.1))
  cntV := fun d => a.cntV d.1 + b.cntV d.2
  mkV := fun d k => (a.mkV d.1 k, b.mkV d.2 (k + a.cntV d.1))
  wd := a.wd + b.wd
  rd_length := fun ⟨c1, c2, e, h1, h2⟩ => by rw [e, List.length_append, a.rd_length h1, b.rd_length h2]
  rd_later := fun ⟨c1, c2, e, h1, h2⟩ hb => ⟨c1, c2, e, a.rd_later h1 hb, b.rd_later h2 hb⟩
  ow_length := fun ⟨c1, c2, F1, F2, e, _, h1, h2⟩ => by rw [e, List.length_append, a.ow_length h1, b.ow_length h2]
  ow_lt := fun ⟨c1, c2, F1, F2, _, e, h1, h2⟩ g hg => by
    rw [e] at hg
    rcases List.mem_append.1 hg with h | h
    · exact a.ow_lt h1 g h
    · exact b.ow_lt h2 g h
  ow_keep := fun ⟨c1, c2, F1, F2, e, eF, h1, h2⟩ hk => ⟨c1, c2, F1, F2, e, eF, a.ow_keep h1 fun g hg => hk g (by rw [eF]; exact List.mem_append_left _ hg), b.ow_keep h2 fun g hg => hk g (by rw [eF]; exact List.mem_append_right _ hg)⟩
  ow_base := fun ⟨c1, c2, F1, F2, e, eF, h1, h2⟩ hk => ⟨c1, c2, F1, F2, e, eF, a.ow_base h1 hk, b.ow_base h2 hk⟩
  ow_reads := fun ⟨c1, c2, F1, F2, e, _, h1, h2⟩ => ⟨c1, c2, e, a.ow_reads h1, b.ow_reads h2⟩
  cnt_le := fun d => by
    have h1 := a.cnt_le d.1
    have h2 := b.cnt_le d.2
    have h3 : a.wd * (a.sz d.1 + 1) ≤ a.wd * (a.sz d.1 + b.sz d.2 + 1) := Nat.mul_le_mul_left _ (by omega)
    have h4 : b.wd * (b.sz d.2 + 1) ≤ b.wd * (a.sz d.1 + b.sz d.2 + 1) := Nat.mul_le_mul_left _ (by omega)
    rw [Nat.add_mul]
    omega
  cntV_le := fun d => by
    have h1 := a.cntV_le d.1
    have h2 := b.cntV_le d.2
    omega

/-- A slice. -/
def Sh.sl (e : Sh) : Sh where
  D := List e.D
  size := 1
  sz := fun d => List.length d + (List.map e.sz d).sum
  Rd := fun w cs d => ∃ ad cap, cs = [Value.slice ad (List.length d) cap] ∧ List.length d ≤ cap ∧ cap ≤ maxLen ∧
      (List.length d = 0 ∨ ∃ b off, ad = some ⟨b, off, Option.none⟩ ∧ b < w.heap.size ∧
        ∀ (i : Nat) (x : e.D), d[i]? = some x → ∃ c : List Value, c.length = e.size ∧ (∀ j, j < e.size → w.cell? ⟨b, off + (i * e.size + j), Option.none⟩ = c[j]?) ∧ e.Rd w c x)
  Ow := fun w B cs d F => (cs = [Value.slice Option.none 0 0] ∧ List.length d = 0 ∧ F = []) ∨
      ∃ (g cap : Nat) (t : TypeId) (cur : Array Value) (Cs : List (List Value)) (Fs : List (List Nat)), cs = [Value.slice (some ⟨g, 0, Option.none⟩) (List.length d) cap] ∧ B ≤ g ∧ w.heap[g]? = some (.cells cur t (0, 0)) ∧
        List.length d ≤ cap ∧ cap ≤ maxLen ∧ cur.size = cap * e.size ∧ cur.toList.take (List.length d * e.size) = Cs.flatten ∧ Cs.length = List.length d ∧ Fs.length = List.length d ∧ F = g :: Fs.flatten ∧
        ∀ (i : Nat) (c : List Value) (x : e.D) (f : List Nat), Cs[i]? = some c → d[i]? = some x → Fs[i]? = some f → e.Ow w B c x f
  cnt := fun d => (List.map e.cnt d).sum
  mk := fun d k => mkRow e.mk e.cnt d k
  cntV := fun d => (List.map e.cnt d).sum
  mkV := fun d k => mkRow e.mk e.cnt d k
  wd := e.wd
  rd_length := fun ⟨ad, cap, h, _⟩ => by rw [h]; rfl
  rd_later := fun ⟨ad, cap, h, hl, hm, h0⟩ hb => ⟨ad, cap, h, hl, hm, h0.imp (fun h => h) fun ⟨b, off, ha, hlt, hx⟩ =>
      ⟨b, off, ha, Nat.lt_of_lt_of_le hlt hb.size, fun i x hi => by
        obtain ⟨c, hc, hcell, hr⟩ := hx i x hi
        exact ⟨c, hc, fun j hj => (hb.cell (p := ⟨b, off + (i * e.size + j), Option.none⟩) hlt).trans (hcell j hj), e.rd_later hr hb⟩⟩⟩
  ow_length := fun h => by
    rcases h with ⟨h, _⟩ | ⟨g, cap, t, cur, Cs, Fs, h, _⟩
    · rw [h]; rfl
    · rw [h]; rfl
  ow_lt := fun {w B cs d F} h x hx => by
    rcases h with ⟨_, _, h⟩ | ⟨g, cap, t, cur, Cs, Fs, _, hB, hh, _, _, _, _, hC, hF, hFF, he⟩
    · rw [h] at hx; cases hx
    · rw [hFF] at hx
      rcases List.mem_cons.1 hx with rfl | h
      · refine ⟨hB, ?_⟩
        rcases Nat.lt_or_ge x w.heap.size with h | h
        · exact h
        · rw [Array.getElem?_eq_none h] at hh; cases hh
      · obtain ⟨i, f, hi, hxf⟩ := mem_flatten_get h
        have hil : i < Fs.length := by
          rcases Nat.lt_or_ge i Fs.length with h | h
          · exact h
          · rw [List.getElem?_eq_none h] at hi; cases hi
        have hd : i < List.length d := by omega
        exact e.ow_lt (he i Cs[i] (List.get d ⟨i, hd⟩) f (List.getElem?_eq_getElem (by omega)) (List.getElem?_eq_getElem hd) hi) x hxf
  ow_keep := fun h hk => by
    rcases h with h | ⟨g, cap, t, cur, Cs, Fs, hcs, hB, hh, h1, h2, h3, h4, h5, h6, hFF, he⟩
    · exact .inl h
    · exact .inr ⟨g, cap, t, cur, Cs, Fs, hcs, hB, (hk g (by rw [hFF]; exact List.mem_cons_self)).trans hh, h1, h2, h3, h4, h5, h6, hFF, fun i c x f hc hx hf =>
        e.ow_keep (he i c x f hc hx hf) fun y hy => hk y (by rw [hFF]; exact List.mem_cons_of_mem _ (List.mem_flatten.2 ⟨f, List.mem_of_getElem? hf, hy⟩))⟩
  ow_base := fun h hk => by
    rcases h with h | ⟨g, cap, t, cur, Cs, Fs, hcs, hB, hh, h1, h2, h3, h4, h5, h6, hFF, he⟩
    · exact .inl h
    · exact .inr ⟨g, cap, t, cur, Cs, Fs, hcs, Nat.le_trans hk hB, hh, h1, h2, h3, h4, h5, h6, hFF, fun i c x f hc hx hf => e.ow_base (he i c x f hc hx hf) hk⟩
  ow_reads := fun {w B cs d F} h => by
    rcases h with ⟨h, h0, _⟩ | ⟨g, cap, t, cur, Cs, Fs, hcs, hB, hh, h1, h2, h3, h4, h5, h6, hFF, he⟩
    · exact ⟨Option.none, 0, by rw [h, h0], by omega, Nat.zero_le _, .inl h0⟩
    · refine ⟨some ⟨g, 0, Option.none⟩, cap, hcs, h1, h2, .inr ⟨g, 0, rfl, ?_, fun i x hx => ?_⟩⟩
      · rcases Nat.lt_or_ge g w.heap.size with h | h
        · exact h
        · rw [Array.getElem?_eq_none h] at hh; cases hh
      · have hi : i < List.length d := by
          rcases Nat.lt_or_ge i (List.length d) with h | h
          · exact h
          · rw [List.getElem?_eq_none h] at hx; cases hx
        have hC : Cs[i]? = some Cs[i] := List.getElem?_eq_getElem (by omega)
        have hF : Fs[i]? = some Fs[i] := List.getElem?_eq_getElem (by omega)
        have ho := he i _ x _ hC hx hF
        have hall : ∀ (k : Nat) (c : List Value), Cs[k]? = some c → c.length = e.size := by
          intro k c hk
          have hkl : k < Cs.length := by
            rcases Nat.lt_or_ge k Cs.length with h | h
            · exact h
            · rw [List.getElem?_eq_none h] at hk; cases hk
          have hkd : k < List.length d := by omega
          exact e.ow_length (he k c (List.get d ⟨k, hkd⟩) Fs[k] hk (List.getElem?_eq_getElem hkd) (List.getElem?_eq_getElem (by omega)))
        refine ⟨Cs[i], e.ow_length ho, fun j hj => ?_, e.ow_reads ho⟩
        have hf := flatten_get hall hC hj
        have hlt : i * e.size + j < List.length d * e.size := by
          have : (i + 1) * e.size ≤ List.length d * e.size := Nat.mul_le_mul_right _ hi
          rw [Nat.add_mul] at this; omega
        rw [← h4, List.getElem?_take_of_lt hlt] at hf
        rw [← hf, Nat.zero_add]
        simp [World.cell?, hh]
  cnt_le := fun d => by
    have h1 := sum_le e.cnt (fun x => e.wd * (e.sz x + 1)) d fun x _ => e.cnt_le x
    have h3 := sum_mul e.sz e.wd (show List e.D from d)
    have h1 : (List.map e.cnt d).sum ≤ e.wd * ((List.map e.sz d).sum + List.length d) := Nat.le_trans h1 (Nat.le_of_eq h3)
    have h2 : e.wd * ((List.map e.sz d).sum + List.length d) ≤ e.wd * (List.length d + (List.map e.sz d).sum + 1) := Nat.mul_le_mul_left _ (by omega)
    exact Nat.le_trans h1 h2
  cntV_le := fun d => Nat.le_refl _

theorem Sh.size_int : Sh.int.size = 1 := rfl
theorem Sh.size_bool : Sh.bool.size = 1 := rfl
theorem Sh.size_str : Sh.str.size = 1 := rfl
theorem Sh.size_u8 : Sh.u8.size = 1 := rfl
theorem Sh.size_pair (a b : Sh) : (Sh.pair a b).size = a.size + b.size := rfl

/-- The element at i. -/
def Sh.at (e : Sh) (d : List e.D) (i : Nat) : Option e.D := d[i]?
/-- In w the cells cs hold the data. -/
def Reads (s : Sh) (w : World) (cs : List Value) (d : s.D) : Prop := s.Rd w cs d
/-- In w the cells cs hold the data, in rows of the call's own: the blocks F, each from B on. -/
def Own (s : Sh) (w : World) (B : Nat) (cs : List Value) (d : s.D) (F : List Nat) : Prop := s.Ow w B cs d F

theorem Reads.length {s : Sh} {w : World} {cs : List Value} {d : s.D} (h : Reads s w cs d) : cs.length = s.size := s.rd_length h
theorem Reads.later {s : Sh} {w w' : World} {cs : List Value} {d : s.D} (h : Reads s w cs d) (hb : Below w.heap.size w w') : Reads s w' cs d := s.rd_later h hb
theorem Own.length {s : Sh} {w : World} {B : Nat} {cs : List Value} {d : s.D} {F : List Nat} (h : Own s w B cs d F) : cs.length = s.size := s.ow_length h
theorem Own.lt {s : Sh} {w : World} {B : Nat} {cs : List Value} {d : s.D} {F : List Nat} (h : Own s w B cs d F) : ∀ g ∈ F, B ≤ g ∧ g < w.heap.size := s.ow_lt h
theorem Own.keep {s : Sh} {w w' : World} {B : Nat} {cs : List Value} {d : s.D} {F : List Nat} (h : Own s w B cs d F) (hk : ∀ g ∈ F, w'.heap[g]? = w.heap[g]?) : Own s w' B cs d F := s.ow_keep h hk
theorem Own.base {s : Sh} {w : World} {B B' : Nat} {cs : List Value} {d : s.D} {F : List Nat} (h : Own s w B cs d F) (hk : B' ≤ B) : Own s w B' cs d F := s.ow_base h hk
theorem Own.reads {s : Sh} {w : World} {B : Nat} {cs : List Value} {d : s.D} {F : List Nat} (h : Own s w B cs d F) : Reads s w cs d := s.ow_reads h

/-- A slice of bytes, in the elder words. -/
theorem reads_bytes {w : World} {a : Option Addr} {n cap : Nat} {d : List Int} (h : Reads (.sl .u8) w [Value.slice a n cap] d) : List.length d = n ∧ Rd w a d ∧ n ≤ cap ∧ cap ≤ maxLen := by
  obtain ⟨ad, cp, e, hl, hm, h0⟩ := h
  simp only [List.cons.injEq, Value.slice.injEq, and_true] at e
  obtain ⟨rfl, hn, rfl⟩ := e
  have hbd : List.length d = 0 ∨ ∃ b off, a = some ⟨b, off, Option.none⟩ ∧ b < w.heap.size ∧ ∀ (i : Nat) (x : Int), d[i]? = some x → w.cell? ⟨b, off + i, Option.none⟩ = some (.int .u8 x) ∧ 0 ≤ x ∧ x ≤ 255 := by
    refine h0.imp id fun ⟨b, off, ha, hlt, hx⟩ => ⟨b, off, ha, hlt, fun i x hi => ?_⟩
    obtain ⟨c, hc, hcell, hr⟩ := hx i x hi
    have h1 := hcell 0 (by decide)
    obtain ⟨rfl, hx0, hx1⟩ := hr
    simp only [Sh.size_u8, Nat.mul_one, Nat.add_zero] at h1
    exact ⟨by simpa using h1, hx0, hx1⟩
  refine ⟨hn.symm, ⟨fun i => ?_, ?_⟩, by omega, hm⟩
  · rcases hbd with h | ⟨b, off, ha, hlt, hx⟩
    · have : d = [] := List.eq_nil_of_length_eq_zero h
      subst this; simp
    · by_cases hi : i < List.length d
      · have h1 := (hx i d[i] (List.getElem?_eq_getElem hi)).2
        simpa [hi] using h1
      · simp [hi]
  · rcases hbd with h | ⟨b, off, ha, hlt, hx⟩
    · exact .inl (List.eq_nil_of_length_eq_zero h)
    · exact .inr ⟨b, off, ha, hlt, fun i hi => by rw [(hx i d[i] (List.getElem?_eq_getElem hi)).1]; simp [hi]⟩

section
variable {H : Type} {enc : TypeId × Value → H} {P : Program} {w : World} {spare : Nat → Bool} {held : Bool}

/-- What a type's values are read as, in w. -/
def Opens (enc : TypeId × Value → H) (P : Program) (w : World) (spare : Nat → Bool) (held : Bool) (t : TypeId) (s : Sh) : Prop :=
  P.cellsOf t = s.size ∧ ∀ (fuel : Nat) (cs : List Value) (x : DataW H × List MemPlace), DataW.trod enc P w 0 spare held fuel t cs = some x → ∃ d : s.D, Reads s w cs d

theorem opens_int {t : TypeId} (ht : P.underlying t = some (.int .i64)) (hc : P.cellsOf t = 1) : Opens enc P w spare held t .int :=
  ⟨hc, fun fuel cs x h => by obtain ⟨n, e, _⟩ := DataW.trod_int ht h; exact ⟨n, e⟩⟩
theorem opens_u8 {t : TypeId} (ht : P.underlying t = some (.int .u8)) (hc : P.cellsOf t = 1) : Opens enc P w spare held t .u8 :=
  ⟨hc, fun fuel cs x h => by
    obtain ⟨n, e, _, hw⟩ := DataW.trod_int ht h
    simp [Lit.wf, IntKind.min, IntKind.max, IntKind.signed, IntKind.bits] at hw
    exact ⟨n, e, hw.1, hw.2⟩⟩
theorem opens_bool {t : TypeId} (ht : P.underlying t = some .bool) (hc : P.cellsOf t = 1) : Opens enc P w spare held t .bool :=
  ⟨hc, fun fuel cs x h => by obtain ⟨n, e, _⟩ := DataW.trod_bool ht h; exact ⟨n, e⟩⟩
theorem opens_str {t : TypeId} (ht : P.underlying t = some .string) (hc : P.cellsOf t = 1) : Opens enc P w spare held t .str :=
  ⟨hc, fun fuel cs x h => by obtain ⟨n, e, _, hs⟩ := DataW.trod_string ht h; exact ⟨n, e, hs⟩⟩

theorem opens_sl {t e : TypeId} {s : Sh} (ht : P.underlying t = some (.slice e)) (hc : P.cellsOf t = 1) (h0 : 0 < s.size) (he : Opens enc P w spare held e s) : Opens enc P w spare held t (.sl s) := by
  refine ⟨hc, fun fuel cs x h => ?_⟩
  rcases Go.Deep.open_slice ht h with ⟨rfl, _⟩ | ⟨a, len, cap, m, n, D, Pl, rfl, _, hl, hm, hme, _, hx⟩
  · exact ⟨([] : List s.D), Option.none, 0, rfl, Nat.le_refl _, Nat.zero_le _, .inl rfl⟩
  · have hlm : len ≤ m := by rw [hme]; split <;> omega
    have each : ∀ i, i < len → ∃ (c : List Value) (d : s.D), w.cells? 0 (a.add (i * P.cellsOf e)) (P.cellsOf e) = some c ∧ Reads s w c d := by
      intro i hi
      obtain ⟨c, h1, h2⟩ := hx i (by omega)
      obtain ⟨d, hd⟩ := he.2 _ _ _ h2
      exact ⟨c, d, h1, hd⟩
    -- a choice, place by place
    have pick : ∀ k, k ≤ len → ∃ d : List s.D, List.length d = k ∧ ∀ (i : Nat) (x : s.D), d[i]? = some x → ∃ c : List Value, w.cells? 0 (a.add (i * P.cellsOf e)) (P.cellsOf e) = some c ∧ Reads s w c x := by
      intro k
      induction k with
      | zero => exact fun _ => ⟨[], rfl, fun i x h => by simp at h⟩
      | succ k ih =>
        intro hk
        obtain ⟨d, hdl, hd⟩ := ih (by omega)
        obtain ⟨c, y, hc1, hy⟩ := each k (by omega)
        refine ⟨d ++ [y], by simp [hdl], fun i x h => ?_⟩
        rw [List.getElem?_append] at h
        split at h
        · exact hd i x h
        · have hi : i = k := by
            rcases Nat.lt_or_ge k i with h' | h'
            · rw [List.getElem?_eq_none (by simp; omega)] at h; cases h
            · omega
          subst hi
          have : i - d.length = 0 := by omega
          rw [this] at h
          simp at h
          subst h
          exact ⟨c, hc1, hy⟩
    obtain ⟨d, hdl, hd⟩ := pick len (Nat.le_refl _)
    refine ⟨d, some a, cap, by rw [hdl], by omega, hm, ?_⟩
    by_cases hz : len = 0
    · exact .inl (by omega)
    · right
      obtain ⟨b, off, spot⟩ := a
      have hsz : P.cellsOf e = s.size := he.1
      have h00 := each 0 (by omega)
      obtain ⟨c0, d0, hc0, hr0⟩ := h00
      have hlt : b < w.heap.size := by
        have := World.cells?_block hc0 (by omega)
        simpa [Addr.add] using this
      have hspot : spot = Option.none := by
        obtain ⟨_, h1, h2⟩ := World.cells?_some hc0
        have h3 := h2 0 (by omega)
        rw [List.getElem?_eq_getElem (by omega)] at h3
        have := World.cell?_spot h3
        simpa [Addr.add] using this
      subst hspot
      refine ⟨b, off, rfl, hlt, fun i x hi => ?_⟩
      obtain ⟨c, hc1, hr⟩ := hd i x hi
      refine ⟨c, hr.length, fun j hj => ?_, hr⟩
      obtain ⟨_, h1, h2⟩ := World.cells?_some hc1
      have h3 := h2 j (by omega)
      rw [hsz] at h3
      rw [← h3]
      congr 1
      cases hq : i * s.size <;> cases j <;> simp [Addr.add] <;> omega

/-- Fields one behind the other. -/
def Sh.ofL : List Sh → Sh
  | [] => .none
  | s :: l => .pair s (Sh.ofL l)

theorem Sh.ofL_size : ∀ l : List Sh, (Sh.ofL l).size = (l.map Sh.size).sum
  | [] => rfl
  | s :: l => by
    show s.size + (Sh.ofL l).size = _
    rw [Sh.ofL_size l]
    simp

theorem opens_fields {cs : List Value} {fs : Array Field} {n : Nat} {xs : List (DataW H × List MemPlace)}
    (hf : ∀ (i : Nat) (f : Field), fs[i]? = some f → DataW.trod enc P w 0 spare held n f.type ((cs.drop f.offset).take (P.cellsOf f.type)) = xs[i]?) (hx : xs.length = fs.size) :
    ∀ (l : List Sh) (k off : Nat), (∀ i s, l[i]? = some s → ∃ f, fs[k + i]? = some f ∧ Opens enc P w spare held f.type s ∧ f.offset = off + ((l.take i).map Sh.size).sum) →
      cs.length = off + (l.map Sh.size).sum → ∃ d : (Sh.ofL l).D, Reads (Sh.ofL l) w (cs.drop off) d
  | [], k, off, _, hlen => ⟨(), List.drop_eq_nil_of_le (by simp at hlen; omega)⟩
  | s :: l, k, off, hl, hlen => by
    obtain ⟨f, hfk, ho, hoff⟩ := hl 0 s rfl
    simp only [Nat.add_zero] at hfk
    simp at hoff
    have hk : k < fs.size := by
      rcases Nat.lt_or_ge k fs.size with h | h
      · exact h
      · rw [Array.getElem?_eq_none h] at hfk; cases hfk
    have h1 := hf k f hfk
    rw [List.getElem?_eq_getElem (by omega)] at h1
    obtain ⟨d1, hd1⟩ := ho.2 _ _ _ h1
    obtain ⟨d2, hd2⟩ := opens_fields hf hx l (k + 1) (off + s.size) (fun i s' hi => by
      obtain ⟨f', h2, h3, h4⟩ := hl (i + 1) s' (by simpa using hi)
      refine ⟨f', by rw [← h2]; congr 1; omega, h3, ?_⟩
      rw [h4]
      simp
      omega) (by simp at hlen; omega)
    refine ⟨(d1, d2), _, _, ?_, hd1, hd2⟩
    rw [hoff, ho.1]
    have e : cs.drop (off + s.size) = (cs.drop off).drop s.size := by rw [List.drop_drop]
    rw [e, List.take_append_drop]

theorem opens_struct {t : TypeId} {fs : Array Field} (l : List Sh) (ht : P.underlying t = some (.struct fs)) (hc : P.cellsOf t = (Sh.ofL l).size)
    (hl : ∀ i s, l[i]? = some s → ∃ f, fs[i]? = some f ∧ Opens enc P w spare held f.type s ∧ f.offset = ((l.take i).map Sh.size).sum) : Opens enc P w spare held t (Sh.ofL l) := by
  refine ⟨hc, fun fuel cs x h => ?_⟩
  obtain ⟨xs, n, _, _, hlen, hx, hf⟩ := DataW.trod_struct ht h
  have := opens_fields hf hx l 0 0 (fun i s hi => by
    obtain ⟨f, h1, h2, h3⟩ := hl i s hi
    exact ⟨f, by simpa using h1, h2, by simpa using h3⟩) (by rw [hlen, hc, Sh.ofL_size]; omega)
  simpa using this

end
end Go.Proofs.YtkaegbhmeonjfaaGreat

/- OwnD: Data in memory of the call's own: 'Own' (each slice a row in a block of its own, not frozen), with the blocks named; and the slice that is being filled ('Fill'). -/
namespace Go.Proofs.YtkaegbhmeonjfaaGreat
open Go.RowKit
set_option linter.unusedVariables false
set_option maxRecDepth 100000

theorem Own.later {s : Sh} {w w' : World} {B : Nat} {cs : List Value} {d : s.D} {F : List Nat} (h : Own s w B cs d F) (hb : Below w.heap.size w w') : Own s w' B cs d F :=
  h.keep fun g hg => hb.block g (h.lt g hg).2

theorem alloc3_heap (w : World) (o0 o1 o2 : Obj) : (((w.alloc o0).alloc o1).alloc o2).heap[w.heap.size]? = some o0 ∧ (((w.alloc o0).alloc o1).alloc o2).heap[w.heap.size + 1]? = some o1 ∧
    (((w.alloc o0).alloc o1).alloc o2).heap[w.heap.size + 1 + 1]? = some o2 ∧ (((w.alloc o0).alloc o1).alloc o2).heap.size = w.heap.size + 1 + 1 + 1 := by
  have e1 : (w.alloc o0).heap.size = w.heap.size + 1 := by simp
  have e2 : ((w.alloc o0).alloc o1).heap.size = w.heap.size + 1 + 1 := by simp
  refine ⟨?_, ?_, ?_, by simp⟩
  · rw [heap_alloc_old _ _ (by rw [e2]; omega), heap_alloc_old _ _ (by rw [e1]; omega)]; exact heap_alloc_new w o0
  · rw [heap_alloc_old _ _ (by rw [e2]; omega), ← e1]; exact heap_alloc_new (w.alloc o0) o1
  · rw [← e2]; exact heap_alloc_new ((w.alloc o0).alloc o1) o2

theorem box_cell {w : World} {b j : Nat} {cs : Array Value} {t : TypeId} {v : Value} (h : w.heap[b]? = some (.cells cs t (0, 0))) (hv : cs[j]? = some v) : w.cell? ⟨b, j, none⟩ = some v := by
  simp [World.cell?, h, hv]
theorem box_frozen {w : World} {b j : Nat} {cs : Array Value} {t : TypeId} (h : w.heap[b]? = some (.cells cs t (0, 0))) : w.frozen? ⟨b, j, none⟩ = false := by
  simp [World.frozen?, h]
theorem box_set {w : World} {b j : Nat} {cs : Array Value} {t : TypeId} (v : Value) (h : w.heap[b]? = some (.cells cs t (0, 0))) : (w.setCell ⟨b, j, none⟩ v).heap[b]? = some (.cells (cs.setIfInBounds j v) t (0, 0)) := by
  simp [World.setCell, Array.getElem?_modify, h]
theorem box_other {w : World} {b j : Nat} (v : Value) {k : Nat} (hk : k ≠ b) : (w.setCell ⟨b, j, none⟩ v).heap[k]? = w.heap[k]? := heap_setCell_other w ⟨b, j, none⟩ k v (fun e => hk e)

end Go.Proofs.YtkaegbhmeonjfaaGreat

/- TyBase: The helpers of the exact laws over shapes of data: what sz.. answers; slices of bytes in these words; a slice that is being filled. -/
namespace Go.Proofs.YtkaegbhmeonjfaaGreat
open Go.RowKit
set_option linter.unusedVariables false
set_option maxRecDepth 100000

/-- What a function sz.. answers of data that hold c, where 'left' is left. -/
def szAns (c : Nat) (left : Int) : Int := if (c : Int) ≤ left then left - c else -1

theorem szAns_yes {c : Nat} {left : Int} (h : (c : Int) ≤ left) : szAns c left = left - c := if_pos h
theorem szAns_no {c : Nat} {left : Int} (h : ¬ (c : Int) ≤ left) : szAns c left = -1 := if_neg h

theorem sum_zero {α : Type} (l : List α) : (l.map fun _ => 0).sum = 0 := by
  induction l with
  | nil => rfl
  | cons a l ih => simp [ih]

/-- What the first k elements hold. -/
def szTo (e : Sh) (d : List e.D) (k : Nat) : Nat := ((d.take k).map e.sz).sum

theorem szTo_zero (e : Sh) (d : List e.D) : szTo e d 0 = 0 := by simp [szTo]

theorem szTo_succ (e : Sh) (d : List e.D) (k : Nat) (x : e.D) (h : e.at d k = some x) : szTo e d (k + 1) = szTo e d k + e.sz x := by
  have hk : k < d.length := by
    rcases Nat.lt_or_ge k d.length with h' | h'
    · exact h'
    · rw [show e.at d k = none from List.getElem?_eq_none h'] at h; cases h
  have hx : d[k] = x := by
    have : d[k]? = some x := h
    rw [List.getElem?_eq_getElem hk] at this
    exact Option.some.inj this
  have e2 : d.take (k + 1) = d.take k ++ [x] := by rw [List.take_succ_eq_append_getElem hk, hx]
  unfold szTo
  rw [e2, List.map_append, List.sum_append]
  simp

theorem szTo_le (e : Sh) (d : List e.D) (k : Nat) : szTo e d k ≤ (d.map e.sz).sum := by
  unfold szTo
  conv => rhs; rw [← List.take_append_drop k d, List.map_append, List.sum_append]
  omega

theorem szTo_all (e : Sh) (d : List e.D) (k : Nat) (h : d.length ≤ k) : szTo e d k = (d.map e.sz).sum := by
  unfold szTo; rw [List.take_of_length_le h]

theorem sz_elem (e : Sh) (d : List e.D) (k : Nat) (x : e.D) (h : e.at d k = some x) : e.sz x ≤ (d.map e.sz).sum := by
  have := szTo_succ e d k x h
  have := szTo_le e d (k + 1)
  omega

/-- An element of a slice, in the walk's words. -/
theorem reads_elem {e : Sh} {w : World} {ad : Option Addr} {n cap : Nat} {d : List e.D} (h : Reads (.sl e) w [.slice ad n cap] d) (k : Nat) (hk : k < n) :
    ∃ b off c x, ad = some ⟨b, off, none⟩ ∧ b < w.heap.size ∧ e.at d k = some x ∧ Reads e w c x ∧ ∀ j, j < e.size → w.cell? ⟨b, off + (k * e.size + j), none⟩ = c[j]? := by
  obtain ⟨a, cp, e1, hl, hm, h0⟩ := h
  simp only [List.cons.injEq, Value.slice.injEq, and_true] at e1
  obtain ⟨rfl, hn, rfl⟩ := e1
  rcases h0 with h0 | ⟨b, off, rfl, hlt, hx⟩
  · omega
  · have hk' : k < d.length := by omega
    have hx1 : e.at d k = some d[k] := List.getElem?_eq_getElem hk'
    obtain ⟨c, hc, hcell, hr⟩ := hx k _ hx1
    exact ⟨b, off, c, d[k], rfl, hlt, hx1, hr, hcell⟩

theorem reads_len {e : Sh} {w : World} {ad : Option Addr} {n cap : Nat} {d : List e.D} (h : Reads (.sl e) w [.slice ad n cap] d) : d.length = n ∧ n ≤ cap ∧ cap ≤ maxLen := by
  obtain ⟨a, cp, e1, hl, hm, h0⟩ := h
  simp only [List.cons.injEq, Value.slice.injEq, and_true] at e1
  obtain ⟨rfl, hn, rfl⟩ := e1
  exact ⟨hn.symm, by omega, hm⟩

set_option maxHeartbeats 400000 in
theorem szByteS_any (a : Option Addr) (n cap : Nat) (d : List Int) (left : Int) (w : World) (hr : Reads (.sl .u8) w [.slice a n cap] d) (h0 : 0 ≤ left) (h1 : left ≤ 1048576) :
    Calls Tryz.prog 54 #[.slice a n cap, .int .i64 left] w fun e w' => e = .returned (.int .i64 (szAns (Sh.sz (.sl .u8) d) left)) ∧ Below w.heap.size w w' := by
  obtain ⟨hl, _, hc1, hc2⟩ := reads_bytes hr
  have hs : Sh.sz (.sl .u8) d = n := by show List.length d + (List.map (fun _ => 0) d).sum = n; rw [sum_zero, hl]; rfl
  rw [hs]
  unfold maxLen at hc2
  clear hr hs
  by_cases h : (n : Int) ≤ left
  · rw [szAns_yes h]
    have h2 : ¬ (left - (n : Int) < 0) := by omega
    go_enter Tryz.func54, Tryz.ntmps54
    go_wp2
    go_ret
    exact ⟨rfl, Below.refl _ _⟩
  · rw [szAns_no h]
    have h2 : (left - (n : Int) < 0) := by omega
    go_enter Tryz.func54, Tryz.ntmps54
    go_wp2
    go_ret
    exact ⟨rfl, Below.refl _ _⟩

theorem flatten_single {α β : Type} (f : α → β) (l : List α) : (l.map fun x => [f x]).flatten = l.map f := by
  induction l with
  | nil => rfl
  | cons a l ih => simp [ih]

/-- A row of bytes of the call's own, in these words. -/
theorem own_bytes {w : World} {B g n cap : Nat} {d : List Int} (hl : d.length = n) (hb : ∀ i : Nat, 0 ≤ d[i]?.getD 0 ∧ d[i]?.getD 0 ≤ 255) (h : w.ownsRow B 5 1 (.slice (some ⟨g, 0, none⟩) n cap) n (d.map (Value.int .u8))) :
    Own (.sl .u8) w B [.slice (some ⟨g, 0, none⟩) n cap] d [g] := by
  rcases h.2 with ⟨h1, _⟩ | ⟨g', cap', cur, hv, hg, hh, h1, h2, h3, h4⟩
  · simp at h1
  · simp only [Value.slice.injEq, Option.some.injEq, Addr.mk.injEq, and_true, true_and] at hv
    obtain ⟨rfl, rfl⟩ := hv
    refine .inr ⟨g, cap, 5, cur, d.map (fun x => [Value.int .u8 x]), d.map (fun _ => []), ?_, hg, hh, ?_, h2, h3, ?_, ?_, ?_, ?_, ?_⟩
    · show _ = [Value.slice _ d.length cap]; rw [hl]
    · show d.length ≤ cap; omega
    · show cur.toList.take (d.length * 1) = _
      rw [hl, h4]
      exact (flatten_single (Value.int .u8) d).symm
    · show (d.map _).length = d.length; simp
    · show (d.map _).length = d.length; simp
    · have : ∀ l : List Int, (l.map fun _ => ([] : List Nat)).flatten = [] := by
        intro l; induction l with
        | nil => rfl
        | cons a l ih => simp [ih]
      rw [this]
    · intro i c x f hc hx hf
      have hx' : d[i]? = some x := hx
      rw [List.getElem?_map, hx'] at hc hf
      obtain rfl : [Value.int .u8 x] = c := Option.some.inj hc
      obtain rfl : [] = f := Option.some.inj hf
      have := hb i
      rw [hx'] at this
      exact ⟨⟨rfl, this⟩, rfl⟩

theorem toByteS_own (a : Option Addr) (n cap : Nat) (d : List Int) (w : World) (hr : Reads (.sl .u8) w [.slice a n cap] d) (hn : Sh.sz (.sl .u8) d ≤ 1048576) :
    Calls Tryz.prog 64 #[.slice a n cap] w fun e w' => ∃ (g : Nat) (F : List Nat), e = .returned (.slice (some ⟨g, 0, none⟩) n n) ∧ Own (.sl .u8) w' w.heap.size [.slice (some ⟨g, 0, none⟩) n n] d F ∧ F.Nodup ∧ Below w.heap.size w w' := by
  obtain ⟨hl, hrd, hc1, hc2⟩ := reads_bytes hr
  have hs : Sh.sz (.sl .u8) d = n := by show List.length d + (List.map (fun _ => 0) d).sum = n; rw [sum_zero, hl]; rfl
  refine (toByteS_any a n cap d w hl hrd (by omega)).mono ?_
  rintro e w' ⟨rfl, ho, hb⟩
  exact ⟨_, _, rfl, own_bytes hl hrd.1 ho, by simp, hb⟩

theorem eqByteS_reads (a b : Option Addr) (n ca cb : Nat) (d : List Int) (w : World) (hr1 : Reads (.sl .u8) w [.slice a n ca] d) (hr2 : Reads (.sl .u8) w [.slice b n cb] d) (hn : Sh.sz (.sl .u8) d ≤ 1048576) :
    Calls Tryz.prog 69 #[.slice a n ca, .slice b n cb] w fun e w' => e = .returned (.bool true) ∧ Below w.heap.size w w' := by
  obtain ⟨hl, hrd1, hc1, hc2⟩ := reads_bytes hr1
  obtain ⟨_, hrd2, _, _⟩ := reads_bytes hr2
  have hs : Sh.sz (.sl .u8) d = n := by show List.length d + (List.map (fun _ => 0) d).sum = n; rw [sum_zero, hl]; rfl
  exact eqByteS_true a b n ca cb d w hl hrd1 hrd2 (by omega)

/-- The first k elements of a new row g of n elements are filled. -/
structure Fill (e : Sh) (t : TypeId) (w : World) (B g n k : Nat) (d : List e.D) : Prop where
  len : d.length = n
  le : k ≤ n
  row : ∃ (Cs : List (List Value)) (Fs : List (List Nat)) (zs : List Value), Cs.length = k ∧ Fs.length = k ∧ zs.length = (n - k) * e.size ∧ w.heap[g]? = some (.cells (Cs.flatten ++ zs).toArray t (0, 0)) ∧ (g :: Fs.flatten).Nodup ∧ (∀ x ∈ Fs.flatten, B ≤ x) ∧
    (∀ (i : Nat) (c : List Value) (x : e.D) (f : List Nat), Cs[i]? = some c → e.at d i = some x → Fs[i]? = some f → Own e w B c x f)
  bg : B ≤ g
  small : n ≤ maxLen

theorem Fill.full {e : Sh} {t : TypeId} {w : World} {B g n : Nat} {d : List e.D} (h : Fill e t w B g n n d) : ∃ F, Own (.sl e) w B [.slice (some ⟨g, 0, none⟩) n n] d F ∧ F.Nodup := by
  obtain ⟨Cs, Fs, zs, hC, hF, hz, hh, hnd, hB, ho⟩ := h.row
  have hl := h.len
  have hz0 : zs = [] := List.eq_nil_of_length_eq_zero (by rw [hz]; simp)
  subst hz0
  have hall : ∀ c ∈ Cs, c.length = e.size := by
    intro c hc
    obtain ⟨i, hi, rfl⟩ := List.mem_iff_getElem.1 hc
    have hid : i < d.length := by omega
    exact (ho i Cs[i] d[i] Fs[i] (List.getElem?_eq_getElem hi) (List.getElem?_eq_getElem hid) (List.getElem?_eq_getElem (by omega))).length
  have hfl : Cs.flatten.length = n * e.size := by
    rw [List.length_flatten]
    have : Cs.map List.length = Cs.map fun _ => e.size := List.map_congr_left hall
    rw [this]
    simp [List.map_const', hC]
  refine ⟨g :: Fs.flatten, .inr ⟨g, n, t, (Cs.flatten ++ []).toArray, Cs, Fs, ?_, h.bg, hh, ?_, h.small, ?_, ?_, ?_, ?_, rfl, ho⟩, hnd⟩
  · show _ = [Value.slice _ d.length n]; rw [hl]
  · show d.length ≤ n; omega
  · simp [hfl]
  · show ((Cs.flatten ++ []).toArray.toList).take (d.length * e.size) = Cs.flatten
    rw [hl, List.append_nil]
    exact List.take_of_length_le (by show Cs.flatten.length ≤ _; rw [hfl]; exact Nat.le_refl _)
  · show Cs.length = d.length; omega
  · show Fs.length = d.length; omega

/-- c laid from place p on. -/
def setRow (l : List Value) (p : Nat) : List Value → List Value
  | [] => l
  | v :: vs => setRow (l.set p v) (p + 1) vs

theorem setRow_at : ∀ (c A Z : List Value), c.length ≤ Z.length → setRow (A ++ Z) A.length c = A ++ (c ++ Z.drop c.length)
  | [], A, Z, _ => by simp [setRow]
  | v :: vs, A, [], h => by simp at h
  | v :: vs, A, z :: Z, h => by
    have e : (A ++ z :: Z).set A.length v = (A ++ [v]) ++ Z := by simp
    have := setRow_at vs (A ++ [v]) Z (by simpa using h)
    simp only [setRow]
    rw [e, show A.length + 1 = (A ++ [v]).length by simp, this]
    simp

theorem Fill.zero {e : Sh} {t : TypeId} {w : World} {B g n : Nat} {d : List e.D} {cur : Array Value} (hl : d.length = n) (hm : n ≤ maxLen) (hB : B ≤ g) (hh : w.heap[g]? = some (.cells cur t (0, 0))) (hc : cur.size = n * e.size) : Fill e t w B g n 0 d :=
  ⟨hl, Nat.zero_le _, ⟨[], [], cur.toList, rfl, rfl, by simp [hc], by simpa using hh, by simp, fun x hx => by simp at hx, fun i c x f hc => by simp at hc⟩, hB, hm⟩

theorem Fill.later {e : Sh} {t : TypeId} {w w' : World} {B g n k : Nat} {d : List e.D} (h : Fill e t w B g n k d) (hb : Below w.heap.size w w') : Fill e t w' B g n k d := by
  obtain ⟨Cs, Fs, zs, hC, hF, hz, hh, hnd, hBF, ho⟩ := h.row
  refine ⟨h.len, h.le, ⟨Cs, Fs, zs, hC, hF, hz, ?_, hnd, hBF, fun i c x f hc hx hf => (ho i c x f hc hx hf).later hb⟩, h.bg, h.small⟩
  have hg : g < w.heap.size := by
    rcases Nat.lt_or_ge g w.heap.size with h' | h'
    · exact h'
    · rw [Array.getElem?_eq_none h'] at hh; cases hh
  rw [hb.block g hg]; exact hh

theorem Fill.step {e : Sh} {t : TypeId} {w w1 w2 : World} {B g n k : Nat} {d : List e.D} {c : List Value} {x : e.D} {F : List Nat} (h : Fill e t w B g n k d) (hk : k < n) (hx : e.at d k = some x)
    (hb : Below w.heap.size w w1) (ho : Own e w1 w.heap.size c x F) (hF : F.Nodup) (hB : B ≤ w.heap.size)
    (hset : ∀ l : List Value, w1.heap[g]? = some (.cells l.toArray t (0, 0)) → w2.heap[g]? = some (.cells (setRow l (k * e.size) c).toArray t (0, 0))) (hoth : ∀ i, i ≠ g → w2.heap[i]? = w1.heap[i]?) :
    Fill e t w2 B g n (k + 1) d := by
  obtain ⟨Cs, Fs, zs, hC, hFs, hz, hh0, hnd, hBF, hown0⟩ := h.row
  have hg : g < w.heap.size := by
    rcases Nat.lt_or_ge g w.heap.size with h' | h'
    · exact h'
    · rw [Array.getElem?_eq_none h'] at hh0; cases hh0
  have hlow : ∀ y ∈ Fs.flatten, y < w.heap.size := by
    intro y hy
    obtain ⟨i, f, hi, hyf⟩ := mem_flatten_get hy
    have hil : i < Fs.length := by
      rcases Nat.lt_or_ge i Fs.length with h' | h'
      · exact h'
      · rw [List.getElem?_eq_none h'] at hi; cases hi
    have hid : i < d.length := by have := h.len; omega
    exact ((hown0 i Cs[i] d[i] f (List.getElem?_eq_getElem (by omega)) (List.getElem?_eq_getElem hid) hi).lt y hyf).2
  have hown : ∀ (i : Nat) (c : List Value) (x : e.D) (f : List Nat), Cs[i]? = some c → e.at d i = some x → Fs[i]? = some f → Own e w1 B c x f := fun i c x f h1 h2 h3 => (hown0 i c x f h1 h2 h3).later hb
  have hh : w1.heap[g]? = some (.cells (Cs.flatten ++ zs).toArray t (0, 0)) := (hb.block g hg).trans hh0
  have hcl := ho.length
  have hall : ∀ c ∈ Cs, c.length = e.size := by
    intro c hc
    obtain ⟨i, hi, rfl⟩ := List.mem_iff_getElem.1 hc
    have hid : i < d.length := by have := h.len; omega
    exact (hown i Cs[i] d[i] Fs[i] (List.getElem?_eq_getElem hi) (List.getElem?_eq_getElem hid) (List.getElem?_eq_getElem (by omega))).length
  have hfl : Cs.flatten.length = k * e.size := by
    rw [List.length_flatten]
    have : Cs.map List.length = Cs.map fun _ => e.size := List.map_congr_left hall
    rw [this]
    simp [List.map_const', hC]
  have hzl : c.length ≤ zs.length := by
    rw [hz, hcl]
    exact Nat.le_mul_of_pos_left _ (by omega)
  have hkeep : ∀ {c x f}, Own e w1 B c x f → g ∉ f → Own e w2 B c x f := fun ho' hgf => ho'.keep fun y hy => hoth y (fun e => hgf (e ▸ hy))
  have hgF : g ∉ F := fun hm => by have := (ho.lt g hm).1; omega
  refine ⟨h.len, by omega, ⟨Cs ++ [c], Fs ++ [F], zs.drop c.length, by simp [hC], by simp [hFs], ?_, ?_, ?_, ?_, ?_⟩, h.bg, h.small⟩
  · rw [List.length_drop, hz, hcl]
    have : n - k = (n - (k + 1)) + 1 := by omega
    rw [this, Nat.add_mul]; omega
  · have := hset _ hh
    rw [← hfl, setRow_at c _ zs hzl] at this
    rw [this]
    simp
  · rw [List.flatten_append]
    simp only [List.flatten_cons, List.flatten_nil, List.append_nil]
    rw [List.nodup_cons] at hnd ⊢
    refine ⟨?_, ?_⟩
    · intro hm
      rcases List.mem_append.1 hm with h' | h'
      · exact hnd.1 h'
      · exact hgF h'
    · rw [List.nodup_append]
      exact ⟨hnd.2, hF, fun a ha b hb e => by subst e; have h1 := hlow a ha; have h2 := (ho.lt a hb).1; omega⟩
  · intro y hy
    rw [List.flatten_append] at hy
    simp only [List.flatten_cons, List.flatten_nil, List.append_nil] at hy
    rcases List.mem_append.1 hy with h' | h'
    · exact hBF y h'
    · have := (ho.lt y h').1; omega
  · intro i c' x' f' hc' hx' hf'
    rw [List.getElem?_append] at hc' hf'
    by_cases hi : i < k
    · rw [if_pos (by omega)] at hc' hf'
      refine hkeep (hown i c' x' f' hc' hx' hf') (fun hm => ?_)
      rw [List.nodup_cons] at hnd
      exact hnd.1 (List.mem_flatten.2 ⟨f', List.mem_of_getElem? hf', hm⟩)
    · rw [if_neg (by omega)] at hc' hf'
      have hik : i = k := by
        rcases Nat.lt_or_ge k i with h' | h'
        · rw [List.getElem?_eq_none (by simp; omega)] at hc'; cases hc'
        · omega
      subst hik
      rw [hC, Nat.sub_self] at hc'
      rw [hFs, Nat.sub_self] at hf'
      obtain rfl : c = c' := by simpa using hc'
      obtain rfl : F = f' := by simpa using hf'
      obtain rfl : x = x' := Option.some.inj (hx.symm.trans hx')
      exact hkeep (ho.base hB) hgF

theorem Fill.flat {e : Sh} {t : TypeId} {w : World} {B g n k : Nat} {d : List e.D} (h : Fill e t w B g n k d) : ∃ l : List Value, l.length = n * e.size ∧ w.heap[g]? = some (.cells l.toArray t (0, 0)) := by
  obtain ⟨Cs, Fs, zs, hC, hFs, hz, hh, hnd, hBF, hown⟩ := h.row
  refine ⟨_, ?_, hh⟩
  have hall : ∀ c ∈ Cs, c.length = e.size := by
    intro c hc
    obtain ⟨i, hi, rfl⟩ := List.mem_iff_getElem.1 hc
    have hid : i < d.length := by have := h.len; have := h.le; omega
    exact (hown i Cs[i] d[i] Fs[i] (List.getElem?_eq_getElem hi) (List.getElem?_eq_getElem hid) (List.getElem?_eq_getElem (by omega))).length
  have hfl : Cs.flatten.length = k * e.size := by
    rw [List.length_flatten]
    have : Cs.map List.length = Cs.map fun _ => e.size := List.map_congr_left hall
    rw [this]
    simp [List.map_const', hC]
  have hk := h.le
  rw [List.length_append, hfl, hz, ← Nat.add_mul]
  congr 1; omega

theorem Fill.cell {e : Sh} {t : TypeId} {w : World} {B g n k : Nat} {d : List e.D} (h : Fill e t w B g n k d) (j : Nat) (hj : j < n * e.size) : (∃ u, w.cell? ⟨g, j, none⟩ = some u) ∧ w.frozen? ⟨g, j, none⟩ = false := by
  obtain ⟨l, hl, hh⟩ := h.flat
  exact ⟨⟨l[j], box_cell hh (by simp)⟩, box_frozen hh⟩

theorem Fill.lt {e : Sh} {t : TypeId} {w : World} {B g n k : Nat} {d : List e.D} (h : Fill e t w B g n k d) : g < w.heap.size := by
  obtain ⟨l, _, hh⟩ := h.flat
  rcases Nat.lt_or_ge g w.heap.size with h' | h'
  · exact h'
  · rw [Array.getElem?_eq_none h'] at hh; cases hh

end Go.Proofs.YtkaegbhmeonjfaaGreat

/- TyLink: The type Link of the laws: its shape, and what szLink, toLink, eqLink and those of its slices do. By program (tygen.py). -/
namespace Go.Proofs.YtkaegbhmeonjfaaGreat
open Go.RowKit
set_option linter.unusedVariables false
set_option maxRecDepth 100000

def shLink : Sh := Sh.ofL [.str, .int]

theorem open_Link {w : World} {cs : List Value} {d : shLink.D} (h : Reads shLink w cs d) :
    cs = [.string (d.1), .int .i64 (d.2.1)] ∧ ByteArray.size d.1 ≤ maxLen := by
  obtain ⟨_, _, rfl, h0, _, _, rfl, h1, hE⟩ := h
  obtain ⟨e0, l0⟩ := h0
  have e1 : _ = _ := h1
  have eE : _ = _ := hE
  subst e0 e1 eE
  exact ⟨rfl, l0⟩

theorem own_Link {w : World} {B : Nat} {d : shLink.D} (l0 : ByteArray.size d.1 ≤ maxLen) :
    Own shLink w B [.string (d.1), .int .i64 (d.2.1)] d ([]) := by
  exact ⟨[_], _, [], [], rfl, rfl, ⟨⟨rfl, l0⟩, rfl⟩, ⟨[_], _, [], [], rfl, rfl, ⟨rfl, rfl⟩, ⟨rfl, rfl⟩⟩⟩

theorem size_Link : shLink.size = 2 := rfl

theorem sz_Link (d : shLink.D) : shLink.sz d = Sh.sz .str d.1 := by
  show Sh.sz .str d.1 + (0 + (0)) = _
  omega

set_option maxHeartbeats 1000000 in
theorem szLink_any (cs : List Value) (d : shLink.D) (left : Int) (w : World) (hr : Reads shLink w cs d) (h0 : 0 ≤ left) (h1 : left ≤ 1048576) :
    Calls Tryz.prog 74 #[.agg cs.toArray, .int .i64 left] w fun e w' => e = .returned (.int .i64 (szAns (shLink.sz d) left)) ∧ Below w.heap.size w w' := by
  obtain ⟨rfl, r0⟩ := open_Link hr
  obtain ⟨x0, e0⟩ : ∃ x : ByteArray, x = d.1 := ⟨_, rfl⟩
  obtain ⟨x1, e1⟩ : ∃ x : Int, x = d.2.1 := ⟨_, rfl⟩

  rw [sz_Link]
  obtain ⟨k0, hk0⟩ : ∃ k, k = Sh.sz .str d.1 := ⟨_, rfl⟩
  have hx0 : k0 = x0.size := by rw [hk0, e0]; rfl
  have hm0 : x0.size ≤ 9223372036854775807 := by rw [e0]; exact r0
  rw [← hk0]
  rw [← e0, ← e1]
  have HX0 : Hid (k0 = x0.size) := hx0
  clear hr r0 hk0 e0 e1 hx0
  obtain ⟨W0, hW0⟩ : ∃ W0, W0 = w.alloc (.cells #[.string x0, .int .i64 x1] 108) := ⟨_, rfl⟩
  have bW0 : Below w.heap.size w W0 := by rw [hW0]; exact (Below.refl _ _).alloc (Nat.le_refl _) _
  have hbox : W0.heap[w.heap.size]? = some (.cells #[.string x0, .int .i64 x1] 108 (0, 0)) := by rw [hW0]; exact heap_alloc_new w _
  have zW0 : W0.heap.size = w.heap.size + 1 := by rw [hW0]; simp
  have HW0 : Hid (W0 = _) := hW0
  have HBX : Hid _ := hbox
  clear hW0 hbox
  go_enter Tryz.func74, Tryz.ntmps74
  have HH0 := HX0.out
  by_cases t0 : (k0 : Int) ≤ left
  rotate_left
  · have E : Hid (szAns (k0) left = -1) := szAns_no (by omega)
    have u0 : (left - (x0.size : Int) < 0) := by omega
    clear HH0
    go_wp2
    go_ret
    exact ⟨by rw [E.out]; rfl, by rw [← HW0.out]; exact bW0⟩
  have u0 : ¬ (left - (x0.size : Int) < 0) := by omega
  have E : Hid (szAns (k0) left = left - (x0.size : Int)) := by show _ = _; rw [szAns_yes (by omega)]; omega
  clear HH0
  go_wp2
  go_ret
  exact ⟨by rw [E.out]; rfl, by rw [← HW0.out]; exact bW0⟩

theorem opens_Link {H : Type} {enc : TypeId × Value → H} {w : World} {spare : Nat → Bool} {held : Bool} : Opens enc Tryz.prog w spare held 108 shLink := by
  refine opens_struct [.str, .int] Tryz.underlying108 (by kernel_rfl) (fun i s hi => ?_)
  match i, hi with
  | 0, hi => obtain rfl := Option.some.inj hi; exact ⟨_, rfl, opens_str Tryz.underlying9 (by kernel_rfl), rfl⟩
  | 1, hi => obtain rfl := Option.some.inj hi; exact ⟨_, rfl, opens_int Tryz.underlying3 (by kernel_rfl), rfl⟩
  | n + 2, hi => simp at hi

set_option maxRecDepth 100000 in
set_option maxHeartbeats 1000000 in
theorem toLink_any (cs : List Value) (d : shLink.D) (w : World) (hr : Reads shLink w cs d) (hs : shLink.sz d ≤ 1048576) :
    Calls Tryz.prog 82 #[.agg cs.toArray] w fun e w' => ∃ cs' F, e = .returned (.agg cs'.toArray) ∧ Own shLink w' w.heap.size cs' d F ∧ F.Nodup ∧ Below w.heap.size w w' := by
  obtain ⟨rfl, r0⟩ := open_Link hr
  obtain ⟨x0, e0⟩ : ∃ x : ByteArray, x = d.1 := ⟨_, rfl⟩
  obtain ⟨x1, e1⟩ : ∃ x : Int, x = d.2.1 := ⟨_, rfl⟩

  rw [sz_Link] at hs
  rw [← e0, ← e1]
  have HE : Hid (x0 = d.1 ∧ x1 = d.2.1 ∧ ByteArray.size d.1 ≤ maxLen ∧ True) := ⟨e0, e1, r0, trivial⟩
  clear hr hs r0 e0 e1
  go_enter Tryz.func82, Tryz.ntmps82
  go_wp2
  go_returns
  refine ⟨[.string x0, .int .i64 x1], [], rfl, ?_, List.nodup_nil, (((Below.refl _ _).alloc (Nat.le_refl _) _).alloc (by simp) _).alloc (by simp; omega) _⟩
  have := fun w' => own_Link (w := w') (B := w.heap.size) (d := d) HE.out.2.2.1
  simp only [← HE.out.1, ← HE.out.2.1] at this
  exact this _

set_option maxRecDepth 100000 in
set_option maxHeartbeats 1000000 in
theorem szLinkS_any (a : Option Addr) (n cap : Nat) (d : List shLink.D) (left : Int) (w : World) (hr : Reads (.sl shLink) w [.slice a n cap] d) (h0 : 0 ≤ left) (h1 : left ≤ 1048576) :
    Calls Tryz.prog 29 #[.slice a n cap, .int .i64 left] w fun e w' => e = .returned (.int .i64 (szAns (Sh.sz (.sl shLink) d) left)) ∧ Below w.heap.size w w' := by
  obtain ⟨hl, hc1, hc2⟩ := reads_len hr
  unfold maxLen at hc2
  obtain ⟨K, hK⟩ : ∃ K, K = (List.map shLink.sz d).sum := ⟨_, rfl⟩
  have hs : Sh.sz (.sl shLink) d = n + K := by rw [hK, ← hl]; rfl
  rw [hs]
  have HR : Hid (Reads (.sl shLink) w [.slice a n cap] d) := hr
  have HK : Hid (K = (List.map shLink.sz d).sum) := hK
  have HL : Hid (d.length = n) := hl
  clear hr hK hs hl
  by_cases h : (n : Int) ≤ left
  · have h2 : ¬ (left - (n : Int) < 0) := by omega
    go_enter Tryz.func29, Tryz.ntmps29
    go_wp2
    go_loopw [1, 5] (fun l i wr => ∃ k S : Nat, k ≤ n ∧ i = .int .i64 k ∧ l = .int .i64 (left - n - S) ∧ Hid (S = szTo shLink d k) ∧ (n : Int) + S ≤ left ∧ Below w.heap.size w wr) (fun _ i _ => n - (intOf i).toNat)
    case atStart => exact ⟨0, 0, by omega, rfl, by simp, (szTo_zero _ _).symm, by omega, Below.refl _ _⟩
    case round =>
      obtain ⟨k, S, hk, rfl, rfl, hS, hle, hbel⟩ := hrel
      by_cases hlt : k < n
      · obtain ⟨b, off, c, x, rfl, hb, hx, hrx, hcell⟩ := reads_elem HR.out k hlt
        have Sx := szTo_succ shLink d k x hx
        have Sle := szTo_le shLink d (k + 1)
        obtain ⟨X, hX⟩ : ∃ X, X = shLink.sz x := ⟨_, rfl⟩
        have q : Hid (∀ l : Int, 0 ≤ l → l ≤ 1048576 → Calls Tryz.prog 74 #[.agg c.toArray, .int .i64 l] wr fun e w'' => e = .returned (.int .i64 (szAns X l)) ∧ Below wr.heap.size wr w'') := fun l l0 l1 => by rw [hX]; exact szLink_any c x l wr (hrx.later hbel) l0 l1
        have HX : Hid (szTo shLink d (k + 1) = S + X ∧ S + X ≤ K) := ⟨by rw [Sx, hS.out, hX], by rw [HK.out, hS.out, hX, ← Sx]; exact Sle⟩
        have hXK := HX.out.2
        obtain ⟨rfl, _⟩ := open_Link hrx
        obtain ⟨y0, ey0⟩ : ∃ y : ByteArray, y = x.1 := ⟨_, rfl⟩
        obtain ⟨y1, ey1⟩ : ∃ y : Int, y = x.2.1 := ⟨_, rfl⟩
        have g0 : wr.cell? ⟨b, off + k * 2, none⟩ = some (.string y0) := by rw [ey0]; exact (hbel.cell (p := ⟨b, off + (k * 2 + 0), none⟩) hb).trans (hcell 0 (by decide))
        have g1 : wr.cell? ⟨b, off + k * 2 + 1, none⟩ = some (.int .i64 y1) := by rw [ey1]; exact (hbel.cell (p := ⟨b, off + (k * 2 + 1), none⟩) hb).trans (hcell 1 (by decide))
        rw [← ey0, ← ey1] at q
        clear hcell hrx Sx Sle hX hx ey0 ey1
        go_wp2_with fail
        refine (q.out (left - n - S) (by omega) (by omega)).mono ?_
        rintro e w1 ⟨rfl, hb1⟩
        have hbel1 := hbel.trans (hb1.mono hbel.size)
        clear g0 g1
        by_cases t : (X : Int) ≤ left - n - S
        · rw [szAns_yes t]
          have u : ¬ (left - (n : Int) - (S : Int) - (X : Int) < 0) := by omega
          go_wp2
          go_roundw
          case rel => exact ⟨k + 1, S + X, by omega, by go_num, by congr 1; omega, HX.out.1.symm, by omega, hbel1⟩
          case measure => simp [intOf]; omega
        · rw [szAns_no t]
          have E : Hid (szAns (n + K) left = -1) := szAns_no (by omega)
          go_wp2
          go_ret
          exact ⟨by rw [E.out]; rfl, hbel1⟩
      · have e : k = n := by omega
        subst e
        have E : Hid (szAns (k + K) left = left - k - S) := by
          show _ = _
          have h3 : S = K := by rw [hS.out, HK.out]; exact szTo_all _ _ _ (by rw [HL.out]; exact Nat.le_refl _)
          rw [szAns_yes (by omega)]; omega
        go_wp2
        go_ret
        exact ⟨by rw [E.out]; rfl, hbel⟩
  · have h2 : (left - (n : Int) < 0) := by omega
    have E : Hid (szAns (n + K) left = -1) := szAns_no (by omega)
    go_enter Tryz.func29, Tryz.ntmps29
    go_wp2
    go_ret
    exact ⟨by rw [E.out]; rfl, Below.refl _ _⟩

theorem infoLink : (Tryz.prog.info? 111).map (fun i => (i.zero, i.size, i.bytes)) = some (some (.agg #[.string ByteArray.empty, .int .i64 0]), 2, 24) := by kernel_rfl

set_option maxRecDepth 100000 in
set_option maxHeartbeats 1000000 in
theorem toLinkS_own (a : Option Addr) (n cap : Nat) (d : List shLink.D) (w : World) (hr : Reads (.sl shLink) w [.slice a n cap] d) (hs : Sh.sz (.sl shLink) d ≤ 1048576) :
    Calls Tryz.prog 37 #[.slice a n cap] w fun e w' => ∃ (g : Nat) (F : List Nat), e = .returned (.slice (some ⟨g, 0, none⟩) n n) ∧ Own (.sl shLink) w' w.heap.size [.slice (some ⟨g, 0, none⟩) n n] d F ∧ F.Nodup ∧ Below w.heap.size w w' := by
  obtain ⟨i0, hi, hz0, hz1, hz2⟩ := info_parts infoLink
  obtain ⟨hl, hc1, hc2⟩ := reads_len hr
  have hs' : n + (List.map shLink.sz d).sum ≤ 1048576 := by rw [← hl]; exact hs
  have HS : Hid (n + (List.map shLink.sz d).sum ≤ 1048576) := hs'
  have hn : n ≤ 1048576 := by omega
  have HR : Hid (Reads (.sl shLink) w [.slice a n cap] d) := hr
  have HL : Hid (d.length = n) := hl
  clear hr hs hs' hl
  unfold maxLen at hc2
  go_enter Tryz.func37, Tryz.ntmps37
  go_wp2_with (at_make; refine wpList_make_full _ rfl _ _ 30 rfl w.heap.size 111 i0 (.agg #[.string ByteArray.empty, .int .i64 0]) 2 Tryz.underlying30 hi hz0 hz1 _ _ _ _ n rfl rfl rfl rfl ?b2 ?b3 (Nat.le_refl _) ?_)
  case b2 => rw [hz2]; omega
  case b3 => unfold maxLen; omega
  intro w0 hown0 hgrow0
  have hb0 : Below w.heap.size w w0 := (Below.refl _ _).grown hgrow0 (Nat.le_refl _) (fun k h => by cases h)
  have hf0 : Fill shLink 111 w0 w.heap.size w.heap.size n 0 d := by
    rcases hown0.2 with ⟨h1, _⟩ | ⟨g', cap', cur, hv, hg, hh, h1, h2, h3, h4⟩
    · simp at h1
    · simp only [Value.slice.injEq, Option.some.injEq, Addr.mk.injEq, and_true, true_and] at hv
      obtain ⟨rfl, rfl⟩ := hv
      exact Fill.zero HL.out (by unfold maxLen; omega) (Nat.le_refl _) hh h3
  clear hown0 hgrow0
  have H0 : Hid (Fill shLink 111 w0 w.heap.size w.heap.size n 0 d ∧ Below w.heap.size w w0) := ⟨hf0, hb0⟩
  clear hf0 hb0
  go_wp2
  go_loopw [4] (fun i wr => ∃ k : Nat, k ≤ n ∧ i = .int .i64 k ∧ Hid (Fill shLink 111 wr w.heap.size w.heap.size n k d) ∧ Below w.heap.size w wr) (fun i _ => n - (intOf i).toNat)
  case atStart => exact ⟨0, by omega, rfl, H0.out.1, H0.out.2⟩
  case round =>
    obtain ⟨k, hk, rfl, hfill, hbel⟩ := hrel
    by_cases hlt : k < n
    · obtain ⟨b, off, c, x, rfl, hb, hx, hrx, hcell⟩ := reads_elem HR.out k hlt
      have hxs := sz_elem shLink d k x hx
      have q : Hid (Calls Tryz.prog 82 #[.agg c.toArray] wr fun e w' => ∃ cs' F, e = .returned (.agg cs'.toArray) ∧ Own shLink w' wr.heap.size cs' x F ∧ F.Nodup ∧ Below wr.heap.size wr w') := toLink_any c x wr (hrx.later hbel) (by have := HS.out; omega)
      have HX : Hid (shLink.at d k = some x) := hx
      obtain ⟨rfl, _⟩ := open_Link hrx
      obtain ⟨y0, ey0⟩ : ∃ y : ByteArray, y = x.1 := ⟨_, rfl⟩
      obtain ⟨y1, ey1⟩ : ∃ y : Int, y = x.2.1 := ⟨_, rfl⟩
      have g0 : wr.cell? ⟨b, off + k * 2, none⟩ = some (.string y0) := by rw [ey0]; exact (hbel.cell (p := ⟨b, off + (k * 2 + 0), none⟩) hb).trans (hcell 0 (by decide))
      have g1 : wr.cell? ⟨b, off + k * 2 + 1, none⟩ = some (.int .i64 y1) := by rw [ey1]; exact (hbel.cell (p := ⟨b, off + (k * 2 + 1), none⟩) hb).trans (hcell 1 (by decide))
      rw [← ey0, ← ey1] at q
      have HEY : Hid (y0 = x.1 ∧ y1 = x.2.1 ∧ True) := ⟨ey0, ey1, trivial⟩
      clear hcell hrx hx hxs ey0 ey1
      go_wp2_with fail
      refine q.out.mono ?_
      rintro e w1 ⟨cs', F, he, ho, hnd, hb1⟩
      obtain ⟨hcs, _⟩ := open_Link ho.reads
      rw [← HEY.out.1, ← HEY.out.2.1] at hcs
      subst hcs
      subst he
      have hbel1 := hbel.trans (hb1.mono hbel.size)
      have hfill1 := hfill.out.later hb1
      have hsz1 := hbel1.size
      obtain ⟨⟨u0, fc0⟩, ff0⟩ := hfill1.cell (k * 2) (by show _ < n * 2; omega)
      obtain ⟨⟨u1, fc1⟩, ff1⟩ := hfill1.cell (k * 2 + 1) (by show _ < n * 2; omega)
      have HF : Hid (Own shLink w1 wr.heap.size [.string y0, .int .i64 y1] x F ∧ F.Nodup ∧ Below wr.heap.size wr w1) := ⟨ho, hnd, hb1⟩
      clear ho hnd hb1 hfill1 q g0 g1
      go_wp2_with fail
      obtain ⟨W, hW⟩ : ∃ W, W = ((w1).setCell ⟨w.heap.size, k * 2, none⟩ (.string y0)).setCell ⟨w.heap.size, k * 2 + 1, none⟩ (.int .i64 y1) := ⟨_, rfl⟩
      have hstep : Fill shLink 111 W w.heap.size w.heap.size n (k + 1) d := by
        refine hfill.out.step hlt HX.out HF.out.2.2 HF.out.1 HF.out.2.1 hbel.size ?_ ?_
        · intro l hh
          rw [hW]
          have := box_set (j := k * 2 + 1) (.int .i64 y1) (box_set (j := k * 2) (.string y0) hh)
          rw [this]
          simp [setRow, size_Link]
        · intro i hi
          rw [hW]
          exact ((box_other _ hi).trans (box_other _ hi))
      have hbW : Below w.heap.size w W := by rw [hW]; exact ((hbel1.setCell (by simp <;> omega) _).setCell (by simp <;> omega) _)
      rw [← hW]
      have HH : Hid (Fill shLink 111 W w.heap.size w.heap.size n (k + 1) d ∧ Below w.heap.size w W) := ⟨hstep, hbW⟩
      clear hW hstep hbW fc0 ff0 fc1 ff1
      go_wp2
      go_roundw
      case rel => exact ⟨k + 1, by omega, by go_num, HH.out.1, HH.out.2⟩
      case measure => simp [intOf]; omega
    · have e : k = n := by omega
      subst e
      obtain ⟨F, hF1, hF2⟩ := hfill.out.full
      have HF : Hid (Own (.sl shLink) wr w.heap.size [.slice (some ⟨w.heap.size, 0, none⟩) k k] d F ∧ F.Nodup) := ⟨hF1, hF2⟩
      clear hF1 hF2
      go_wp2
      go_ret
      exact ⟨_, F, rfl, HF.out.1, HF.out.2, hbel⟩

set_option maxRecDepth 100000 in
set_option maxHeartbeats 1000000 in
theorem eqLink_any (cs1 cs2 : List Value) (d : shLink.D) (w : World) (hr : Reads shLink w cs1 d) (hq : Reads shLink w cs2 d) (hs : shLink.sz d ≤ 1048576) :
    Calls Tryz.prog 101 #[.agg cs1.toArray, .agg cs2.toArray] w fun e w' => e = .returned (.bool true) ∧ Below w.heap.size w w' := by
  obtain ⟨rfl, r0⟩ := open_Link hr
  obtain ⟨rfl, _⟩ := open_Link hq
  obtain ⟨x0, e0⟩ : ∃ x : ByteArray, x = d.1 := ⟨_, rfl⟩
  obtain ⟨x1, e1⟩ : ∃ x : Int, x = d.2.1 := ⟨_, rfl⟩

  rw [sz_Link] at hs
  rw [← e0, ← e1]
  have ne0 : (x0.toList != x0.toList) = false := by simp
  have ne1 : (x1 != x1) = false := by simp
  clear hr hq hs r0 e0 e1
  obtain ⟨W0, hW0⟩ : ∃ W0, W0 = (w.alloc (.cells #[.string x0, .int .i64 x1] 111)).alloc (.cells #[.string x0, .int .i64 x1] 111) := ⟨_, rfl⟩
  have bW0 : Below w.heap.size w W0 := by rw [hW0]; exact ((Below.refl _ _).alloc (Nat.le_refl _) _).alloc (by simp) _
  have hA : W0.heap[w.heap.size]? = some (.cells #[.string x0, .int .i64 x1] 111 (0, 0)) := by rw [hW0, heap_alloc_old _ _ (by simp)]; exact heap_alloc_new w _
  have hB : W0.heap[w.heap.size + 1]? = some (.cells #[.string x0, .int .i64 x1] 111 (0, 0)) := by rw [hW0]; exact (by have := heap_alloc_new (w.alloc (.cells #[.string x0, .int .i64 x1] 111)) (.cells #[.string x0, .int .i64 x1] 111); simpa using this)
  have zW0 : W0.heap.size = w.heap.size + 1 + 1 := by rw [hW0]; simp
  have HW0 : Hid (W0 = _) := hW0
  have HAB : Hid (W0.heap[w.heap.size]? = some (.cells #[.string x0, .int .i64 x1] 111 (0, 0)) ∧ W0.heap[w.heap.size + 1]? = some (.cells #[.string x0, .int .i64 x1] 111 (0, 0))) := ⟨hA, hB⟩
  clear hW0 hA hB
  go_enter Tryz.func101, Tryz.ntmps101
  go_wp2
  go_ret
  exact ⟨rfl, by rw [← HW0.out]; exact bW0⟩

set_option maxRecDepth 100000 in
set_option maxHeartbeats 1000000 in
theorem eqLinkS_reads (a b : Option Addr) (n ca cb : Nat) (d : List shLink.D) (w : World) (hr1 : Reads (.sl shLink) w [.slice a n ca] d) (hr2 : Reads (.sl shLink) w [.slice b n cb] d) (hs : Sh.sz (.sl shLink) d ≤ 1048576) :
    Calls Tryz.prog 46 #[.slice a n ca, .slice b n cb] w fun e w' => e = .returned (.bool true) ∧ Below w.heap.size w w' := by
  obtain ⟨hl, hc1, hc2⟩ := reads_len hr1
  have hs' : n + (List.map shLink.sz d).sum ≤ 1048576 := by rw [← hl]; exact hs
  have HS : Hid (n + (List.map shLink.sz d).sum ≤ 1048576) := hs'
  have hn : n ≤ 1048576 := by omega
  have HR : Hid (Reads (.sl shLink) w [.slice a n ca] d ∧ Reads (.sl shLink) w [.slice b n cb] d) := ⟨hr1, hr2⟩
  clear hr1 hr2 hs hs' hl hc1 hc2
  have hnn : ((n : Int) != (n : Int)) = false := by simp
  go_enter Tryz.func46, Tryz.ntmps46
  go_wp2
  go_loopw [5] (fun i wr => ∃ k : Nat, k ≤ n ∧ i = .int .i64 k ∧ Below w.heap.size w wr) (fun i _ => n - (intOf i).toNat)
  case atStart => exact ⟨0, Nat.zero_le _, rfl, Below.refl _ _⟩
  case round =>
    obtain ⟨k, hk, rfl, hbel⟩ := hrel
    by_cases hlt : k < n
    · obtain ⟨b1, o1, c, x, rfl, hb1, hx, hrx, hcell⟩ := reads_elem HR.out.1 k hlt
      obtain ⟨b2, o2, c', x', rfl, hb2, hx', hrx', hcell'⟩ := reads_elem HR.out.2 k hlt
      obtain rfl : x = x' := Option.some.inj (hx.symm.trans hx')
      have hxs := sz_elem shLink d k x hx
      have q : Hid (∀ w', Below wr.heap.size wr w' → Calls Tryz.prog 101 #[.agg c.toArray, .agg c'.toArray] w' fun e w'' => e = .returned (.bool true) ∧ Below w'.heap.size w' w'') := fun w' h' => eqLink_any c c' x w' ((hrx.later hbel).later h') ((hrx'.later hbel).later h') (by have := HS.out; omega)
      obtain ⟨rfl, _⟩ := open_Link hrx
      obtain ⟨rfl, _⟩ := open_Link hrx'
      skip
      obtain ⟨y0, ey0⟩ : ∃ y : ByteArray, y = x.1 := ⟨_, rfl⟩
      obtain ⟨y1, ey1⟩ : ∃ y : Int, y = x.2.1 := ⟨_, rfl⟩
      have g0 : wr.cell? ⟨b1, o1 + k * 2, none⟩ = some (.string y0) := by rw [ey0]; exact (hbel.cell (p := ⟨b1, o1 + (k * 2 + 0), none⟩) hb1).trans (hcell 0 (by decide))
      have g1 : wr.cell? ⟨b1, o1 + k * 2 + 1, none⟩ = some (.int .i64 y1) := by rw [ey1]; exact (hbel.cell (p := ⟨b1, o1 + (k * 2 + 1), none⟩) hb1).trans (hcell 1 (by decide))
      have f0 : wr.cell? ⟨b2, o2 + k * 2, none⟩ = some (.string y0) := by rw [ey0]; exact (hbel.cell (p := ⟨b2, o2 + (k * 2 + 0), none⟩) hb2).trans (hcell' 0 (by decide))
      have f1 : wr.cell? ⟨b2, o2 + k * 2 + 1, none⟩ = some (.int .i64 y1) := by rw [ey1]; exact (hbel.cell (p := ⟨b2, o2 + (k * 2 + 1), none⟩) hb2).trans (hcell' 1 (by decide))
      rw [← ey0, ← ey1] at q
      have hbs := hbel.size
      have hlt' : (k : Int) < (n : Int) := by omega
      have hbb : Below wr.heap.size wr wr := Below.refl _ _
      clear hcell hrx hx hxs hcell' hrx' hx' ey0 ey1
      go_wp2_with fail
      go_region_held (fun w' => w'.cell? ⟨b1, o1 + k * 2, none⟩ = some (.string y0) ∧ w'.cell? ⟨b1, o1 + k * 2 + 1, none⟩ = some (.int .i64 y1) ∧ w'.cell? ⟨b2, o2 + k * 2, none⟩ = some (.string y0) ∧ w'.cell? ⟨b2, o2 + k * 2 + 1, none⟩ = some (.int .i64 y1))
        (first | go_keep | (refine ⟨(hb7.cell (p := ⟨b1, o1 + k * 2, none⟩) (by simp; omega)).trans ?_, (hb7.cell (p := ⟨b1, o1 + k * 2 + 1, none⟩) (by simp; omega)).trans ?_, (hb7.cell (p := ⟨b2, o2 + k * 2, none⟩) (by simp; omega)).trans ?_, (hb7.cell (p := ⟨b2, o2 + k * 2 + 1, none⟩) (by simp; omega)).trans ?_⟩ <;> assumption))
        ((go_at_call 101; refine (q.out _ (Below.drew hbb)).mono ?_; rintro e w7 ⟨rfl, hb7⟩))
      have hbel7 : Below w.heap.size w w7 := hbel.trans (((Below.drew hbb).trans (hb7.mono (by simp))).mono hbel.size)
      clear hb7
      go_wp2
      go_roundw
      case rel => exact ⟨k + 1, by omega, by go_num, hbel7⟩
      case measure => simp [intOf]; omega
    · go_wp2
      go_ret
      exact ⟨rfl, hbel⟩

end Go.Proofs.YtkaegbhmeonjfaaGreat

/- Nm: NameOk, the model's and the program's. -/
namespace Go.Proofs.YtkaegbhmeonjfaaGreat
open Go.RowKit
set_option linter.unusedVariables false
set_option maxRecDepth 100000

/-- The first k bytes are from a to z. -/
def azTo (s : ByteArray) (k : Nat) : Prop := ∀ i, i < k → ∀ h : i < s.size, 97 ≤ (s[i]'h).toNat ∧ (s[i]'h).toNat ≤ 122

/-- A name. -/
def isName (s : ByteArray) : Prop := 1 ≤ s.size ∧ s.size ≤ 12 ∧ azTo s s.size

theorem azTo_succ {s : ByteArray} {k : Nat} (h : azTo s k) (hk : k < s.size) (h1 : 97 ≤ (s[k]'hk).toNat) (h2 : (s[k]'hk).toNat ≤ 122) : azTo s (k + 1) := by
  intro i hi hs
  by_cases e : i = k
  · subst e; exact ⟨h1, h2⟩
  · exact h i (by omega) hs

open Classical in
set_option maxHeartbeats 1000000 in
theorem specName_any (s : ByteArray) (w : World) (hs : s.size ≤ maxLen) :
    Calls Tryz.prog 76 #[.string s] w fun e w' => e = .returned (.bool (decide (isName s))) ∧ w' = w := by
  unfold maxLen at hs
  by_cases h1 : s.size < 1
  · have e : decide (isName s) = false := decide_eq_false (fun h => by have := h.1; omega)
    have h1' : (s.size : Int) < 1 := by omega
    rw [e]
    go_enter Tryz.func76, Tryz.ntmps76
    go_wp2
    go_ret
    exact ⟨rfl, rfl⟩
  · by_cases h2 : 12 < s.size
    · have e : decide (isName s) = false := decide_eq_false (fun h => by have := h.2.1; omega)
      have h1' : ¬ (s.size : Int) < 1 := by omega
      have h2' : (12 : Int) < (s.size : Int) := by omega
      rw [e]
      go_enter Tryz.func76, Tryz.ntmps76
      go_wp2
      go_ret
      exact ⟨rfl, rfl⟩
    · have h1' : ¬ (s.size : Int) < 1 := by omega
      have h2' : ¬ (12 : Int) < (s.size : Int) := by omega
      have d1 : decide ((s.size : Int) < 1) = false := decide_eq_false h1'
      have d2 : decide ((12 : Int) < (s.size : Int)) = false := decide_eq_false h2'
      have d3 : decide (12 < s.size) = false := decide_eq_false h2
      have d4 : decide (s.size < 1) = false := decide_eq_false h1
      go_enter Tryz.func76, Tryz.ntmps76
      go_wp2
      go_loop [3] (fun i => ∃ k : Nat, k ≤ s.size ∧ i = .int .i64 k ∧ Hid (azTo s k)) (fun i => s.size - (intOf i).toNat)
      case atStart => exact ⟨0, Nat.zero_le _, rfl, fun i hi => by omega⟩
      case round =>
        obtain ⟨k, hk, rfl, haz⟩ := hrel
        by_cases hlt : k < s.size
        · have hlt' : (k : Int) < (s.size : Int) := by omega
          by_cases b1 : (s[k]'hlt).toNat < 97
          · have E : Hid (decide (isName s) = false) := decide_eq_false (fun h => by have := (h.2.2 k hlt hlt).1; omega)
            have b1' : ((s[k]'hlt).toNat : Int) < 97 := by omega
            go_wp2
            go_ret
            exact ⟨by rw [E.out]; rfl, rfl⟩
          · have b1' : ¬ ((s[k]'hlt).toNat : Int) < 97 := by omega
            by_cases b2 : 122 < (s[k]'hlt).toNat
            · have E : Hid (decide (isName s) = false) := decide_eq_false (fun h => by have := (h.2.2 k hlt hlt).2; omega)
              have b2' : (122 : Int) < ((s[k]'hlt).toNat : Int) := by omega
              go_wp2
              go_ret
              exact ⟨by rw [E.out]; rfl, rfl⟩
            · have b2' : ¬ (122 : Int) < ((s[k]'hlt).toNat : Int) := by omega
              have HN : Hid (azTo s (k + 1)) := azTo_succ haz.out hlt (by omega) (by omega)
              go_wp2
              go_round
              case rel => exact ⟨k + 1, by omega, by go_num, HN⟩
              case measure => simp [intOf]; omega
        · have E : Hid (decide (isName s) = true) := decide_eq_true ⟨by omega, by omega, fun i hi hs' => haz.out i (by omega) hs'⟩
          go_wp2
          go_ret
          exact ⟨by rw [E.out]; rfl, rfl⟩

open Classical in
set_option maxHeartbeats 1000000 in
theorem implName_any (s : ByteArray) (w : World) (hs : s.size ≤ maxLen) :
    Calls Tryz.prog 116 #[.string s] w fun e w' => e = .returned (.bool (decide (isName s))) ∧ w' = w := by
  unfold maxLen at hs
  by_cases h1 : s.size < 1
  · have e : decide (isName s) = false := decide_eq_false (fun h => by have := h.1; omega)
    have h1' : (s.size : Int) < 1 := by omega
    rw [e]
    go_enter Tryz.func116, Tryz.ntmps116
    go_wp2
    go_ret
    exact ⟨rfl, rfl⟩
  · by_cases h2 : 12 < s.size
    · have e : decide (isName s) = false := decide_eq_false (fun h => by have := h.2.1; omega)
      have h1' : ¬ (s.size : Int) < 1 := by omega
      have h2' : (12 : Int) < (s.size : Int) := by omega
      rw [e]
      go_enter Tryz.func116, Tryz.ntmps116
      go_wp2
      go_ret
      exact ⟨rfl, rfl⟩
    · have h1' : ¬ (s.size : Int) < 1 := by omega
      have h2' : ¬ (12 : Int) < (s.size : Int) := by omega
      have d1 : decide ((s.size : Int) < 1) = false := decide_eq_false h1'
      have d2 : decide ((12 : Int) < (s.size : Int)) = false := decide_eq_false h2'
      have d3 : decide (12 < s.size) = false := decide_eq_false h2
      have d4 : decide (s.size < 1) = false := decide_eq_false h1
      go_enter Tryz.func116, Tryz.ntmps116
      go_wp2
      go_loop [14] (fun i => ∃ k : Nat, k ≤ s.size ∧ i = .int .i64 k ∧ Hid (azTo s k)) (fun i => s.size - (intOf i).toNat)
      case atStart => exact ⟨0, Nat.zero_le _, rfl, fun i hi => by omega⟩
      case round =>
        obtain ⟨k, hk, rfl, haz⟩ := hrel
        by_cases hlt : k < s.size
        · have hlt' : (k : Int) < (s.size : Int) := by omega
          by_cases b1 : (s[k]'hlt).toNat < 97
          · have E : Hid (decide (isName s) = false) := decide_eq_false (fun h => by have := (h.2.2 k hlt hlt).1; omega)
            have b1' : ((s[k]'hlt).toNat : Int) < 97 := by omega
            go_wp2
            go_ret
            exact ⟨by rw [E.out]; rfl, rfl⟩
          · have b1' : ¬ ((s[k]'hlt).toNat : Int) < 97 := by omega
            by_cases b2 : 122 < (s[k]'hlt).toNat
            · have E : Hid (decide (isName s) = false) := decide_eq_false (fun h => by have := (h.2.2 k hlt hlt).2; omega)
              have b2' : (122 : Int) < ((s[k]'hlt).toNat : Int) := by omega
              go_wp2
              go_ret
              exact ⟨by rw [E.out]; rfl, rfl⟩
            · have b2' : ¬ (122 : Int) < ((s[k]'hlt).toNat : Int) := by omega
              have HN : Hid (azTo s (k + 1)) := azTo_succ haz.out hlt (by omega) (by omega)
              go_wp2
              go_round
              case rel => exact ⟨k + 1, by omega, by go_num, HN⟩
              case measure => simp [intOf]; omega
        · have E : Hid (decide (isName s) = true) := decide_eq_true ⟨by omega, by omega, fun i hi hs' => haz.out i (by omega) hs'⟩
          go_wp2
          go_ret
          exact ⟨by rw [E.out]; rfl, rfl⟩

/-- The word of NameOk. -/
def nameB (s : ByteArray) : Bool := decide (1 ≤ s.size) && decide (s.size ≤ 12) && (List.range s.size).all fun i => if h : i < s.size then decide (97 ≤ (s[i]'h).toNat) && decide ((s[i]'h).toNat ≤ 122) else true

theorem nameB_iff (s : ByteArray) : nameB s = true ↔ isName s := by
  unfold nameB isName azTo
  simp only [Bool.and_eq_true, decide_eq_true_eq, List.all_eq_true, List.mem_range]
  constructor
  · rintro ⟨⟨h1, h2⟩, h3⟩
    refine ⟨h1, h2, fun i hi h => ?_⟩
    have := h3 i hi
    rw [dif_pos h] at this
    simpa using this
  · rintro ⟨h1, h2, h3⟩
    refine ⟨⟨h1, h2⟩, fun i hi => ?_⟩
    rw [dif_pos hi]
    simpa using h3 i hi hi
theorem nameB_not (s : ByteArray) : nameB s = false ↔ ¬ isName s := by rw [← nameB_iff]; simp
theorem nameB_dec (s : ByteArray) : @decide (isName s) (Classical.propDecidable _) = nameB s := by
  rw [Bool.eq_iff_iff, nameB_iff]; simp

theorem specNameB (s : ByteArray) (w : World) (hs : s.size ≤ maxLen) :
    Calls Tryz.prog 76 #[.string s] w fun e w' => e = .returned (.bool (nameB s)) ∧ w' = w := by
  rw [← nameB_dec]; exact specName_any s w hs
theorem implNameB (s : ByteArray) (w : World) (hs : s.size ≤ maxLen) :
    Calls Tryz.prog 116 #[.string s] w fun e w' => e = .returned (.bool (nameB s)) ∧ w' = w := by
  rw [← nameB_dec]; exact implName_any s w hs

end Go.Proofs.YtkaegbhmeonjfaaGreat

/- NameS: l03Find, the model's. -/
namespace Go.Proofs.YtkaegbhmeonjfaaGreat
open Go.RowKit
set_option linter.unusedVariables false
set_option maxRecDepth 100000

theorem at_some' {e : Sh} {d : List e.D} {i : Nat} {x : e.D} (h : e.at d i = some x) : ∃ hi : i < d.length, d[i] = x := by
  have hk : i < d.length := by
    rcases Nat.lt_or_ge i d.length with h' | h'
    · exact h'
    · rw [show e.at d i = none from List.getElem?_eq_none h'] at h; cases h
  refine ⟨hk, ?_⟩
  have : d[i]? = some x := h
  rw [List.getElem?_eq_getElem hk] at this
  exact Option.some.inj this

abbrev LinkD := ByteArray × Int × Unit

/-- The Id that a name is linked to. -/
def findL : List LinkD → ByteArray → Int
  | [], _ => 0
  | x :: l, s => if x.1 = s then x.2.1 else findL l s

theorem findL_drop (l : List LinkD) (s : ByteArray) (k : Nat) (h : ∀ i (hi : i < l.length), i < k → l[i].1 ≠ s) : findL l s = findL (l.drop k) s := by
  induction k generalizing l with
  | zero => simp
  | succ k ih =>
    cases l with
    | nil => simp
    | cons x l =>
      have h0 := h 0 (by simp) (by omega)
      simp at h0
      rw [List.drop_succ_cons, ← ih l (fun i hi hk => by have := h (i + 1) (by simp; omega) (by omega); simpa using this)]
      simp [findL, h0]

theorem str_neq {a b : ByteArray} (h : ¬ a = b) : (a.toList == b.toList) = false := by
  rw [beq_eq_false_iff_ne]
  intro e
  apply h
  rw [ByteArray.toList_eq, ByteArray.toList_eq] at e
  exact ByteArray.ext (Array.toList_inj.1 e)

set_option maxRecDepth 100000 in
set_option maxHeartbeats 1000000 in
theorem specFind_ok (a : Option Addr) (n cap : Nat) (d : List LinkD) (s : ByteArray) (w : World) (hr : Reads (.sl shLink) w [.slice a n cap] d) :
    Calls Tryz.prog 58 #[.slice a n cap, .string s] w fun e w' => e = .returned (.int .i64 (findL d s)) ∧ Below w.heap.size w w' := by
  obtain ⟨hl0, hc1, hc2⟩ := reads_len hr
  have hl : List.length (α := LinkD) d = n := hl0
  unfold maxLen at hc2
  have HR : Hid (Reads (.sl shLink) w [.slice a n cap] d) := hr
  have HL : Hid (List.length (α := LinkD) d = n) := hl
  clear hr hl hl0
  go_enter Tryz.func58, Tryz.ntmps58
  go_wp2
  go_loopw [9] (fun i wr => ∃ k : Nat, k ≤ n ∧ i = .int .i64 k ∧ Hid (∀ i (hi : i < List.length (α := LinkD) d), i < k → (d[i] : LinkD).1 ≠ s) ∧ Below w.heap.size w wr) (fun i _ => n - (intOf i).toNat)
  case atStart => exact ⟨0, Nat.zero_le _, rfl, fun i _ hi => by omega, Below.refl _ _⟩
  case round =>
    obtain ⟨k, hk, rfl, hno, hbel⟩ := hrel
    have hfd := findL_drop d s k hno.out
    by_cases hlt : k < n
    · obtain ⟨b, off, c, x, rfl, hb, hx, hrx, hcell⟩ := reads_elem HR.out k hlt
      obtain ⟨rfl, _⟩ := open_Link hrx
      obtain ⟨hkd, hxe⟩ := at_some' hx
      obtain ⟨y0, ey0⟩ : ∃ y : ByteArray, y = x.1 := ⟨_, rfl⟩
      obtain ⟨y1, ey1⟩ : ∃ y : Int, y = x.2.1 := ⟨_, rfl⟩
      have g0 : wr.cell? ⟨b, off + k * 2, none⟩ = some (.string y0) := by rw [ey0]; exact (hbel.cell (p := ⟨b, off + (k * 2 + 0), none⟩) hb).trans (hcell 0 (by decide))
      have g1 : wr.cell? ⟨b, off + k * 2 + 1, none⟩ = some (.int .i64 y1) := by rw [ey1]; exact (hbel.cell (p := ⟨b, off + (k * 2 + 1), none⟩) hb).trans (hcell 1 (by decide))
      have hbs := hbel.size
      have bA : Below w.heap.size w (wr.alloc (.cells #[.string y0, .int .i64 y1] 111)) := hbel.alloc hbs _
      have hd : List.drop (α := LinkD) k d = (y0, y1, ()) :: List.drop (α := LinkD) (k + 1) d := by
        have h1 := List.drop_eq_getElem_cons (l := (show List LinkD from d)) (i := k) hkd
        rw [ey0, ey1]
        have h2 : (show List LinkD from d)[k] = (x.1, x.2.1, ()) := hxe
        exact h1.trans (congrArg (fun z : LinkD => z :: List.drop (α := LinkD) (k + 1) d) h2)
      rw [hd] at hfd
      by_cases hs : y0 = s
      · have E : Hid (findL d s = y1) := by show _ = _; rw [hfd]; simp [findL, hs]
        subst hs
        have hq : (y0.toList == y0.toList) = true := by simp
        clear hcell hrx hx hxe ey0 ey1 hd hfd hno
        go_wp2
        go_ret
        exact ⟨by rw [E.out]; rfl, bA⟩
      · have hq := str_neq hs
        have HN : Hid (∀ i (hi : i < List.length (α := LinkD) d), i < k + 1 → (d[i] : LinkD).1 ≠ s) := by
          intro i hi hik
          by_cases e : i = k
          · subst e
            have h2 : (show List LinkD from d)[i].1 = y0 := by rw [ey0]; exact congrArg Prod.fst hxe
            intro e2
            exact hs (h2.symm.trans e2)
          · exact hno.out i hi (by omega)
        clear hcell hrx hx hxe ey0 ey1 hd hfd hno hs
        go_wp2
        go_roundw
        case rel => exact ⟨k + 1, by omega, by go_num, HN, bA⟩
        case measure => simp [intOf]; omega
    · have E : Hid (findL d s = 0) := by
        show _ = _
        rw [hfd, List.drop_eq_nil_of_le (by have := HL.out; omega)]
        rfl
      clear hfd hno
      go_wp2
      go_ret
      exact ⟨by rw [E.out]; rfl, hbel⟩

end Go.Proofs.YtkaegbhmeonjfaaGreat
