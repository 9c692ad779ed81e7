/-
  What the helpers of the exact laws do to slices of bytes, more: eqByteS over two readings of one list says true; markByteS writes 1, 2, 3 .. (as bytes) into a row of the call's own; heldByteS finds them again.
-/
import Derived.Test.YtndlehogfedfaaaDoorBytes
namespace Go.Proofs.YtndlehogfedfaaaDoor
open Go.RowKit
set_option linter.unusedVariables false

set_option maxHeartbeats 400000 in
theorem eqByteS_same (a b : Option Addr) (n ca cb : Nat) (zs : List Int) (w : World) (hl : Hid (zs.length = n)) (hra : Rd w a zs) (hrb : Rd w b zs) (hn : n ≤ 16777216) :
    Calls Tryd.prog 14 #[.slice a n ca, .slice b n cb] w fun e w' => e = .returned (.bool true) ∧ ∃ q, w' = w.drewN q := by
  have hnn : ((n : Int) != (n : Int)) = false := by simp
  go_enter Tryd.func14, Tryd.ntmps14
  go_wp2
  go_loopw [5] (fun i wr => ∃ k : Nat, k ≤ n ∧ i = .int .i64 k ∧ ∃ q, wr = w.drewN q) (fun i _ => n - (intOf i).toNat)
  case atStart => exact ⟨0, Nat.zero_le _, rfl, 0, rfl⟩
  case round =>
    obtain ⟨k, hk, rfl, q, rfl⟩ := hrel
    by_cases hlt : k < n
    · have hne : zs ≠ [] := by intro h; have := hl.out; subst h; simp at this; omega
      obtain ⟨b1, o1, rfl, hb1, hc1⟩ := hra.2.resolve_left hne
      obtain ⟨b2, o2, rfl, hb2, hc2⟩ := hrb.2.resolve_left hne
      have g1 : w.cell? ⟨b1, o1 + k, none⟩ = some (.int .u8 (zs[k]?.getD 0)) := hc1 k (by have := hl.out; omega)
      have g2 : w.cell? ⟨b2, o2 + k, none⟩ = some (.int .u8 (zs[k]?.getD 0)) := hc2 k (by have := hl.out; omega)
      have hlt' : (k : Int) < (n : Int) := by omega
      clear hc1 hc2 hne hra hrb
      go_wp2
      go_quiet (fail)
      go_wp2
      go_roundw
      case rel => exact ⟨k + 1, by omega, by go_num, _, rfl⟩
      case measure => simp [intOf]; omega
    · go_wp2
      go_ret
      exact ⟨rfl, q, rfl⟩

theorem grownBy_trans {a b c : World} {row : Option Nat} (h : a.grownBy b row) (k : b.grownBy c row) : a.grownBy c row :=
  ⟨k.os.trans h.os, k.tape.trans h.tape, k.output.trans h.output, Nat.le_trans h.size k.size, fun i hi hr => (k.block i (Nat.lt_of_lt_of_le hi h.size) hr).trans (h.block i hi hr)⟩

/-- The marks 1 .. k laid over xs. -/
def marked (xs : List Int) (k : Nat) : List Int := (List.range xs.length).map fun i => if i < k then ((i : Int) + 1) % 256 else xs[i]?.getD 0

theorem marked_zero (xs : List Int) : marked xs 0 = xs := by
  apply List.ext_getElem
  · simp [marked]
  · intro i h1 h2
    simp [marked, h2]

theorem marked_set (xs : List Int) (k : Nat) : ((marked xs k).map (Value.int .u8)).set k (.int .u8 (((k : Int) + 1) % 256)) = (marked xs (k + 1)).map (Value.int .u8) := by
  apply List.ext_getElem
  · simp [marked]
  · intro i h1 h2
    simp [marked] at h1 h2
    rw [List.getElem_set]
    by_cases e : k = i
    · subst e; simp [marked]
    · by_cases h : i < k
      · simp [marked, e, h, Nat.lt_succ_of_lt h]
      · have : ¬ i < k + 1 := by omega
        simp [marked, e, h, this]

set_option maxHeartbeats 400000 in
theorem markByteS_any (g n cap base : Nat) (xs : List Int) (w : World) (hl : Hid (xs.length = n)) (hn : n ≤ 2097152)
    (hown0 : w.ownsRow base 5 1 (.slice (some ⟨g, 0, none⟩) n cap) n (xs.map (Value.int .u8))) :
    Calls Tryd.prog 15 #[.slice (some ⟨g, 0, none⟩) n cap, .int .i64 1] w fun e w' => e = .returned (.int .i64 ((n : Int) + 1)) ∧
      w'.ownsRow base 5 1 (.slice (some ⟨g, 0, none⟩) n cap) n ((marked xs n).map (Value.int .u8)) ∧ w.grownBy w' (some g) := by
  go_enter Tryd.func15, Tryd.ntmps15
  go_wp2
  go_loopw [1, 5] (fun m i wr => ∃ k : Nat, k ≤ n ∧ m = .int .i64 ((k : Int) + 1) ∧ i = .int .i64 k ∧ wr.ownsRow base 5 1 (.slice (some ⟨g, 0, none⟩) n cap) n ((marked xs k).map (Value.int .u8)) ∧ w.grownBy wr (some g))
    (fun _ i _ => n - (intOf i).toNat)
  case atStart => exact ⟨0, Nat.zero_le _, rfl, rfl, by rw [marked_zero]; exact hown0, World.grownBy.refl _ _⟩
  case round =>
    obtain ⟨k, hk, rfl, rfl, hown, hb⟩ := hrel
    by_cases hlt : k < n
    · have hfz := hown.frozenAt k
      have hco : ∃ u, wr.cell? ⟨g, k, none⟩ = some u := by rw [hown.cellAt k (by omega)]; exact ⟨_, List.getElem?_eq_getElem (by have := hl.out; simp [marked]; omega)⟩
      obtain ⟨u, hco⟩ := hco
      have hst := hown.stored k (.int .u8 (((k : Int) + 1) % 256))
      rw [marked_set xs k] at hst
      have HS : Hid (_ ∧ _) := hst
      have HB := grownBy_trans hb HS.out.2
      clear hst hb hown
      go_wp2
      go_roundw
      case rel => exact ⟨k + 1, by omega, by go_num, by go_num, HS.out.1, HB⟩
      case measure => simp [intOf]; omega
    · have e : k = n := by omega
      subst e
      go_wp2
      go_ret
      exact ⟨rfl, hown, hb⟩

set_option maxHeartbeats 400000 in
/-- No element: nothing is written. -/
theorem markByteS_none (a : Option Addr) (cap : Nat) (w : World) :
    Calls Tryd.prog 15 #[.slice a 0 cap, .int .i64 1] w fun e w' => e = .returned (.int .i64 1) ∧ w' = w := by
  go_enter Tryd.func15, Tryd.ntmps15
  go_wp2
  go_loop [1, 5] (fun m i => m = .int .i64 1 ∧ i = .int .i64 0) (fun _ _ => 0)
  case atStart => exact ⟨rfl, rfl⟩
  case round =>
    obtain ⟨rfl, rfl⟩ := hrel
    go_wp2
    go_ret
    exact ⟨rfl, rfl⟩

set_option maxHeartbeats 400000 in
theorem heldByteS_marked (g n cap base : Nat) (xs : List Int) (w : World) (hl : Hid (xs.length = n)) (hn : n ≤ 2097152)
    (hown : w.ownsRow base 5 1 (.slice (some ⟨g, 0, none⟩) n cap) n ((marked xs n).map (Value.int .u8))) :
    Calls Tryd.prog 16 #[.slice (some ⟨g, 0, none⟩) n cap, .int .i64 1] w fun e w' => e = .returned (.int .i64 ((n : Int) + 1)) ∧ w' = w := by
  go_enter Tryd.func16, Tryd.ntmps16
  go_wp2
  go_loop [1, 5] (fun m i => ∃ k : Nat, k ≤ n ∧ m = .int .i64 ((k : Int) + 1) ∧ i = .int .i64 k) (fun _ i => n - (intOf i).toNat)
  case atStart => exact ⟨0, Nat.zero_le _, rfl, rfl⟩
  case round =>
    obtain ⟨k, hk, rfl, rfl⟩ := hrel
    by_cases hlt : k < n
    · have hc : w.cell? ⟨g, k, none⟩ = some (.int .u8 (((k : Int) + 1) % 256)) := by
        rw [hown.cellAt k (by omega)]
        have := hl.out
        simp [marked, this, hlt]
      have hne : ((((k : Int) + 1) % 256) != (((k : Int) + 1) % 256)) = false := by simp
      clear hown
      go_wp2
      go_round
      case rel => exact ⟨k + 1, by omega, by go_num, by go_num⟩
      case measure => simp [intOf]; omega
    · have e : k = n := by omega
      subst e
      go_wp2
      go_ret
      exact ⟨rfl, rfl⟩

set_option maxHeartbeats 400000 in
theorem heldByteS_none (a : Option Addr) (cap : Nat) (w : World) :
    Calls Tryd.prog 16 #[.slice a 0 cap, .int .i64 1] w fun e w' => e = .returned (.int .i64 1) ∧ w' = w := by
  go_enter Tryd.func16, Tryd.ntmps16
  go_wp2
  go_loop [1, 5] (fun m i => m = .int .i64 1 ∧ i = .int .i64 0) (fun _ _ => 0)
  case atStart => exact ⟨rfl, rfl⟩
  case round =>
    obtain ⟨rfl, rfl⟩ := hrel
    go_wp2
    go_ret
    exact ⟨rfl, rfl⟩

end Go.Proofs.YtndlehogfedfaaaDoor
