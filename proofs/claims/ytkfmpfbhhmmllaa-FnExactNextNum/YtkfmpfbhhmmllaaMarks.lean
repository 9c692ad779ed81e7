/-
  What the helpers of the exact laws do to slices of bytes, more: eqByteS over two readings of one list says true; markByteS writes 1, 2, 3 .. (as bytes) into a row of the call's own; heldByteS finds them again.
-/
import Derived.Test.YtkfmpfbhhmmllaaBytes
namespace Go.Proofs.Ytkfmpfbhhmmllaa
open Go.RowKit
set_option linter.unusedVariables false

set_option maxHeartbeats 400000 in
theorem eqByteS_same (a b : Option Addr) (n ca cb : Nat) (zs : List Int) (w : World) (hl : Hid (zs.length = n)) (hra : Rd w a zs) (hrb : Rd w b zs) (hn : n ≤ 2097152) :
    Calls Try.prog 39 #[.slice a n ca, .slice b n cb] w fun e w' => e = .returned (.bool true) ∧ ∃ q, w' = w.drewN q := by
  have hnn : ((n : Int) != (n : Int)) = false := by simp
  go_enter Try.func39, Try.ntmps39
  go_wp2
  go_loopw [5] (fun i wr => ∃ k : Nat, k ≤ n ∧ i = .int .i64 k ∧ ∃ q, wr = w.drewN q) (fun i _ => n - (intOf i).toNat)
  case atStart => exact ⟨0, Nat.zero_le _, rfl, 0, rfl⟩
  case round =>
    obtain ⟨k, hk, rfl, q, rfl⟩ := hrel
    by_cases hlt : k < n
    · have hne : zs ≠ [] := by intro h; have := hl.out; subst h; simp at this; omega
      obtain ⟨b1, o1, rfl, hb1, hc1⟩ := hra.2.resolve_left hne
      obtain ⟨b2, o2, rfl, hb2, hc2⟩ := hrb.2.resolve_left hne
      have g1 : w.cell? ⟨b1, o1 + k, none⟩ = some (.int .u8 (zs[k]?.getD 0)) := hc1 k (by have := hl.out; omega)
      have g2 : w.cell? ⟨b2, o2 + k, none⟩ = some (.int .u8 (zs[k]?.getD 0)) := hc2 k (by have := hl.out; omega)
      have hlt' : (k : Int) < (n : Int) := by omega
      clear hc1 hc2 hne hra hrb
      go_wp2
      go_quiet (fail)
      go_wp2
      go_roundw
      case rel => exact ⟨k + 1, by omega, by go_num, _, rfl⟩
      case measure => simp [intOf]; omega
    · go_wp2
      go_ret
      exact ⟨rfl, q, rfl⟩

theorem grownBy_trans {a b c : World} {row : Option Nat} (h : a.grownBy b row) (k : b.grownBy c row) : a.grownBy c row :=
  ⟨k.os.trans h.os, k.tape.trans h.tape, k.output.trans h.output, Nat.le_trans h.size k.size, fun i hi hr => (k.block i (Nat.lt_of_lt_of_le hi h.size) hr).trans (h.block i hi hr)⟩

/-- The marks 1 .. k laid over xs. -/
def marked (xs : List Int) (k : Nat) : List Int := (List.range xs.length).map fun i => if i < k then ((i : Int) + 1) % 256 else xs[i]?.getD 0

theorem marked_zero (xs : List Int) : marked xs 0 = xs := by
  apply List.ext_getElem
  · simp [marked]
  · intro i h1 h2
    simp [marked, h2]

theorem marked_set (xs : List Int) (k : Nat) : ((marked xs k).map (Value.int .u8)).set k (.int .u8 (((k : Int) + 1) % 256)) = (marked xs (k + 1)).map (Value.int .u8) := by
  apply List.ext_getElem
  · simp [marked]
  · intro i h1 h2
    simp [marked] at h1 h2
    rw [List.getElem_set]
    by_cases e : k = i
    · subst e; simp [marked]
    · by_cases h : i < k
      · simp [marked, e, h, Nat.lt_succ_of_lt h]
      · have : ¬ i < k + 1 := by omega
        simp [marked, e, h, this]

end Go.Proofs.Ytkfmpfbhhmmllaa
