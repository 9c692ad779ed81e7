/-
  Unhex: the value of a digit, and what the two searches for it answer.
-/
import Derived.Test.YtmikibekioekmaeDoorHex
import Derived.Lib.Bytealg
namespace Go.Proofs.YtmikibekioekmaeDoor
open Go.RowKit
set_option linter.unusedVariables false

/-- The value of a digit; 16 where it is none. -/
def dg (c : Int) : Nat := if 48 ≤ c ∧ c ≤ 57 then (c - 48).toNat else if 97 ≤ c ∧ c ≤ 102 then (c - 87).toNat else 16

theorem dg_le (c : Int) : dg c ≤ 16 := by
  unfold dg
  split
  · omega
  · split <;> omega

theorem dg_hit (c : Int) (h : dg c < 16) : hx (dg c : Int) = c := by
  unfold dg at *
  split at h
  · rename_i h1
    rw [if_pos h1]
    have : ((c - 48).toNat : Int) < 10 := by omega
    simp only [hx, this, if_true]; omega
  · rename_i h1
    split at h
    · rename_i h2
      rw [if_neg h1, if_pos h2]
      have : ¬ ((c - 87).toNat : Int) < 10 := by omega
      simp only [hx, this, if_false]; omega
    · omega

theorem dg_miss (c : Int) (d : Nat) (h : d < dg c) : hx (d : Int) ≠ c := by
  intro e
  unfold dg at h
  unfold hx at e
  split at e <;> split at h <;> (try split at h) <;> omega

theorem find_hex (c : Nat) (h : c < 256) : Lib.indexByte [48, 49, 50, 51, 52, 53, 54, 55, 56, 57, 97, 98, 99, 100, 101, 102] c.toUInt8 = if dg c = 16 then -1 else (dg c : Int) := by
  have : ∀ c : Nat, c < 256 → Lib.indexByte [48, 49, 50, 51, 52, 53, 54, 55, 56, 57, 97, 98, 99, 100, 101, 102] c.toUInt8 = if dg c = 16 then -1 else (dg c : Int) := by decide +kernel
  exact this c h

set_option maxHeartbeats 1000000 in
set_option maxRecDepth 100000 in
theorem idx_lite (s : ByteArray) (c : Int) (w : World) :
    Calls Tryd.prog 28 #[.string s, .int .u8 c] w fun e w' => e = .returned (.int .i64 (Lib.indexByte s.data.toList c.toNat.toUInt8)) ∧ w' = w := by
  go_enter Tryd.func28, Tryd.ntmps28
  go_wp2
  rw [run_callFunc_extern Tryd.func37 (by kernel_rfl) (by kernel_rfl) (by kernel_rfl) (e := Extern.BytealgIndexByte.indexByte) (by kernel_rfl), Lib.run_indexByteString]
  simp only [Result.andThen]
  rw [Oper.upon_value]
  go_wp2
  go_ret
  exact ⟨rfl, rfl⟩

set_option maxHeartbeats 1000000 in
theorem idx_any (s : ByteArray) (c : Int) (w : World) :
    Calls Tryd.prog 20 #[.string s, .int .u8 c] w fun e w' => e = .returned (.int .i64 (Lib.indexByte s.data.toList c.toNat.toUInt8)) ∧ w' = w := by
  go_enter Tryd.func20, Tryd.ntmps20
  go_wp2_with (go_at_call 28; refine (idx_lite _ _ _).mono ?_; rintro e w' ⟨rfl, rfl⟩)
  go_ret
  exact ⟨rfl, rfl⟩

end Go.Proofs.YtmikibekioekmaeDoor
