/-
  markText: the text that a mark is.
-/
import Derived.Test.YtdmgknmlgipnpaaRows
import Derived.Test.YtdmgknmlgipnpaaShp
import Derived.WalkKit
import Derived.WalkSpells
import Derived.WalkLawsBesides
import Derived.Laws.BytesArg
import Derived.Deep.QuietTactic
import Derived.BigQuiet
namespace Go.Proofs.Ytdmgknmlgipnpaa
open Go.RowKit
set_option linter.unusedVariables false

theorem one_byteS (d : Int) (b : Nat) (W : World) (h : W.cell? ⟨b, 0, none⟩ = some (.int .u8 d)) :
    (convert 89 9 (.slice (some ⟨b, 0, none⟩) 1 1)).run Try.prog W = .ok (.string (strOfNums [d])) W := by
  refine run_convert_bytes_arg (P := Try.prog) W 89 5 Try.underlying89 Try.underlying5 b 0 1 1 [d] rfl ?_ 9 Try.underlying9
  intro i hi
  obtain rfl : i = 0 := by omega
  simpa using h

set_option maxHeartbeats 1000000 in
theorem markText_any (k : Nat) (w : World) (h0 : 1 ≤ k) (h1 : k ≤ 1000000000000) :
    Calls Try.prog 44 #[.int .i64 k] w fun e w' => e = .returned (.string (mtext k)) ∧ Below w.heap.size w w' := by
  have h0' : ¬ ((k : Int) ≤ 0) := by omega
  go_enter Try.func44, Try.ntmps44
  go_wp2
  go_loopw [0, 3] (fun n o wr => ∃ (f j : Nat) (t : ByteArray), n = .int .i64 j ∧ o = .string t ∧ j ≤ 1000000000000 ∧ Hid (j < 10 ^ f ∧ f ≤ 20 ∧ mgo 20 k ⟨#[]⟩ = mgo f j t) ∧ t.size + f ≤ 20 ∧ Below w.heap.size w wr) (fun n _ _ => (intOf n).toNat)
  case atStart => exact ⟨20, k, ⟨#[]⟩, rfl, rfl, h1, ⟨by omega, by omega, rfl⟩, by show 0 + 20 ≤ 20; omega, Below.refl _ _⟩
  case round =>
    obtain ⟨f, j, t, rfl, rfl, hj, HF, hts, hbel⟩ := hrel
    have hbs := hbel.size
    by_cases hj0 : 0 < j
    · have hj0' : (0 : Int) < (j : Int) := by omega
      obtain ⟨f', rfl⟩ : ∃ f', f = f' + 1 := by
        cases f with
        | zero => have := HF.out.1; simp at this; omega
        | succ f' => exact ⟨f', rfl⟩
      have hcv := one_byteS (48 + (j : Int) % 10) wr.heap.size (wr.alloc (.cells #[.int .u8 (48 + (j : Int) % 10)] 5)) (by simp)
      obtain ⟨B, hB⟩ : ∃ B, B = strOfNums [48 + (j : Int) % 10] := ⟨_, rfl⟩
      have hBs : B.size = 1 := by rw [hB]; rfl
      have hsum : ¬ (9223372036854775807 < B.size + t.size) := by omega
      have HF2 : Hid (j / 10 < 10 ^ f' ∧ f' ≤ 20 ∧ mgo 20 k ⟨#[]⟩ = mgo f' (j / 10) (B ++ t)) := by
        obtain ⟨a1, a2, a3⟩ := HF.out
        refine ⟨by rw [Nat.pow_succ] at a1; omega, by omega, ?_⟩
        rw [a3, mgo, if_neg (by omega), hB]
      have hs2 : (B ++ t).size + f' ≤ 20 := by rw [ByteArray.size_append]; omega
      rw [← hB] at hcv
      clear hB HF
      go_wp2
      go_roundw
      case rel => exact ⟨f', j / 10, B ++ t, by go_num, rfl, by omega, HF2, hs2, hbel.alloc hbs _⟩
      case measure => simp [intOf]; omega
    · obtain rfl : j = 0 := by omega
      have hsum : ¬ (9223372036854775807 < (⟨#[109]⟩ : ByteArray).size + t.size) := by
        have : (⟨#[109]⟩ : ByteArray).size = 1 := rfl
        omega
      have HE : Hid (mtext k = ⟨#[109]⟩ ++ t) := by
        show mtext k = _
        rw [mtext, HF.out.2.2]
        cases f <;> rfl
      go_wp2
      go_ret
      exact ⟨by rw [HE.out]; rfl, hbel⟩

end Go.Proofs.Ytdmgknmlgipnpaa
