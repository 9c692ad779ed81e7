/-
  The law FnExactLogBytes over the contracts of its two functions.
-/
import Derived.Test.YtcmipfpblnbccaaLogS
import Derived.Test.YtcmipfpblnbccaaLogI
import Derived.Test.YtcmipfpblnbccaaLLogBytes
namespace Go.Proofs.Ytcmipfpblnbccaa
open Go.RowKit
set_option linter.unusedVariables false

theorem nilL_reads (w : World) : Reads (.sl .u8) w [.slice none 0 0] ([] : List Int) := ⟨none, 0, rfl, Nat.le_refl _, Nat.zero_le _, .inl rfl⟩
theorem nilL_own (w : World) (B : Nat) : Own (.sl .u8) w B [.slice none 0 0] ([] : List Int) [] := .inl ⟨rfl, rfl, rfl⟩

theorem logBytes_law (v : Value) (d : List shEntry.D) (w : World) (hr : Reads (.sl shEntry) w [v] d) :
    Calls Try.prog 6 #[v] w fun e w' => e = .returned (.bool true) ∧ Below w.heap.size w w' := by
  cases hE : entsB d with
  | false =>
    refine logBytes_over v d ([] : List Int) false w hr (by simp) (by rw [cnt_byteS]; simp) (cntS_Entry d) ?_ ?_
    · intro w' c G h hs
      obtain ⟨a, cp, rfl, _, _⟩ := reads_val h.reads
      refine (specLog_bad _ _ _ _ w' h.reads hE).mono ?_
      rintro e w'' ⟨rfl, hb⟩
      exact ⟨_, rfl, nilL_reads _, hb⟩
    · intro w' c G h hs
      obtain ⟨a, cp, rfl, _, _⟩ := reads_val h.reads
      refine (implLog_bad _ _ _ _ w' h.reads hE).mono ?_
      rintro e w'' ⟨rfl, hb⟩
      exact ⟨_, _, rfl, nilL_own _ _, by simp, hb⟩
  | true =>
    by_cases hn : (logL d).length ≤ 65536
    · refine logBytes_over v d (logL d) true w hr (by omega) (by rw [cnt_byteS]; omega) (cntS_Entry d) ?_ ?_
      · intro w' c G h hs
        obtain ⟨a, cp, rfl, _, _⟩ := reads_val h.reads
        refine (specLog_good _ _ _ _ w' h.reads hE).mono ?_
        rintro e w'' ⟨hb, ⟨_, v, rfl, ho⟩ | ⟨h1, _⟩⟩
        · obtain ⟨F, hF, _⟩ := own_row rfl (byt_logL d) ho
          exact ⟨v, rfl, hF.reads, hb⟩
        · exact absurd h1 (by omega)
      · intro w' c G h hs
        obtain ⟨a, cp, rfl, _, _⟩ := reads_val h.reads
        refine (implLog_good _ _ _ _ w' h.reads hE).mono ?_
        rintro e w'' ⟨hb, ⟨_, v, rfl, ho⟩ | ⟨h1, _⟩⟩
        · obtain ⟨F, hF, hnd⟩ := own_row rfl (byt_logL d) ho
          exact ⟨v, F, rfl, hF, hnd, hb⟩
        · exact absurd h1 (by omega)
    · refine logBytes_over v d ([] : List Int) false w hr (by simp) (by rw [cnt_byteS]; simp) (cntS_Entry d) ?_ ?_
      · intro w' c G h hs
        obtain ⟨a, cp, rfl, _, _⟩ := reads_val h.reads
        refine (specLog_good _ _ _ _ w' h.reads hE).mono ?_
        rintro e w'' ⟨hb, ⟨h1, _⟩ | ⟨_, rfl⟩⟩
        · exact absurd h1 hn
        · exact ⟨_, rfl, nilL_reads _, hb⟩
      · intro w' c G h hs
        obtain ⟨a, cp, rfl, _, _⟩ := reads_val h.reads
        refine (implLog_good _ _ _ _ w' h.reads hE).mono ?_
        rintro e w'' ⟨hb, ⟨h1, _⟩ | ⟨_, rfl⟩⟩
        · exact absurd h1 hn
        · exact ⟨_, _, rfl, nilL_own _ _, by simp, hb⟩

end Go.Proofs.Ytcmipfpblnbccaa
