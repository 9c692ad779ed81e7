/-
  The law FnExactFrameBytes over the contracts of its two functions.
-/
import Derived.Test.YtcmipfpblnbccaaFrS
import Derived.Test.YtcmipfpblnbccaaFrI
import Derived.Test.YtcmipfpblnbccaaLFrameBytes
import Derived.Test.YtcmipfpblnbccaaMkEntry
namespace Go.Proofs.Ytcmipfpblnbccaa
open Go.RowKit
set_option linter.unusedVariables false

theorem wdV_Entry : shEntry.wd = 2 := rfl

theorem cntV_EntryB (d : shEntry.D) (h : shEntry.sz d ≤ 1048576) : shEntry.cntV d ≤ 1000000000 := by
  have h1 := shEntry.cnt_le d
  have h2 := shEntry.cntV_le d
  rw [wdV_Entry] at h1
  omega

theorem nilB_reads (w : World) : Reads (.sl .u8) w [.slice none 0 0] ([] : List Int) := ⟨none, 0, rfl, Nat.le_refl _, Nat.zero_le _, .inl rfl⟩
theorem nilB_own (w : World) (B : Nat) : Own (.sl .u8) w B [.slice none 0 0] ([] : List Int) [] := .inl ⟨rfl, rfl, rfl⟩

theorem frame_lenD (x : Int) (s : ByteArray) : (frameL x (sB s)).length = 10 + s.size := by rw [frameL_len, sB_len]

theorem frameBytes_law (cs : List Value) (d : shEntry.D) (w : World) (hr : Reads shEntry w cs d) :
    Calls Try.prog 5 #[.agg cs.toArray] w fun e w' => e = .returned (.bool true) ∧ Below w.heap.size w w' := by
  cases hB : entB d.1 (ByteArray.size d.2.1) with
  | false =>
    refine frameBytes_over cs d ([] : List Int) false w hr (by simp) (by rw [cnt_byteS]; simp) (cntV_EntryB d) ?_ ?_
    · intro w' c G h hs
      obtain ⟨rfl, l1⟩ := open_Entry h.reads
      refine (specFrame_no _ _ w' l1 hB).mono ?_
      rintro e w'' ⟨rfl, hb⟩
      exact ⟨_, rfl, nilB_reads _, hb⟩
    · intro w' c G h hs
      obtain ⟨rfl, l1⟩ := open_Entry h.reads
      refine (implFrame_no _ _ w' l1 hB).mono ?_
      rintro e w'' ⟨rfl, hb⟩
      exact ⟨_, _, rfl, nilB_own _ _, by simp, hb⟩
  | true =>
    obtain ⟨L, hL⟩ : ∃ L, L = frameL d.1 (sB d.2.1) := ⟨_, rfl⟩
    have hl : L.length = 10 + ByteArray.size d.2.1 := by rw [hL]; exact frame_lenD _ _
    have hby : Byt L := by rw [hL]; exact byt_frameL _ _ (byt_sB _)
    have hbd := (entB_iff _ _).1 hB
    refine frameBytes_over cs d L true w hr (by omega) (by rw [cnt_byteS]; omega) (cntV_EntryB d) ?_ ?_
    · intro w' c G h hs
      obtain ⟨rfl, l1⟩ := open_Entry h.reads
      refine (specFrame_yes _ _ w' hB).mono ?_
      rintro e w'' ⟨v, rfl, ho, hb⟩
      rw [← hL] at ho
      obtain ⟨F, hF, _⟩ := own_row hl hby ho
      exact ⟨v, rfl, hF.reads, hb⟩
    · intro w' c G h hs
      obtain ⟨rfl, l1⟩ := open_Entry h.reads
      refine (implFrame_yes _ _ w' hB).mono ?_
      rintro e w'' ⟨v, rfl, ho, hb⟩
      rw [← hL] at ho
      obtain ⟨F, hF, hn⟩ := own_row hl hby ho
      exact ⟨v, F, rfl, hF, hn, hb⟩

end Go.Proofs.Ytcmipfpblnbccaa
