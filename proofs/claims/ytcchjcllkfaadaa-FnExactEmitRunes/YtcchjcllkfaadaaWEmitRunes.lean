/-
  The law FnExactEmitRunes over the contracts of its two functions.
-/
import Derived.Test.YtcchjcllkfaadaaLEmitRunes
import Derived.Test.YtcchjcllkfaadaaEmR
import Derived.Test.YtcchjcllkfaadaaVIr
namespace Go.Proofs.Ytcchjcllkfaadaa
open Go.RowKit
set_option linter.unusedVariables false

theorem cntU8 (d : List Int) : Sh.cnt (.sl .u8) d = d.length := by
  exact cnt_bytes d

theorem emitRunes_law (v : Value) (d : List Int) (w : World) (hr : Reads (.sl .int) w [v] d) :
    Calls Try.prog 3 #[v] w fun e w' => e = .returned (.bool true) ∧ Below w.heap.size w w' := by
  by_cases hs : d.length ≤ 1048576
  · have hl : (emr d d.length).length ≤ 16777216 := by have := emr_len d d.length; omega
    refine emitRunes_over v d (emr d d.length) w hr hl (by rw [cntU8]; omega) (fun h => by rw [cnt_ints]; omega) (fun w' c G h hl => ?_) (fun w' c G h hl => ?_)
    · obtain ⟨a, cap, e, _⟩ := h.reads
      obtain ⟨rfl, _⟩ := List.cons.inj e
      obtain ⟨h1, h2, h3, h4⟩ := reads_ints h.reads
      refine (specEmR_any a _ cap d w' h1 h2 (by omega)).mono ?_
      rintro e w1 ⟨v1, rfl, ho, hb⟩
      obtain ⟨F, hF, _⟩ := own_rowU8 rfl (emr_bd d _) ho
      exact ⟨v1, rfl, hF.reads, hb⟩
    · obtain ⟨a, cap, e, _⟩ := h.reads
      obtain ⟨rfl, _⟩ := List.cons.inj e
      obtain ⟨h1, h2, h3, h4⟩ := reads_ints h.reads
      refine (implEmR_any a _ cap d w' h1 h2 (by omega)).mono ?_
      rintro e w1 ⟨v1, rfl, ho, hb⟩
      obtain ⟨F, hF, hn⟩ := own_rowU8 rfl (emr_bd d _) ho
      exact ⟨v1, F, rfl, hF, hn, hb⟩
  · refine emitRunes_over v d [] w hr (by simp) (by rw [cntU8]; simp) (fun h => absurd h hs) (fun w' c G h hl => absurd hl hs) (fun w' c G h hl => absurd hl hs)

end Go.Proofs.Ytcchjcllkfaadaa
