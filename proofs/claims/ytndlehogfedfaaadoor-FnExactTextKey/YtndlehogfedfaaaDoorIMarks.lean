/-
  What the helpers of the exact laws do to slices of ints, more: eqIntS over two readings of one list says true; markIntS writes 1, 2, 3 .. (as bytes) into a row of the call's own; heldIntS finds them again.
-/
import Derived.Test.YtndlehogfedfaaaDoorInts
import Derived.Test.YtndlehogfedfaaaDoorKeep
namespace Go.Proofs.YtndlehogfedfaaaDoor
open Go.RowKit
set_option linter.unusedVariables false

/-- The marks 1 .. k laid over xs. -/
def markedI (xs : List Int) (k : Nat) : List Int := (List.range xs.length).map fun i => if i < k then ((i : Int) + 1)  else xs[i]?.getD 0

theorem markedI_zero (xs : List Int) : markedI xs 0 = xs := by
  apply List.ext_getElem
  · simp [markedI]
  · intro i h1 h2
    simp [markedI, h2]

theorem markedI_set (xs : List Int) (k : Nat) : ((markedI xs k).map (Value.int .i64)).set k (.int .i64 (((k : Int) + 1) )) = (markedI xs (k + 1)).map (Value.int .i64) := by
  apply List.ext_getElem
  · simp [markedI]
  · intro i h1 h2
    simp [markedI] at h1 h2
    rw [List.getElem_set]
    by_cases e : k = i
    · subst e; simp [markedI]
    · by_cases h : i < k
      · simp [markedI, e, h, Nat.lt_succ_of_lt h]
      · have : ¬ i < k + 1 := by omega
        simp [markedI, e, h, this]

theorem rdI_of {w : World} {a : Option Addr} {len cap : Nat} {zs : List Int}
    (h : (a = none ∧ len = 0 ∧ cap = 0 ∧ zs = []) ∨
      ∃ x, a = some x ∧ len ≤ cap ∧ cap ≤ maxLen ∧ zs.length = cap ∧ (∀ i, i < zs.length → w.cell? (x.add i) = some (.int .i64 (zs.getD i 0))) ∧ ∀ n ∈ zs, (Lit.int .i64 n).wf = true) :
    RdI w a (zs.take len) ∧ (zs.take len).length = len ∧ len ≤ maxLen := by
  rcases h with ⟨rfl, rfl, rfl, rfl⟩ | ⟨x, rfl, hl, hm, hz, hc, hw⟩
  · exact ⟨.inl rfl, rfl, Nat.zero_le _⟩
  · refine ⟨?_, by rw [List.length_take]; omega, by omega⟩
    by_cases h0 : len = 0
    · left; subst h0; rfl
    · right
      obtain ⟨b, off, spot⟩ := x
      have h1 := hc 0 (by omega)
      have hspot : spot = none := by simpa [Addr.add] using World.cell?_spot h1
      subst hspot
      refine ⟨b, off, rfl, ?_, ?_⟩
      · exact World.block_lt_of_cell? w _ h1
      · intro i hi
        rw [List.length_take] at hi
        have h2 := hc i (by omega)
        have h3 : i < len := by omega
        have h4 : i < zs.length := by omega
        have e : (⟨b, off, none⟩ : Addr).add i = ⟨b, off + i, none⟩ := by cases i <;> simp [Addr.add]
        rw [e] at h2
        simpa [h3, h4] using h2

theorem rdI_own {w : World} {base g n cap : Nat} {zs : List Int} (hl : zs.length = n)
    (h : w.ownsRow base 3 1 (.slice (some ⟨g, 0, none⟩) n cap) n (zs.map (Value.int .i64))) : RdI w (some ⟨g, 0, none⟩) zs := by
  refine .inr ⟨g, 0, rfl, (h.lt g rfl).2, fun i hi => ?_⟩
  rw [Nat.zero_add, h.cellAt i (by omega)]
  simp [hi]

theorem rdI_kept {w w' : World} {a : Option Addr} {zs : List Int} {row : Option Nat} (h : RdI w a zs) (hg : w.grownBy w' row) (hne : ∀ x, a = some x → some x.block ≠ row) : RdI w' a zs := by
  rcases h with h2 | ⟨b, off, rfl, hlt, hc⟩
  · exact .inl h2
  · exact .inr ⟨b, off, rfl, Nat.lt_of_lt_of_le hlt hg.size, fun i hi => hg.cell (hc i hi) (hne ⟨b, off, none⟩ rfl)⟩

end Go.Proofs.YtndlehogfedfaaaDoor
