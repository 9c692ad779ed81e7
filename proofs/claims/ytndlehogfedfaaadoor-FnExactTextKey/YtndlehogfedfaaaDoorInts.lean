/-
  What the helpers of the exact laws do to slices of ints: toIntS copies, eqIntS compares. For slices of at most 1048576 bytes.
-/
import Derived.Test.YtndlehogfedfaaaDoorRows
import Derived.WalkKit
import Derived.WalkSpells
import Derived.WalkLawsBesides
import Derived.Deep.QuietTactic
import Derived.BigQuiet
namespace Go.Proofs.YtndlehogfedfaaaDoor
open Go.RowKit
set_option linter.unusedVariables false

theorem Tryd.infoI : (Tryd.prog.info? 3).map (fun i => (i.zero, i.size, i.bytes)) = some (some (.int .i64 0), 1, 8) := by kernel_rfl

/-- The address a leads to the bytes zs in w. -/
def RdI (w : World) (a : Option Addr) (zs : List Int) : Prop :=
  (zs = [] ∨ ∃ b off, a = some ⟨b, off, none⟩ ∧ b < w.heap.size ∧ ∀ i, i < zs.length → w.cell? ⟨b, off + i, none⟩ = some (.int .i64 (zs[i]?.getD 0)))

theorem RdI.later {w w' : World} {a : Option Addr} {zs : List Int} (h : RdI w a zs) (hb : Below w.heap.size w w') : RdI w' a zs := by
  rcases h with h2 | ⟨b, off, ha, hlt, hc⟩
  · exact .inl h2
  · exact .inr ⟨b, off, ha, Nat.lt_of_lt_of_le hlt hb.size, fun i hi => (hb.cell (p := ⟨b, off + i, none⟩) hlt).trans (hc i hi)⟩

/-- What toIntS has laid behind k rounds. -/
def halfI (zs : List Int) (n k : Nat) : List Int := (List.range n).map fun i => if i < k then zs[i]?.getD 0 else 0

theorem halfI_zero (zs : List Int) (n : Nat) : (madeCells #[Value.int .i64 0] n).toList = (halfI zs n 0).map (Value.int .i64) := by
  rw [toList_madeCells_one]
  apply List.ext_getElem
  · simp [halfI]
  · intro i h1 h2
    simp [halfI]

theorem halfI_full (zs : List Int) (n : Nat) (h : zs.length = n) : halfI zs n n = zs := by
  apply List.ext_getElem
  · simp [halfI, h]
  · intro i h1 h2
    simp [halfI] at h1
    simp [halfI, h1, h2]

theorem halfI_set (zs : List Int) (n k : Nat) (hk : k < n) : ((halfI zs n k).map (Value.int .i64)).set k (.int .i64 (zs[k]?.getD 0)) = (halfI zs n (k + 1)).map (Value.int .i64) := by
  apply List.ext_getElem
  · simp [halfI]
  · intro i h1 h2
    simp [halfI] at h1 h2
    rw [List.getElem_set]
    by_cases e : k = i
    · subst e; simp [halfI]
    · by_cases h : i < k
      · simp [halfI, e, h, Nat.lt_succ_of_lt h]
      · have : ¬ i < k + 1 := by omega
        simp [halfI, e, h, this]

end Go.Proofs.YtndlehogfedfaaaDoor
