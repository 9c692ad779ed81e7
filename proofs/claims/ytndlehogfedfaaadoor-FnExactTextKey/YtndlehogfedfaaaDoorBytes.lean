/-
  What the helpers of the exact laws do to slices of bytes: toByteS copies, eqByteS compares. For slices of at most 1048576 bytes.
-/
import Derived.Test.YtndlehogfedfaaaDoorRows
import Derived.WalkKit
import Derived.WalkSpells
import Derived.WalkLawsBesides
import Derived.Deep.QuietTactic
import Derived.BigQuiet
namespace Go.Proofs.YtndlehogfedfaaaDoor
open Go.RowKit
set_option linter.unusedVariables false

theorem Tryd.infoB : (Tryd.prog.info? 5).map (fun i => (i.zero, i.size, i.bytes)) = some (some (.int .u8 0), 1, 1) := by kernel_rfl

/-- The address a leads to the bytes zs in w. -/
def Rd (w : World) (a : Option Addr) (zs : List Int) : Prop :=
  (∀ i : Nat, 0 ≤ zs[i]?.getD 0 ∧ zs[i]?.getD 0 ≤ 255) ∧ (zs = [] ∨ ∃ b off, a = some ⟨b, off, none⟩ ∧ b < w.heap.size ∧ ∀ i, i < zs.length → w.cell? ⟨b, off + i, none⟩ = some (.int .u8 (zs[i]?.getD 0)))

theorem Rd.later {w w' : World} {a : Option Addr} {zs : List Int} (h : Rd w a zs) (hb : Below w.heap.size w w') : Rd w' a zs := by
  obtain ⟨h1, h2⟩ := h
  refine ⟨h1, ?_⟩
  rcases h2 with h2 | ⟨b, off, ha, hlt, hc⟩
  · exact .inl h2
  · exact .inr ⟨b, off, ha, Nat.lt_of_lt_of_le hlt hb.size, fun i hi => (hb.cell (p := ⟨b, off + i, none⟩) hlt).trans (hc i hi)⟩

/-- What toByteS has laid behind k rounds. -/
def half (zs : List Int) (n k : Nat) : List Int := (List.range n).map fun i => if i < k then zs[i]?.getD 0 else 0

theorem half_zero (zs : List Int) (n : Nat) : (madeCells #[Value.int .u8 0] n).toList = (half zs n 0).map (Value.int .u8) := by
  rw [toList_madeCells_one]
  apply List.ext_getElem
  · simp [half]
  · intro i h1 h2
    simp [half]

theorem half_full (zs : List Int) (n : Nat) (h : zs.length = n) : half zs n n = zs := by
  apply List.ext_getElem
  · simp [half, h]
  · intro i h1 h2
    simp [half] at h1
    simp [half, h1, h2]

theorem half_set (zs : List Int) (n k : Nat) (hk : k < n) : ((half zs n k).map (Value.int .u8)).set k (.int .u8 (zs[k]?.getD 0)) = (half zs n (k + 1)).map (Value.int .u8) := by
  apply List.ext_getElem
  · simp [half]
  · intro i h1 h2
    simp [half] at h1 h2
    rw [List.getElem_set]
    by_cases e : k = i
    · subst e; simp [half]
    · by_cases h : i < k
      · simp [half, e, h, Nat.lt_succ_of_lt h]
      · have : ¬ i < k + 1 := by omega
        simp [half, e, h, this]

end Go.Proofs.YtndlehogfedfaaaDoor
