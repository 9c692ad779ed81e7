/-
  PutNum, the model's, where it says yes: the old bytes and the number's bytes, in new memory.
-/
import Derived.Test.YtmikibekioekmaeDoorPut
namespace Go.Proofs.YtmikibekioekmaeDoor
open Go.RowKit
set_option linter.unusedVariables false

theorem src_cells {w : World} {b off n : Nat} {zs : List Int} (hl : zs.length = n) (hc : ∀ i, i < n → w.cell? ⟨b, off + i, none⟩ = some (.int .u8 (zs[i]?.getD 0))) :
    ∀ j u, (zs.map (Value.int .u8))[j]? = some u → w.cell? ((⟨b, off, none⟩ : Addr).add j) = some u := by
  intro j u hj
  have hlt : j < zs.length := by
    by_cases h : j < zs.length
    · exact h
    · rw [List.getElem?_eq_none (by simp; omega)] at hj; cases hj
  have e : (⟨b, off, none⟩ : Addr).add j = ⟨b, off + j, none⟩ := by cases j <;> simp [Addr.add]
  rw [e, hc j (by omega)]
  simp [hlt] at hj ⊢
  exact hj

end Go.Proofs.YtmikibekioekmaeDoor
