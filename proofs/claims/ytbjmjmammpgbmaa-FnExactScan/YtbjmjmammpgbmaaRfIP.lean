/-
  Numbers of a part of some bytes (plain facts for the program's reading).
-/
import Derived.Test.YtbjmjmammpgbmaaRfP
import Derived.Test.YtbjmjmammpgbmaaAppS
namespace Go.Proofs.Ytbjmjmammpgbmaa
open Go.RowKit
set_option linter.unusedVariables false

theorem gnum_cut (zs : List Int) (P m q : Nat) : ∀ k, q + k ≤ m → gnum (cutL zs P m) q k = gnum zs (P + q) k
  | 0, _ => rfl
  | k + 1, h => by
    show gnum (cutL zs P m) q k * 256 + (cutL zs P m)[q + k]?.getD 0 = gnum zs (P + q) k * 256 + zs[P + q + k]?.getD 0
    rw [gnum_cut zs P m q k (by omega), cutL_at zs P m (q + k) (by omega), Nat.add_assoc]

theorem rd_cut {w : World} {b off n : Nat} {zs : List Int} (hb : b < w.heap.size) (hz : Byt zs) (hl : zs.length = n) (hc : ∀ i, i < n → w.cell? ⟨b, off + i, none⟩ = some (.int .u8 (zs[i]?.getD 0))) (q m : Nat) (h : q + m ≤ n) : Rd w (some ⟨b, off + q, none⟩) (cutL zs q m) := by
  refine ⟨byt_cutL zs hz _ _, .inr ⟨b, off + q, rfl, hb, fun i hi => ?_⟩⟩
  rw [cutL_len _ _ _ (by omega)] at hi
  rw [cutL_at zs q m i hi, Nat.add_assoc]
  exact hc (q + i) (by omega)

theorem src_cut {w : World} {b off n : Nat} {zs : List Int} (hl : zs.length = n) (hc : ∀ i, i < n → w.cell? ⟨b, off + i, none⟩ = some (.int .u8 (zs[i]?.getD 0))) (q m c : Nat) (h : q + m ≤ n) : Src w (.slice (some ⟨b, off + q, none⟩) m c) m ((cutL zs q m).map (Value.int .u8)) := by
  refine .inr ⟨_, c, rfl, fun j u hu => ?_⟩
  have hj : j < m := by
    have := (List.getElem?_eq_some_iff.1 hu).1
    rwa [List.length_map, cutL_len _ _ _ (by omega)] at this
  have e : (⟨b, off + q, none⟩ : Addr).add j = ⟨b, off + (q + j), none⟩ := by cases j <;> simp [Addr.add, Nat.add_assoc]
  rw [e, hc (q + j) (by omega), ← hu, List.getElem?_map, cutL_at zs q m j hj, get_some zs (q + j) (by omega)]
  rfl

end Go.Proofs.Ytbjmjmammpgbmaa
