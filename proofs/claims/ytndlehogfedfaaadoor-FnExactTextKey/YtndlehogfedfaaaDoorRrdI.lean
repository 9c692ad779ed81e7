/-
  RuneRead, the program's: over the library's contract of utf8.DecodeRune.
-/
import Derived.Test.YtndlehogfedfaaaDoorRrd
import Derived.Test.YtndlehogfedfaaaDoorShelf
import Derived.Test.YtndlehogfedfaaaDoorTabs
namespace Go.Proofs.YtndlehogfedfaaaDoor
open Go.RowKit
set_option linter.unusedVariables false

theorem get_strOfNums (zs : List Int) (j : Nat) (hb : ∀ i, 0 ≤ bt zs i ∧ bt zs i ≤ 255) : ((strOfNums zs).get! j).toNat = (bt zs j).toNat := by
  have h0 := hb j
  by_cases h : j < zs.length
  · have h1 : j < (strOfNums zs).data.size := by simpa [strOfNums] using h
    simp only [ByteArray.get!, strOfNums, bt] at *
    simp [h] at *
    omega
  · have h1 : ¬ j < (strOfNums zs).data.size := by simpa [strOfNums] using h
    simp only [ByteArray.get!, strOfNums, bt] at *
    simp [h] at *
    rfl

theorem bt_sub (zs : List Int) (A j : Nat) : bt (zs.drop A) j = bt zs (A + j) := by simp [bt]

theorem decode_sub (zs : List Int) (A : Nat) (hA : A < zs.length) (hb : ∀ i, 0 ≤ bt zs i ∧ bt zs i ≤ 255) :
    Lib.decodeGo (strOfNums (zs.drop A)) = Lib.decodeN (zs.length - A) (bt zs A).toNat (bt zs (A + 1)).toNat (bt zs (A + 2)).toNat (bt zs (A + 3)).toNat := by
  have hb' : ∀ i, 0 ≤ bt (zs.drop A) i ∧ bt (zs.drop A) i ≤ 255 := fun i => by rw [bt_sub]; exact hb _
  unfold Lib.decodeGo
  rw [if_neg (by rw [strOfNums_size]; simp; omega), Lib.decode_at, get_strOfNums _ _ hb', get_strOfNums _ _ hb', get_strOfNums _ _ hb', get_strOfNums _ _ hb', strOfNums_size]
  simp [bt_sub]

end Go.Proofs.YtndlehogfedfaaaDoor
