/-
  HexOf, the model's: two digits a byte.
-/
import Derived.Test.YtnifmkhijebamaaKeep
import Derived.Test.YtnifmkhijebamaaPlain
import Derived.Test.YtnifmkhijebamaaConv
import Derived.Laws.BytesArg
import Derived.Deep.RegionHeld3
import Derived.Deep.AppendLies
namespace Go.Proofs.Ytnifmkhijebamaa
open Go.RowKit
set_option linter.unusedVariables false

def hx (d : Int) : Int := if d < 10 then 48 + d else 87 + d

def hexk (zs : List Int) : Nat → List Int
  | 0 => []
  | k + 1 => hexk zs k ++ [hx (zs[k]?.getD 0 / 16), hx (zs[k]?.getD 0 % 16)]

theorem hexk_len (zs : List Int) : ∀ k, (hexk zs k).length = 2 * k
  | 0 => rfl
  | k + 1 => by simp [hexk, hexk_len zs k]; omega

theorem hx_bd (d : Int) (h0 : 0 ≤ d) (h1 : d ≤ 15) : 48 ≤ hx d ∧ hx d ≤ 102 := by unfold hx; split <;> omega

end Go.Proofs.Ytnifmkhijebamaa
