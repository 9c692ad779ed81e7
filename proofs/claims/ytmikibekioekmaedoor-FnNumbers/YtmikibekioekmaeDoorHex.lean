/-
  HexOf, the model's: two digits a byte.
-/
import Derived.Test.YtmikibekioekmaeDoorKeep
import Derived.Test.YtmikibekioekmaeDoorPlain
import Derived.Laws.BytesArg
import Derived.Deep.RegionHeld3
import Derived.Deep.AppendLies
namespace Go.Proofs.YtmikibekioekmaeDoor
open Go.RowKit
set_option linter.unusedVariables false

def hx (d : Int) : Int := if d < 10 then 48 + d else 87 + d

def hexk (zs : List Int) : Nat → List Int
  | 0 => []
  | k + 1 => hexk zs k ++ [hx (zs[k]?.getD 0 / 16), hx (zs[k]?.getD 0 % 16)]

theorem hexk_len (zs : List Int) : ∀ k, (hexk zs k).length = 2 * k
  | 0 => rfl
  | k + 1 => by simp [hexk, hexk_len zs k]; omega

theorem hx_bd (d : Int) (h0 : 0 ≤ d) (h1 : d ≤ 15) : 48 ≤ hx d ∧ hx d ≤ 102 := by unfold hx; split <;> omega

theorem own_conv {w : World} {base g n cap : Nat} {zs : List Int} (hl : zs.length = n) (h : w.ownsRow base 5 1 (.slice (some ⟨g, 0, none⟩) n cap) n (zs.map (Value.int .u8))) :
    (convert 22 9 (.slice (some ⟨g, 0, none⟩) n cap)).run Tryd.prog w = .ok (.string (strOfNums zs)) w := by
  refine run_convert_bytes_arg (P := Tryd.prog) w 22 5 Tryd.underlying22 Tryd.underlying5 g 0 n cap zs hl ?_ 9 Tryd.underlying9
  intro i hi
  rw [Nat.zero_add, h.cellAt i (by omega)]
  have : i < zs.length := by omega
  simp [this]

end Go.Proofs.YtmikibekioekmaeDoor
