/-
  FrameRead of the model. By program (rfgen.py).
-/
import Derived.Test.YtbjmjmammpgbmaaRfP
import Derived.Test.YtbjmjmammpgbmaaFrS
import Derived.Test.YtbjmjmammpgbmaaConv
import Derived.Deep.RegionHeld3
import Derived.Handy
namespace Go.Proofs.Ytbjmjmammpgbmaa
open Go.RowKit
set_option linter.unusedVariables false
set_option linter.unusedSimpArgs false

/-- A part of a slice of bytes as a string. -/
theorem cut_conv (b off n cap : Nat) (zs : List Int) (q m : Nat) (w : World) (hc : ∀ i, i < n → w.cell? ⟨b, off + i, none⟩ = some (.int .u8 (zs[i]?.getD 0))) (h : q + m ≤ n) (hl : zs.length = n) :
    (convert 22 9 (.slice (some ⟨b, off + q, none⟩) m cap)).run Try.prog w = .ok (.string (strOfNums (cutL zs q m))) w := by
  refine run_convert_bytes_arg (P := Try.prog) w 22 5 Try.underlying22 Try.underlying5 b (off + q) m cap (cutL zs q m) (cutL_len _ _ _ (by omega)) ?_ 9 Try.underlying9
  intro i hi
  have h1 := hc (q + i) (by omega)
  have e : off + q + i = off + (q + i) := by omega
  rw [e, h1]
  have e2 := cutL_at zs q m i hi
  have hlt : i < (cutL zs q m).length := by rw [cutL_len _ _ _ (by omega)]; exact hi
  rw [List.getElem?_eq_getElem hlt] at e2
  rw [← e2, List.getD_eq_getElem?_getD, List.getElem?_eq_getElem hlt]

set_option maxRecDepth 100000 in
set_option maxHeartbeats 4000000 in
theorem specRf_near (a : Option Addr) (n c : Nat) (p : Int) (w : World) (hn : n ≤ 1048576) (hp1 : -9223372036854775808 ≤ p) (hp2 : p ≤ 9223372036854775807) (k : Int)
    (h : (p < 0 ∧ k = 1) ∨ (¬ p < 0 ∧ (n : Int) < p ∧ k = 1) ∨ (¬ p < 0 ∧ ¬ (n : Int) < p ∧ (n : Int) - p < 10 ∧ k = 2)) :
    Calls Try.prog 16 #[.slice a n c, .int .i64 p] w fun e w' => e = .returned (.tuple #[.agg #[.int .i64 0, .string ByteArray.empty], .int .i64 0, .int .i64 k]) ∧ Below w.heap.size w w' := by
  rcases h with ⟨h1, rfl⟩ | ⟨h1, h2, rfl⟩ | ⟨h1, h2, h3, rfl⟩
  · go_enter Try.func16, Try.ntmps16
    go_wp2
    go_returns
    exact ⟨rfl, (((Below.refl _ _).alloc (Nat.le_refl _) _))⟩
  · go_enter Try.func16, Try.ntmps16
    go_wp2
    go_returns
    exact ⟨rfl, (((Below.refl _ _).alloc (Nat.le_refl _) _))⟩
  · go_enter Try.func16, Try.ntmps16
    go_wp2
    go_returns
    exact ⟨rfl, (((Below.refl _ _).alloc (Nat.le_refl _) _))⟩

end Go.Proofs.Ytbjmjmammpgbmaa
