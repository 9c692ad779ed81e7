/-
  MakeNum: a number below m. Conversions of rows of bytes to strings.
-/
import Derived.Test.YtnifmkhijebamaaDrawB
import Derived.Test.YtnifmkhijebamaaConv
import Derived.Lib.SliceRun
namespace Go.Proofs.Ytnifmkhijebamaa
open Go.RowKit
set_option linter.unusedVariables false

set_option maxHeartbeats 1000000 in
theorem makeNum_any (a : Option Addr) (n cap : Nat) (zs : List Int) (m : Int) (w : World) (hl : Hid (zs.length = n)) (hn : n ≤ 1048576) (hr : Rd w a zs) (hm1 : 1 ≤ m) (hm2 : m ≤ 256) :
    Calls Try.prog 5 #[.slice a n cap, .int .i64 m] w fun e w' => ∃ x : Nat, e = .returned (.int .i64 x) ∧ (x : Int) < m ∧ Below w.heap.size w w' := by
  go_enter Try.func5, Try.ntmps5
  go_wp2_with fail
  refine (new_any a n cap zs _ hl hn hr).mono ?_
  rintro e w1 ⟨rfl, hc1, hb1⟩
  obtain ⟨h, c2⟩ := hc1.c2
  have f2 := hc1.f2
  obtain ⟨cs, hg⟩ := cur_set hc1 (wrap64 (h + 777)) 2 (.inl rfl)
  have HC : Hid (Cur (w1.setCell ⟨w.heap.size, 2, none⟩ (.int .i64 (wrap64 (h + 777)))) w.heap.size w.heap.size a n cap zs ∧ Below w.heap.size w (w1.setCell ⟨w.heap.size, 2, none⟩ (.int .i64 (wrap64 (h + 777))))) := ⟨cs, hb1.setCell (Nat.le_refl _) _⟩
  clear cs hg hc1
  go_wp2_with fail
  refine (below_any w.heap.size w.heap.size a n cap zs m _ hl hn HC.out.1 hm1 hm2).mono ?_
  rintro e w2 ⟨x, rfl, hx0, hx1, _, hg2⟩
  have hb2 : Below w.heap.size w w2 := HC.out.2.grown hg2 HC.out.2.size (fun k h => by cases h; exact Nat.le_refl _)
  clear c2 f2
  obtain ⟨X, rfl⟩ := Int.eq_ofNat_of_zero_le hx0
  go_wp2
  go_ret
  exact ⟨X, rfl, hx1, hb2⟩

theorem row_conv {w : World} {base g n cap : Nat} {zs : List Int} (hl : zs.length = n) (h : w.ownsRow base 5 1 (.slice (some ⟨g, 0, none⟩) n cap) n (zs.map (Value.int .u8))) (j : Nat) (hj : j ≤ n) :
    (convert 22 9 (.slice (some ⟨g, 0, none⟩) j cap)).run Try.prog w = .ok (.string (strOfNums (zs.take j))) w := by
  refine run_convert_bytes_arg (P := Try.prog) w 22 5 Try.underlying22 Try.underlying5 g 0 j cap (zs.take j) (by rw [List.length_take]; omega) ?_ 9 Try.underlying9
  intro i hi
  rw [Nat.zero_add, h.cellAt i (by omega)]
  have : i < zs.length := by omega
  simp [this, show i < j by omega]

/-- A row that the call owns, nil or not, and its beginnings, as strings. -/
theorem own_convV {w : World} {base n : Nat} {a : Option Addr} {cap : Nat} {zs : List Int} (hl : zs.length = n) (h : w.ownsRow base 5 1 (.slice a n cap) n (zs.map (Value.int .u8))) (j : Nat) (hj : j ≤ n) :
    (convert 22 9 (.slice a j cap)).run Try.prog w = .ok (.string (strOfNums (zs.take j))) w := by
  rcases h.2 with ⟨h1, h2⟩ | ⟨g, cap', cur, hv, _⟩
  · simp only [Value.slice.injEq] at h1
    obtain ⟨rfl, rfl, rfl⟩ := h1
    have hj0 : j = 0 := by omega
    subst hj0
    have hz : zs = [] := List.eq_nil_of_length_eq_zero hl
    subst hz
    exact run_convert_bytes_nil w 22 5 Try.underlying22 Try.underlying5 0 0 9 Try.underlying9
  · simp only [Value.slice.injEq] at hv
    obtain ⟨rfl, _, rfl⟩ := hv
    exact row_conv hl h j hj

end Go.Proofs.Ytnifmkhijebamaa
