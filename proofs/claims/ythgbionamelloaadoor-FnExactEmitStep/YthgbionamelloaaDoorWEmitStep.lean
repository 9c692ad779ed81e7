/-
  The law FnExactEmitStep over the contracts of its two functions.
-/
import Derived.Test.YthgbionamelloaaDoorLEmitStep
import Derived.Test.YthgbionamelloaaDoorEmSA
import Derived.Test.YthgbionamelloaaDoorEmSN
import Derived.Test.YthgbionamelloaaDoorEmSMr
import Derived.Test.YthgbionamelloaaDoorEmSMw
import Derived.Test.YthgbionamelloaaDoorEmSMc
import Derived.Test.YthgbionamelloaaDoorCntG
namespace Go.Proofs.YthgbionamelloaaDoor
open Go.RowKit
set_option linter.unusedVariables false

theorem specStep_any (x0 x1 x3 x4 : Int) (a : Option Addr) (n c : Nat) (x5 : Bool) (zs : List Int) (x y : Int) (w : World) (hr : Reads (.sl .int) w [.slice a n c] zs) :
    Calls Tryd.prog 5 #[.agg #[.int .i64 x0, .int .i64 x1, .slice a n c, .int .i64 x3, .int .i64 x4, .bool x5], .int .i64 x, .int .i64 y] w fun e w' => ∃ v, e = .returned (.tuple #[v, .bool (stepOk (x0, x1, zs, x3, x4, x5, ()) x y)]) ∧ Txt w' w.heap.size v (stepA (x0, x1, zs, x3, x4, x5, ()) x y) ∧ Below w.heap.size w w' := by
  cases hok : stepOk (x0, x1, zs, x3, x4, x5, ()) x y with
  | false => have h := specStep_no x0 x1 x3 x4 a n c x5 zs x y w hr hok; rw [hok] at h; exact h
  | true =>
    have hb := step_bd hok
    by_cases hy : y = x4
    · subst hy
      cases x5 with
      | true => have h := specStep_wrap x0 x1 x3 y a n c zs x w hr hok hb.1 hb.2; rw [hok] at h; exact h
      | false => have h := specStep_calm x0 x1 x3 y a n c zs x w hr hok hb.1 hb.2; rw [hok] at h; exact h
    · have h := specStep_row x0 x1 x3 x4 a n c x5 zs x y w hr hok hb.1 hb.2 hy; rw [hok] at h; exact h

theorem stepA_len (d : GrD) (x y : Int) : (stepA d x y).length ≤ 1000 := by
  obtain ⟨x0, x1, zs, x3, x4, x5, u⟩ := d
  cases hok : stepOk (x0, x1, zs, x3, x4, x5, u) x y with
  | false => rw [stepA_no hok]; exact Nat.zero_le _
  | true =>
    have hb := step_bd (x5 := x5) hok
    rw [stepA_yes hok]
    show (stepZ x3 x4 x5 x y).length ≤ 1000
    have hg := gotoZ_len x y
    have hc : ∀ (k : Nat) (f : ByteArray), f.size = 1 → k < 1000 → (bytesZ (colT k f)).length ≤ 6 := by
      intro k f hf hk
      rw [bytesZ_len, colT_size _ _ hf]
      have := nD_le3 hk
      omega
    unfold stepZ
    split
    · omega
    split
    · split
      · simp
      · omega
    split
    · simp
    split
    · simp
    split
    · rw [List.length_replicate]; omega
    split
    · have := hc (x - x3).toNat fC rfl (by omega); omega
    · have := hc (x3 - x).toNat fD rfl (by omega); omega

theorem emitStep_law (cs : List Value) (d : shGrid.D) (x y : Int) (w : World) (htab : Lib.TabIs Tryd.prog w "internal/strconv.uint64pow10" .u64 Lib.pow10Tab) (hr : Reads shGrid w cs d) :
    Calls Tryd.prog 3 #[.agg cs.toArray, .int .i64 x, .int .i64 y] w fun e w' => e = .returned (.bool true) ∧ Below w.heap.size w w' := by
  have hl := stepA_len d x y
  refine emitStep_over cs d x y (stepA d x y) (stepOk d x y) w hr (by omega) (by rw [cnt_bytes]; omega) (cntG d) (fun w' c G h hs hb => ?_) (fun w' c G h hs hb => ?_)
  · obtain ⟨a, n, cp, rfl, h2⟩ := open_Grid h.reads
    refine (specStep_any _ _ _ _ a n cp _ d.2.2.1 x y w' h2).mono ?_
    rintro e w1 ⟨v, rfl, ⟨F, h3, _⟩, hb⟩
    exact ⟨v, rfl, h3.reads, hb⟩
  · obtain ⟨a, n, cp, rfl, h2⟩ := open_Grid h.reads
    refine (implStep_any _ _ _ _ a n cp _ d.2.2.1 x y w' (tab_later htab hb) h2).mono ?_
    rintro e w1 ⟨v, rfl, ⟨F, h3, h4⟩, hb⟩
    exact ⟨v, F, rfl, h3, h4, hb⟩

end Go.Proofs.YthgbionamelloaaDoor
