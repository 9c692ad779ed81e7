/-
  The helpers of the exact laws for slices of entries, a slice being one value.
-/
import Derived.Test.YtkjnbjohicgooaaGreatMkLink
import Derived.Test.YtkjnbjohicgooaaGreatVB
namespace Go.Proofs.YtkjnbjohicgooaaGreat
open Go.RowKit
set_option linter.unusedVariables false
set_option maxRecDepth 100000

theorem szLinkS_v (v : Value) (d : List shLink.D) (left : Int) (w : World) (hr : Reads (.sl shLink) w [v] d) (h0 : 0 ≤ left) (h1 : left ≤ 1048576) :
    Calls Tryz.prog 38 #[v, .int .i64 left] w fun e w' => e = .returned (.int .i64 (szAns (Sh.sz (.sl shLink) d) left)) ∧ Below w.heap.size w w' := by
  obtain ⟨a, c, rfl, _, _⟩ := reads_val hr
  exact szLinkS_any a _ c d left w hr h0 h1

theorem toLinkS_v (v : Value) (d : List shLink.D) (w : World) (hr : Reads (.sl shLink) w [v] d) (hs : Sh.sz (.sl shLink) d ≤ 1048576) :
    Calls Tryz.prog 43 #[v] w fun e w' => ∃ v' F, e = .returned v' ∧ Own (.sl shLink) w' w.heap.size [v'] d F ∧ F.Nodup ∧ Below w.heap.size w w' := by
  obtain ⟨a, c, rfl, _, _⟩ := reads_val hr
  refine (toLinkS_own a _ c d w hr hs).mono ?_
  rintro e w' ⟨g, F, rfl, ho, hn, hb⟩
  exact ⟨_, F, rfl, ho, hn, hb⟩

theorem eqLinkS_v (v1 v2 : Value) (d : List shLink.D) (w : World) (h1 : Reads (.sl shLink) w [v1] d) (h2 : Reads (.sl shLink) w [v2] d) (hs : Sh.sz (.sl shLink) d ≤ 1048576) :
    Calls Tryz.prog 12 #[v1, v2] w fun e w' => e = .returned (.bool true) ∧ Below w.heap.size w w' := by
  obtain ⟨a, c, rfl, _, _⟩ := reads_val h1
  obtain ⟨b, c2, rfl, _, _⟩ := reads_val h2
  exact eqLinkS_reads a b _ c c2 d w h1 h2 hs

theorem markLinkS_v (v : Value) (B : Nat) (k : Int) (kn : Nat) (d : List shLink.D) (F : List Nat) (w : World) (hkn : k = kn) (ho : Own (.sl shLink) w B [v] d F) (hnd : F.Nodup) (hk0 : 1 ≤ kn) (hk : kn + Sh.cnt (.sl shLink) d ≤ 1000000000000) :
    Calls Tryz.prog 15 #[v, .int .i64 k] w fun e w' => e = .returned (.int .i64 ((kn + Sh.cnt (.sl shLink) d : Nat) : Int)) ∧ Own (.sl shLink) w' B [v] (Sh.mk (.sl shLink) d kn) F ∧ Touch w w' F := by
  obtain ⟨a, c, rfl, _, _⟩ := own_val ho
  subst hkn
  exact markLinkS_own a _ c B kn d F w ho hnd hk0 hk

theorem heldLinkS_v (v : Value) (B : Nat) (k : Int) (kn : Nat) (d : List shLink.D) (F : List Nat) (w : World) (hkn : k = kn) (ho : Own (.sl shLink) w B [v] (Sh.mk (.sl shLink) d kn) F) (hnd : F.Nodup) (hk0 : 1 ≤ kn) (hk : kn + Sh.cnt (.sl shLink) d ≤ 1000000000000) :
    Calls Tryz.prog 16 #[v, .int .i64 k] w fun e w' => e = .returned (.int .i64 ((kn + Sh.cnt (.sl shLink) d : Nat) : Int)) ∧ Below w.heap.size w w' := by
  obtain ⟨a, c, rfl, _, _⟩ := own_val ho
  subst hkn
  have e : (Sh.mk (.sl shLink) d kn).length = d.length := mkRow_length _ _ _ _
  rw [e] at ho ⊢
  exact heldLinkS_own a _ c B kn d F w ho hnd hk0 hk

theorem wdS_Link : Sh.wd (.sl shLink) = 2 := rfl

theorem cntS_Link (d : List shLink.D) (h : Sh.sz (.sl shLink) d ≤ 1048576) : Sh.cnt (.sl shLink) d ≤ 1000000000 := by
  have h1 := Sh.cnt_le (.sl shLink) d
  rw [wdS_Link] at h1
  omega

end Go.Proofs.YtkjnbjohicgooaaGreat
