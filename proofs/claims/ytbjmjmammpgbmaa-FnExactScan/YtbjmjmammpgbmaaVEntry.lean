/-
  The helpers of the exact laws for slices of entries, a slice being one value.
-/
import Derived.Test.YtbjmjmammpgbmaaMkEntry
import Derived.Test.YtbjmjmammpgbmaaVB
namespace Go.Proofs.Ytbjmjmammpgbmaa
open Go.RowKit
set_option linter.unusedVariables false

theorem eqEntryS_v (v1 v2 : Value) (d : List shEntry.D) (w : World) (h1 : Reads (.sl shEntry) w [v1] d) (h2 : Reads (.sl shEntry) w [v2] d) (hs : Sh.sz (.sl shEntry) d ≤ 1048576) :
    Calls Try.prog 21 #[v1, v2] w fun e w' => e = .returned (.bool true) ∧ Below w.heap.size w w' := by
  obtain ⟨a, c, rfl, _, _⟩ := reads_val h1
  obtain ⟨b, c2, rfl, _, _⟩ := reads_val h2
  exact eqEntryS_reads a b _ c c2 d w h1 h2 hs

theorem markEntryS_v (v : Value) (B : Nat) (k : Int) (kn : Nat) (d : List shEntry.D) (F : List Nat) (w : World) (hkn : k = kn) (ho : Own (.sl shEntry) w B [v] d F) (hnd : F.Nodup) (hk0 : 1 ≤ kn) (hk : kn + Sh.cnt (.sl shEntry) d ≤ 1000000000000) :
    Calls Try.prog 23 #[v, .int .i64 k] w fun e w' => e = .returned (.int .i64 ((kn + Sh.cnt (.sl shEntry) d : Nat) : Int)) ∧ Own (.sl shEntry) w' B [v] (Sh.mk (.sl shEntry) d kn) F ∧ Touch w w' F := by
  obtain ⟨a, c, rfl, _, _⟩ := own_val ho
  subst hkn
  exact markEntryS_own a _ c B kn d F w ho hnd hk0 hk

theorem heldEntryS_v (v : Value) (B : Nat) (k : Int) (kn : Nat) (d : List shEntry.D) (F : List Nat) (w : World) (hkn : k = kn) (ho : Own (.sl shEntry) w B [v] (Sh.mk (.sl shEntry) d kn) F) (hnd : F.Nodup) (hk0 : 1 ≤ kn) (hk : kn + Sh.cnt (.sl shEntry) d ≤ 1000000000000) :
    Calls Try.prog 24 #[v, .int .i64 k] w fun e w' => e = .returned (.int .i64 ((kn + Sh.cnt (.sl shEntry) d : Nat) : Int)) ∧ Below w.heap.size w w' := by
  obtain ⟨a, c, rfl, _, _⟩ := own_val ho
  subst hkn
  have e : (Sh.mk (.sl shEntry) d kn).length = d.length := mkRow_length _ _ _ _
  rw [e] at ho ⊢
  exact heldEntryS_own a _ c B kn d F w ho hnd hk0 hk

theorem wdS_Entry : Sh.wd (.sl shEntry) = 2 := rfl

theorem cntS_Entry (d : List shEntry.D) (h : Sh.sz (.sl shEntry) d ≤ 1048576) : Sh.cnt (.sl shEntry) d ≤ 1000000000 := by
  have h1 := Sh.cnt_le (.sl shEntry) d
  rw [wdS_Entry] at h1
  omega

end Go.Proofs.Ytbjmjmammpgbmaa
