/-
  The law FnExactVtNew over the contracts of its two functions.
-/
import Derived.Test.YtojalheohpkdoaaVtN
import Derived.Test.YtojalheohpkdoaaCntT
import Derived.Test.YtojalheohpkdoaaLVtNew
namespace Go.Proofs.Ytojalheohpkdoaa
open Go.RowKit
set_option linter.unusedVariables false

theorem sz_vtA (x y : Int) : shVt.sz (vtA (newG x y)) ≤ 1048576 := by
  have h1 := sz_Vt (vtA (newG x y))
  have h2 : Sh.sz (.sl .int) (vtA (newG x y)).2.2.1 = List.length (α := Int) (vtA (newG x y)).2.2.1 := sz_ints _
  have h2' : List.length (α := Int) (vtA (newG x y)).2.2.1 = 0 := rfl
  have h3 : Sh.sz (.sl .u8) (vtA (newG x y)).2.2.2.1 = 0 := rfl
  have h4 := sz_Grid (newG x y)
  have h5 : Sh.sz (.sl .int) (newG x y).2.2.1 = List.length (α := Int) (newG x y).2.2.1 := sz_ints _
  have h6 : List.length (α := Int) (newG x y).2.2.1 ≤ 40000 := by
    cases hs : sidesB x y with
    | false => rw [newG_no hs]; exact Nat.zero_le _
    | true =>
      rw [newG_yes hs]
      obtain ⟨h1, h2, h3, h4, h5⟩ := sidesB_iff.1 hs
      have := mul_bd h1 h2 h3 h4
      show (List.replicate (x * y).toNat (32 : Int)).length ≤ 40000
      rw [List.length_replicate]; omega
  have h7 : Sh.sz shGrid (vtA (newG x y)).1 = shGrid.sz (newG x y) := rfl
  omega

theorem vtNew_law (x y : Int) (w : World) :
    Calls Try.prog 3 #[.int .i64 x, .int .i64 y] w fun e w' => e = .returned (.bool true) ∧ Below w.heap.size w w' :=
  vtNew_over x y (vtA (newG x y)) (sidesB x y) w (sz_vtA x y) (cntT _ (sz_vtA x y))
    (fun w' => (specVtNew_any x y w').mono fun e w'' ⟨o, F, he, ho, _, hb⟩ => ⟨o, he, ho.reads, hb⟩)
    (fun w' => (implVtNew_any x y w').mono fun e w'' ⟨o, F, he, ho, hn, hb⟩ => ⟨o, F, he, ho, hn, hb⟩)

end Go.Proofs.Ytojalheohpkdoaa
