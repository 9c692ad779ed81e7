/-
  The law FnExactGridNew over the contracts of its two functions.
-/
import Derived.Test.YtpceaabbcogioaaGrN
import Derived.Test.YtpceaabbcogioaaCntG
import Derived.Test.YtpceaabbcogioaaLGridNew
namespace Go.Proofs.Ytpceaabbcogioaa
open Go.RowKit
set_option linter.unusedVariables false

theorem sz_newG (x y : Int) : shGrid.sz (newG x y) ≤ 1048576 := by
  have h3 := sz_Grid (newG x y)
  have h4 : Sh.sz (.sl .int) (newG x y).2.2.1 = List.length (α := Int) (newG x y).2.2.1 := sz_ints _
  have h5 : List.length (α := Int) (newG x y).2.2.1 ≤ 40000 := by
    cases hs : sidesB x y with
    | false => rw [newG_no hs]; exact Nat.zero_le _
    | true =>
      rw [newG_yes hs]
      obtain ⟨h1, h2, h3, h4, h5⟩ := sidesB_iff.1 hs
      have := mul_bd h1 h2 h3 h4
      show (List.replicate (x * y).toNat (32 : Int)).length ≤ 40000
      rw [List.length_replicate]; omega
  omega

theorem gridNew_law (x y : Int) (w : World) :
    Calls Try.prog 4 #[.int .i64 x, .int .i64 y] w fun e w' => e = .returned (.bool true) ∧ Below w.heap.size w w' :=
  gridNew_over x y (newG x y) (sidesB x y) w (sz_newG x y) (cntG _ (sz_newG x y))
    (fun w' => (specGridNew_any x y _ rfl w').mono fun e w'' ⟨o, F, he, ho, _, hb⟩ => ⟨o, he, ho.reads, hb⟩)
    (fun w' => (implGridNew_any x y _ rfl w').mono fun e w'' ⟨o, F, he, ho, hn, hb⟩ => ⟨o, F, he, ho, hn, hb⟩)

end Go.Proofs.Ytpceaabbcogioaa
