/-
  What is behind a slice of the call's own: nil is nil; flat rows as sources of an append.
-/
import Derived.Test.YtkjnbjohicgooaaGreatVB
import Derived.Test.YtkjnbjohicgooaaGreatFlat
namespace Go.Proofs.YtkjnbjohicgooaaGreat
open Go.RowKit
set_option linter.unusedVariables false

theorem links_src {w : World} {ad : Addr} {n cap : Nat} {l : List LinkD} (h : Reads (.sl shLink) w [.slice (some ad) n cap] l) : ∀ (j : Nat) (u : Value), (cellsL l)[j]? = some u → w.cell? (ad.add j) = some u :=
  reads_flat shLink (fun x => [.string x.1, .int .i64 x.2.1]) (by decide) (fun w c x hr => (open_Link hr).1) h

theorem cellsL_len (l : List LinkD) : (cellsL l).length = l.length * 2 := by
  unfold cellsL
  induction l with
  | nil => rfl
  | cons a l ih => rw [List.flatMap_cons, List.length_append, ih, List.length_cons]; simp; omega

theorem cellsL_one (l : List LinkD) : ∀ u ∈ cellsL l, u.oneCell' = true := by
  intro u hu
  unfold cellsL at hu
  obtain ⟨x, _, hx⟩ := List.mem_flatMap.1 hu
  simp at hx
  rcases hx with rfl | rfl <;> rfl

end Go.Proofs.YtkjnbjohicgooaaGreat
