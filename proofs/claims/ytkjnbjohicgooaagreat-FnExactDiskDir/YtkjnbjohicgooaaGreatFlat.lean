/-
  Rows of flat data (links, turns, ints) of the call's own, in the words of 'Own'; cells of a new block.
-/
import Derived.Test.YtkjnbjohicgooaaGreatDir
import Derived.Test.YtkjnbjohicgooaaGreatTyTurn
import Derived.Test.YtkjnbjohicgooaaGreatFlatG
namespace Go.Proofs.YtkjnbjohicgooaaGreat
open Go.RowKit
set_option linter.unusedVariables false

/-- The cells of a list of links. -/
def cellsL (l : List LinkD) : List Value := l.flatMap fun x => [.string x.1, .int .i64 x.2.1]

theorem cellsL_snoc (l : List LinkD) (x : LinkD) : cellsL (l ++ [x]) = cellsL l ++ [.string x.1, .int .i64 x.2.1] := by simp [cellsL]

def SmallS (l : List LinkD) : Prop := ∀ x ∈ l, x.1.size ≤ maxLen

theorem own_links {w : World} {B g n cap : Nat} {t : TypeId} {l : List LinkD} (hl : l.length = n) (hs : SmallS l) (h : w.ownsRow B t 2 (.slice (some ⟨g, 0, none⟩) n cap) n (cellsL l)) :
    Own (.sl shLink) w B [.slice (some ⟨g, 0, none⟩) n cap] l [g] :=
  own_flat shLink (fun x => [.string x.1, .int .i64 x.2.1]) hl (fun x hx => own_Link (d := x) (hs x hx)) h

theorem reads_small {w : World} {a : Option Addr} {n cap : Nat} {d : List LinkD} (h : Reads (.sl shLink) w [.slice a n cap] d) : SmallS d := by
  intro x hx
  obtain ⟨i, hi, rfl⟩ := List.mem_iff_getElem.1 hx
  have hl := (reads_len h).1
  have hl' : List.length (α := LinkD) d = n := hl
  obtain ⟨b, off, c, y, _, _, hy, hr, _⟩ := reads_elem h i (by omega)
  obtain ⟨_, hh⟩ := open_Link hr
  have : (d : List LinkD)[i]? = some y := hy
  rw [List.getElem?_eq_getElem hi] at this
  obtain rfl := Option.some.inj this
  exact hh

theorem own_ints' {w : World} {B g n cap : Nat} {t : TypeId} {l : List Int} (hl : l.length = n) (h : w.ownsRow B t 1 (.slice (some ⟨g, 0, none⟩) n cap) n (l.map (Value.int .i64))) :
    Own (.sl .int) w B [.slice (some ⟨g, 0, none⟩) n cap] l [g] := by
  refine own_flat .int (fun x => [.int .i64 x]) (t := t) hl (fun x hx => ⟨rfl, rfl⟩) ?_
  have e : (l.flatMap fun x => [Value.int .i64 x]) = l.map (Value.int .i64) := by rw [← flatMap_flatten]; exact flatten_single _ _
  exact e.symm ▸ h

end Go.Proofs.YtkjnbjohicgooaaGreat
