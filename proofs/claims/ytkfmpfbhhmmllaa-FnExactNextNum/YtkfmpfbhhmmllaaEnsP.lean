/-
  Lists of entries: when they are right (plain facts).
-/
import Derived.Test.YtkfmpfbhhmmllaaEnt
namespace Go.Proofs.Ytkfmpfbhhmmllaa
open Go.RowKit
set_option linter.unusedVariables false

abbrev EntD := Int × ByteArray × Unit

/-- Whether an entry may follow a number. -/
def linkB (p : Option Int) (x : Int) : Bool := match p with | none => true | some q => decide (x = q + 1)

/-- Whether each is right and follows the one ahead of it, the first p. -/
def entsFrom : Option Int → List EntD → Bool
  | _, [] => true
  | p, x :: l => entB x.1 (ByteArray.size x.2.1) && linkB p x.1 && entsFrom (some x.1) l

def entsB (l : List EntD) : Bool := entsFrom none l

/-- The number of the last of the first k. -/
def prevN (l : List EntD) (k : Nat) : Option Int := if k = 0 then none else (l[k - 1]?).map (·.1)

theorem prevN_zero (l : List EntD) : prevN l 0 = none := rfl
theorem prevN_succ (l : List EntD) (j : Nat) (x : EntD) (h : l[j]? = some x) : prevN l (j + 1) = some x.1 := by simp [prevN, h]

theorem ents_step (l : List EntD) (k : Nat) (x : EntD) (h : l[k]? = some x) :
    entsFrom (prevN l k) (l.drop k) = (entB x.1 (ByteArray.size x.2.1) && linkB (prevN l k) x.1 && entsFrom (prevN l (k + 1)) (l.drop (k + 1))) := by
  have hk : k < l.length := (List.getElem?_eq_some_iff.1 h).1
  have hx : l[k] = x := (List.getElem?_eq_some_iff.1 h).2
  rw [List.drop_eq_getElem_cons hk, hx, prevN_succ l k x h]
  rfl

theorem ents_end (l : List EntD) (k : Nat) (h : l.length ≤ k) (p : Option Int) : entsFrom p (l.drop k) = true := by
  rw [List.drop_eq_nil_of_le h]; rfl

end Go.Proofs.Ytkfmpfbhhmmllaa
