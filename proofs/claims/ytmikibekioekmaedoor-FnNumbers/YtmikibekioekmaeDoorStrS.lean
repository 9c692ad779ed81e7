/-
  What the helpers of the exact laws do to slices of strings: markText, eqStringS, markStringS, heldStringS.
-/
import Derived.Test.YtmikibekioekmaeDoorRows
import Derived.WalkKit
import Derived.WalkSpells
import Derived.WalkLawsBesides
import Derived.Laws.BytesArg
import Derived.Deep.QuietTactic
import Derived.BigQuiet
import Derived.Deep.RegionHeld3
import Derived.Deep.AppendLies
namespace Go.Proofs.YtmikibekioekmaeDoor
open Go.RowKit
set_option linter.unusedVariables false

theorem Tryd.infoS : (Tryd.prog.info? 9).map (fun i => (i.zero, i.size, i.bytes)) = some (some (.string ByteArray.empty), 1, 16) := by kernel_rfl

theorem below_grownS {w w' : World} (h : Below w.heap.size w w') : w.grownBy w' none := ⟨h.os, h.tape, h.output, h.size, fun k hk _ => h.block k hk⟩

theorem own_laterS {w w' : World} {base : Nat} {e : TypeId} {size : Nat} {v : Value} {n : Nat} {xs : List Value} (h : w.ownsRow base e size v n xs) (hb : Below w.heap.size w w') : w'.ownsRow base e size v n xs := by
  refine h.kept (below_grownS hb) ?_
  cases v.ownBlock with
  | none => exact .inl rfl
  | some x => exact .inr (by simp)

theorem grownBy_transS {a b c : World} {row : Option Nat} (h : a.grownBy b row) (k : b.grownBy c row) : a.grownBy c row :=
  ⟨k.os.trans h.os, k.tape.trans h.tape, k.output.trans h.output, Nat.le_trans h.size k.size, fun i hi hr => (k.block i (Nat.lt_of_lt_of_le hi h.size) hr).trans (h.block i hi hr)⟩

theorem grownBy_anyS {a b : World} (h : a.grownBy b none) (row : Option Nat) : a.grownBy b row := ⟨h.os, h.tape, h.output, h.size, fun k hk _ => h.block k hk (by simp)⟩

/-- The text that markText makes of k, the digits laid ahead of o. -/
def mgo : Nat → Nat → ByteArray → ByteArray
  | 0, _, o => o
  | f + 1, k, o => if k = 0 then o else mgo f (k / 10) (strOfNums [48 + (k : Int) % 10] ++ o)
def mtext (k : Nat) : ByteArray := ⟨#[109]⟩ ++ mgo 20 k ⟨#[]⟩

theorem one_byteS (d : Int) (b : Nat) (W : World) (h : W.cell? ⟨b, 0, none⟩ = some (.int .u8 d)) :
    (convert 22 9 (.slice (some ⟨b, 0, none⟩) 1 1)).run Tryd.prog W = .ok (.string (strOfNums [d])) W := by
  refine run_convert_bytes_arg (P := Tryd.prog) W 22 5 Tryd.underlying22 Tryd.underlying5 b 0 1 1 [d] rfl ?_ 9 Tryd.underlying9
  intro i hi
  obtain rfl : i = 0 := by omega
  simpa using h

/-- The address a leads to the strings xs in w. -/
def RdS (w : World) (a : Option Addr) (xs : List ByteArray) : Prop :=
  xs = [] ∨ ∃ b off, a = some ⟨b, off, none⟩ ∧ b < w.heap.size ∧ ∀ i, i < xs.length → w.cell? ⟨b, off + i, none⟩ = some (.string (xs[i]?.getD ByteArray.empty))

theorem rdS_own {w : World} {base g n cap : Nat} {xs : List ByteArray} (hl : xs.length = n)
    (h : w.ownsRow base 9 1 (.slice (some ⟨g, 0, none⟩) n cap) n (xs.map Value.string)) : RdS w (some ⟨g, 0, none⟩) xs := by
  refine .inr ⟨g, 0, rfl, (h.lt g rfl).2, fun i hi => ?_⟩
  rw [Nat.zero_add, h.cellAt i (by omega)]
  simp [hi]

/-- The marks of 1 .. k laid over xs. -/
def markedS (xs : List ByteArray) (k : Nat) : List ByteArray := (List.range xs.length).map fun i => if i < k then mtext (i + 1) else xs[i]?.getD ByteArray.empty

theorem markedS_zero (xs : List ByteArray) : markedS xs 0 = xs := by
  apply List.ext_getElem
  · simp [markedS]
  · intro i h1 h2
    simp [markedS, h2]

theorem markedS_set (xs : List ByteArray) (k : Nat) : ((markedS xs k).map Value.string).set k (.string (mtext (k + 1))) = (markedS xs (k + 1)).map Value.string := by
  apply List.ext_getElem
  · simp [markedS]
  · intro i h1 h2
    simp [markedS] at h1 h2
    rw [List.getElem_set]
    by_cases e : k = i
    · subst e; simp [markedS]
    · by_cases h : i < k
      · simp [markedS, e, h, Nat.lt_succ_of_lt h]
      · have : ¬ i < k + 1 := by omega
        simp [markedS, e, h, this]

end Go.Proofs.YtmikibekioekmaeDoor
