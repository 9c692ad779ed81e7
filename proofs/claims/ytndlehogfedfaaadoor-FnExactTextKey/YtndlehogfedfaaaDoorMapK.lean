/-
  A map from texts to keys ('MapK'): what it is to look into it and to store into it.
-/
import Derived.Test.YtndlehogfedfaaaDoorKt
import Derived.Test.YtndlehogfedfaaaDoorKeep
import Derived.Maps.OwnSet
import Derived.Maps.Keyed
import Derived.WideKeyArgs
import Derived.StringKeys
namespace Go.Proofs.YtndlehogfedfaaaDoor
open Go.RowKit Go.Maps
open Go.MapKept Go.ChangeMaps
set_option linter.unusedVariables false

def datK (p : Int × Int) : DataW Unit := .agg [.lit (.int .i64 p.1), .lit (.int .i64 p.2)]
/-- How a key in the map reads, whatever it is. -/
def anyK : Value → Option (DataW Unit × List MemPlace)
  | .agg cs => match cs.toList with
    | [.int .i64 a, .int .i64 c] => some (datK (a, c), [])
    | _ => none
  | _ => none

theorem anyK_mk (a c : Int) : anyK (.agg #[.int .i64 a, .int .i64 c]) = some (datK (a, c), []) := rfl
theorem anyK_inv {v : Value} {z : DataW Unit × List MemPlace} (h : anyK v = some z) : ∃ a c, v = .agg #[.int .i64 a, .int .i64 c] ∧ z = (datK (a, c), []) := by
  unfold anyK at h
  split at h
  · rename_i cs
    split at h
    · rename_i a c hl
      refine ⟨a, c, ?_, (Option.some.inj h).symm⟩
      congr 1
      exact Array.ext' hl
    · cases h
  · cases h

/-- A text as a key. -/
def keyS (s : ByteArray) : Lit := .string s.data.toList
theorem keyS_inj {s t : ByteArray} (h : s ≠ t) : keyS s ≠ keyS t := fun e => by
  unfold keyS at e
  simp only [Lit.string.injEq] at e
  exact h (ByteArray.ext (Array.toList_inj.1 e))
theorem keyS_lit (s : ByteArray) : WideAt.IsKeyLit (keyS s) := by simp [keyS, WideAt.IsKeyLit]

theorem lawS : Keyed Tryd.prog 9 := string_keyed Tryd.underlying9
theorem zeroK (w : World) : (zeroValue 25).run Tryd.prog w = .ok (.agg #[.int .i64 0, .int .i64 0]) w := by kernel_rfl
theorem keyOfS {s : ByteArray} (hs : s.size ≤ maxLen) : keyOf Tryd.prog 9 (.string s) = some (keyS s) := Go.WideMaps.keyOf_string_mk Tryd.underlying9 hs

def fK : List (ByteArray × Int × Int) → ByteArray → Option (Int × Int)
  | [], _ => none
  | (t, p) :: l, s => if t = s then some p else fK l s

/-- Block b is a map of at most n entries that finds as the list l does. -/
def MapK (w : World) (b n : Nat) (l : List (ByteArray × Int × Int)) : Prop :=
  ∃ D : DataW Unit, w.ownsMap Tryd.prog 9 anyK b n D ∧ ∀ s : ByteArray, Maps.has D (keyS s) = (fK l s).isSome ∧ D.atKey (keyS s) (datK (0, 0)) = datK ((fK l s).getD (0, 0))

theorem MapK.kept {w w' : World} {b n : Nat} {l : List (ByteArray × Int × Int)} {row : Option Nat} (h : MapK w b n l) (hg : w.grownBy w' row) (hne : some b ≠ row) : MapK w' b n l := by
  obtain ⟨D, ho, hs⟩ := h
  exact ⟨D, ho.kept hg hne, hs⟩
theorem MapK.lt {w : World} {b n : Nat} {l : List (ByteArray × Int × Int)} (h : MapK w b n l) : b < w.heap.size := by
  obtain ⟨D, ho, hs⟩ := h
  exact ho.lt
theorem MapK.later {w w' : World} {b n : Nat} {l : List (ByteArray × Int × Int)} (h : MapK w b n l) (hb : Below w.heap.size w w') : MapK w' b n l := h.kept (below_grown hb) (by simp)
theorem MapK.alloc {w : World} {b n : Nat} {l : List (ByteArray × Int × Int)} (h : MapK w b n l) (o : Obj) : MapK (w.alloc o) b n l := h.kept (World.grownBy_alloc w o none) (by simp)
theorem MapK.made (w : World) : MapK (w.alloc (.map #[] 0)) w.heap.size 0 [] := ⟨.map [], World.ownsMap_made _ _ _ _, fun s => ⟨rfl, rfl⟩⟩

section
variable (w : World) {ops : Array Oper} {rest : List Oper} {o : Oper} {a : Act} {Q : Exit → Act → World → Prop}

theorem wpK_look (hg : o.guard = none) (m x : Operand) (hop : o.op = Op.lookup 47 m x true) (b n : Nat) (l : List (ByteArray × Int × Int))
    (hm : a.eval m = .map (some b)) (hown : MapK w b n l) (s : ByteArray) (hx : a.eval x = .string s) (hs : s.size ≤ maxLen)
    (hK : wpList Tryd.prog ops Q rest (a.put o.dst (.tuple #[.agg #[.int .i64 ((fK l s).getD (0, 0)).1, .int .i64 ((fK l s).getD (0, 0)).2], .bool (fK l s).isSome])) w) : wpList Tryd.prog ops Q (o :: rest) a w := by
  obtain ⟨D, ho, hD⟩ := hown
  refine wpList_lookup_own_ok w hg m x 47 hop 9 25 lawS Tryd.underlying47 anyK (zeroK w) (datK (0, 0)) [] (anyK_mk 0 0) b n D hm ho (.string s) (keyS s) hx (keyOfS hs) ?_
  intro v ps hv
  obtain ⟨c, d, rfl, hc⟩ := anyK_inv hv
  have h1 := congrArg Prod.fst hc
  simp only [(hD s).2] at h1
  unfold datK at h1
  simp only [DataW.agg.injEq, List.cons.injEq, DataW.lit.injEq, Lit.int.injEq, true_and, and_true] at h1
  rw [← h1.1, ← h1.2, (hD s).1]
  exact hK

theorem wpK_put (hg : o.guard = none) (m x v : Operand) (hop : o.op = Op.mapUpdate 47 m x v ∨ o.op = Op.insert 47 m x v) (b n : Nat) (l : List (ByteArray × Int × Int))
    (hm : a.eval m = .map (some b)) (hown : MapK w b n l) (hn : n < maxLen) (s : ByteArray) (p : Int × Int) (hx : a.eval x = .string s) (hv : a.eval v = .agg #[.int .i64 p.1, .int .i64 p.2]) (hs : s.size ≤ maxLen)
    (hK : ∀ w', MapK w' b (n + 1) ((s, p) :: l) → w.grownBy w' (some b) → wpList Tryd.prog ops Q rest (a.put o.dst undef) w') : wpList Tryd.prog ops Q (o :: rest) a w := by
  obtain ⟨D, ho, hD⟩ := hown
  refine wpList_plain hg fun K' hK' => ?_
  obtain ⟨w', hrun, h1, h2⟩ := ho.update lawS Tryd.underlying47 hn (keyOfS hs) (anyK_mk p.1 p.2)
  have hfin : wpList Tryd.prog ops Q rest (a.put o.dst undef) w' := by
    refine hK w' ⟨_, h1, fun t => ?_⟩ h2
    unfold fK
    by_cases e : s = t
    · subst e
      simp only [if_true, Option.isSome_some, Option.getD_some]
      exact ⟨has_put_same ho.isMap (keyS_lit s) _, atKey_put_same ho.isMap (keyS_lit s) _ _⟩
    · have e' : keyS t ≠ keyS s := keyS_inj (fun h => e h.symm)
      simp only [e, if_false]
      exact ⟨(has_put_other e' _).trans (hD t).1, (atKey_put_other e' _ _).trans (hD t).2⟩
  rcases hop with hop | hop
  all_goals
    unfold Oper.wp
    simp [execOp, hop, hm, hx, hv, hrun, Result.andThen]
    exact hK' _ _ hfin

end

def namesK : Nat → List (ByteArray × Int × Int)
  | 0 => [(⟨#[83, 80, 67]⟩, 1, 32)]
  | j + 1 => (nmA j, 4 + (j : Int), 0) :: namesK j

end Go.Proofs.YtndlehogfedfaaaDoor
