/-
  A map from texts to ints, read as a directory ('MapIs'): what it is to look into it, to store into it, to delete from it.
-/
import Derived.Test.YtkjnbjohicgooaaGreatTurnS
import Derived.Maps.OwnSet
import Derived.Maps.Keyed
import Derived.WideKeyArgs
import Derived.StringKeys
namespace Go.Proofs.YtkjnbjohicgooaaGreat
open Go.RowKit Go.Maps
open Go.MapKept Go.ChangeMaps
set_option linter.unusedVariables false

/-- How an int in the map reads, whatever it is. -/
def anyInt : Value → Option (DataW Unit × List MemPlace)
  | .int .i64 a => some (.lit (.int .i64 a), [])
  | _ => none

theorem anyInt_mk (a : Int) : anyInt (.int .i64 a) = some (.lit (.int .i64 a), []) := rfl
theorem anyInt_inv {v : Value} {z : DataW Unit × List MemPlace} (h : anyInt v = some z) : ∃ a, v = .int .i64 a ∧ z = (.lit (.int .i64 a), []) := by
  unfold anyInt at h
  split at h
  · exact ⟨_, rfl, (Option.some.inj h).symm⟩
  · cases h

/-- A text as a key. -/
def keyS (s : ByteArray) : Lit := .string s.data.toList
theorem keyS_inj {s t : ByteArray} (h : s ≠ t) : keyS s ≠ keyS t := fun e => by
  unfold keyS at e
  simp only [Lit.string.injEq] at e
  exact h (ByteArray.ext (Array.toList_inj.1 e))
theorem keyS_lit (s : ByteArray) : WideAt.IsKeyLit (keyS s) := by simp [keyS, WideAt.IsKeyLit]

theorem lawS : Keyed Tryz.prog 9 := string_keyed Tryz.underlying9
theorem zeroI (w : World) : (zeroValue 3).run Tryz.prog w = .ok (.int .i64 0) w := by kernel_rfl
theorem keyOfS {s : ByteArray} (hs : s.size ≤ maxLen) : keyOf Tryz.prog 9 (.string s) = some (keyS s) := Go.WideMaps.keyOf_string_mk Tryz.underlying9 hs

/-- Block b is a map of at most n entries that links as the list l does. -/
def MapIs (w : World) (b n : Nat) (l : List LinkD) : Prop :=
  ∃ D : DataW Unit, w.ownsMap Tryz.prog 9 anyInt b n D ∧ ∀ s : ByteArray, Maps.has D (keyS s) = hasL l s ∧ D.atKey (keyS s) (.lit (.int .i64 0)) = .lit (.int .i64 (findL l s))

theorem MapIs.alike {w : World} {b n : Nat} {l m : List LinkD} (h : MapIs w b n l) (ha : Alike l m) : MapIs w b n m := by
  obtain ⟨D, ho, hs⟩ := h
  exact ⟨D, ho, fun s => ⟨(hs s).1.trans (ha s).1, (hs s).2.trans (by rw [(ha s).2])⟩⟩
theorem MapIs.mono {w : World} {b n m : Nat} {l : List LinkD} (h : MapIs w b n l) (hn : n ≤ m) : MapIs w b m l := by
  obtain ⟨D, ho, hs⟩ := h
  exact ⟨D, ho.mono hn, hs⟩
theorem MapIs.kept {w w' : World} {b n : Nat} {l : List LinkD} {row : Option Nat} (h : MapIs w b n l) (hg : w.grownBy w' row) (hne : some b ≠ row) : MapIs w' b n l := by
  obtain ⟨D, ho, hs⟩ := h
  exact ⟨D, ho.kept hg hne, hs⟩
theorem MapIs.lt {w : World} {b n : Nat} {l : List LinkD} (h : MapIs w b n l) : b < w.heap.size := by
  obtain ⟨D, ho, hs⟩ := h
  exact ho.lt
theorem MapIs.later {w w' : World} {b n : Nat} {l : List LinkD} (h : MapIs w b n l) (hb : Below w.heap.size w w') : MapIs w' b n l := h.kept (below_grown hb) (by simp)
theorem MapIs.alloc {w : World} {b n : Nat} {l : List LinkD} (h : MapIs w b n l) (o : Obj) : MapIs (w.alloc o) b n l := h.kept (World.grownBy_alloc w o none) (by simp)
theorem MapIs.made (w : World) : MapIs (w.alloc (.map #[] 0)) w.heap.size 0 [] := ⟨.map [], World.ownsMap_made _ _ _ _, fun s => ⟨rfl, rfl⟩⟩

section
variable (w : World) {ops : Array Oper} {rest : List Oper} {o : Oper} {a : Act} {Q : Exit → Act → World → Prop}

theorem wp_look_ok (hg : o.guard = none) (m x : Operand) (hop : o.op = Op.lookup 77 m x true) (b n : Nat) (l : List LinkD)
    (hm : a.eval m = .map (some b)) (hown : MapIs w b n l) (s : ByteArray) (hx : a.eval x = .string s) (hs : s.size ≤ maxLen)
    (hK : wpList Tryz.prog ops Q rest (a.put o.dst (.tuple #[.int .i64 (findL l s), .bool (hasL l s)])) w) : wpList Tryz.prog ops Q (o :: rest) a w := by
  obtain ⟨D, ho, hD⟩ := hown
  refine wpList_lookup_own_ok w hg m x 77 hop 9 3 lawS Tryz.underlying77 anyInt (zeroI w) (.lit (.int .i64 0)) [] (anyInt_mk 0) b n D hm ho (.string s) (keyS s) hx (keyOfS hs) ?_
  intro v ps hv
  obtain ⟨c, rfl, hc⟩ := anyInt_inv hv
  have h1 := congrArg Prod.fst hc
  simp only [(hD s).2] at h1
  injection h1 with h1
  injection h1 with _ h1
  rw [← h1, (hD s).1]
  exact hK

theorem wp_look (hg : o.guard = none) (m x : Operand) (hop : o.op = Op.lookup 77 m x false) (b n : Nat) (l : List LinkD)
    (hm : a.eval m = .map (some b)) (hown : MapIs w b n l) (s : ByteArray) (hx : a.eval x = .string s) (hs : s.size ≤ maxLen)
    (hK : wpList Tryz.prog ops Q rest (a.put o.dst (.int .i64 (findL l s))) w) : wpList Tryz.prog ops Q (o :: rest) a w := by
  obtain ⟨D, ho, hD⟩ := hown
  refine wpList_plain hg fun K' hK' => ?_
  obtain ⟨v, ps, hrun, hv⟩ := ho.lookup lawS Tryz.underlying77 (zeroI w) (anyInt_mk 0) (keyOfS hs)
  obtain ⟨c, rfl, hc⟩ := anyInt_inv hv
  have h1 := congrArg Prod.fst hc
  simp only [(hD s).2] at h1
  injection h1 with h1
  injection h1 with _ h1
  rw [← h1] at hrun
  unfold Oper.wp
  simp [execOp, hop, hm, hx, hrun, Result.andThen]
  exact hK' _ _ hK

theorem wp_store (hg : o.guard = none) (m x v : Operand) (hop : o.op = Op.mapUpdate 77 m x v) (b n : Nat) (l : List LinkD)
    (hm : a.eval m = .map (some b)) (hown : MapIs w b n l) (hn : n < maxLen) (s : ByteArray) (id : Int) (hx : a.eval x = .string s) (hv : a.eval v = .int .i64 id) (hs : s.size ≤ maxLen)
    (hK : ∀ w', MapIs w' b (n + 1) ((s, id, ()) :: l) → w.grownBy w' (some b) → wpList Tryz.prog ops Q rest (a.put o.dst undef) w') : wpList Tryz.prog ops Q (o :: rest) a w := by
  obtain ⟨D, ho, hD⟩ := hown
  refine wpList_mapUpdate_own w hg m x v 77 hop 9 3 lawS Tryz.underlying77 anyInt b n D hm ho hn (.string s) (.int .i64 id) (keyS s) hx hv (keyOfS hs) (.lit (.int .i64 id)) [] (anyInt_mk id) ?_
  intro w' h1 h2
  refine hK w' ⟨_, h1, fun t => ?_⟩ h2
  rw [hasL_cons, findL_cons]
  by_cases e : s = t
  · subst e
    simp only [decide_true, Bool.true_or, if_true]
    exact ⟨has_put_same ho.isMap (keyS_lit s) _, atKey_put_same ho.isMap (keyS_lit s) _ _⟩
  · have e' : keyS t ≠ keyS s := keyS_inj (fun h => e h.symm)
    simp only [e, decide_false, Bool.false_or, if_false]
    exact ⟨(has_put_other e' _).trans (hD t).1, (atKey_put_other e' _ _).trans (hD t).2⟩

theorem wp_delete (hg : o.guard = none) (m x : Operand) (hop : o.op = Op.call { callee := Callee.builtin Builtin.delete, args := #[m, x], argTypes := #[77, 9] }) (b n : Nat) (l : List LinkD)
    (hm : a.eval m = .map (some b)) (hown : MapIs w b n l) (s : ByteArray) (hx : a.eval x = .string s) (hs : s.size ≤ maxLen)
    (hK : ∀ w', MapIs w' b n (lessL l s) → w.grownBy w' (some b) → wpList Tryz.prog ops Q rest (a.put o.dst (.tuple #[])) w') : wpList Tryz.prog ops Q (o :: rest) a w := by
  obtain ⟨D, ho, hD⟩ := hown
  refine wpList_delete_own w hg m x 77 9 hop 3 lawS Tryz.underlying77 anyInt b n D hm ho (.string s) (keyS s) hx (keyOfS hs) ?_
  intro w' h1 h2
  refine hK w' ⟨_, h1, fun t => ?_⟩ h2.grown
  rw [hasL_less, findL_less]
  by_cases e : t = s
  · subst e
    simp only [ne_eq, not_true_eq_false, decide_false, Bool.false_and, if_true]
    exact ⟨has_del_same, atKey_del_same _⟩
  · have e' : keyS t ≠ keyS s := keyS_inj e
    simp only [ne_eq, e, not_false_eq_true, decide_true, Bool.true_and, if_false]
    exact ⟨(has_del_other e').trans (hD t).1, (atKey_del_other e' _).trans (hD t).2⟩

end
end Go.Proofs.YtkjnbjohicgooaaGreat
