/-
  The marks that the laws write into data, by shapes: how many ('cnt'), what is there behind them ('mk').
-/
import Derived.Test.YtndlehogfedfaaaDoorOwnM
import Derived.Test.YtndlehogfedfaaaDoorMtx
namespace Go.Proofs.YtndlehogfedfaaaDoor
open Go.RowKit
set_option linter.unusedVariables false

theorem cnt_le (s : Sh) (d : s.D) : s.cnt d ≤ s.wd * (s.sz d + 1) := s.cnt_le d
theorem cntV_le (s : Sh) (d : s.D) : s.cntV d ≤ s.cnt d := s.cntV_le d

/-- The marks of the first i elements. -/
def cntTo (e : Sh) (d : List e.D) (i : Nat) : Nat := ((d.take i).map e.cnt).sum

theorem cntTo_zero (e : Sh) (d : List e.D) : cntTo e d 0 = 0 := by simp [cntTo]

theorem at_some {e : Sh} {d : List e.D} {i : Nat} {x : e.D} (h : e.at d i = some x) : ∃ hi : i < d.length, d[i] = x := by
  have hk : i < d.length := by
    rcases Nat.lt_or_ge i d.length with h' | h'
    · exact h'
    · rw [show e.at d i = none from List.getElem?_eq_none h'] at h; cases h
  refine ⟨hk, ?_⟩
  have : d[i]? = some x := h
  rw [List.getElem?_eq_getElem hk] at this
  exact Option.some.inj this

theorem cntTo_succ (e : Sh) (d : List e.D) (i : Nat) (x : e.D) (h : e.at d i = some x) : cntTo e d (i + 1) = cntTo e d i + e.cnt x := by
  obtain ⟨hk, hx⟩ := at_some h
  have e2 : d.take (i + 1) = d.take i ++ [x] := by rw [List.take_succ_eq_append_getElem hk, hx]
  unfold cntTo
  rw [e2, List.map_append, List.sum_append]
  simp

theorem cntTo_all (e : Sh) (d : List e.D) (i : Nat) (h : d.length ≤ i) : cntTo e d i = Sh.cnt (.sl e) d := by
  unfold cntTo; rw [List.take_of_length_le h]; rfl

theorem cntTo_le (e : Sh) (d : List e.D) (i : Nat) : cntTo e d i ≤ Sh.cnt (.sl e) d := by
  show cntTo e d i ≤ (d.map e.cnt).sum
  unfold cntTo
  conv => rhs; rw [← List.take_append_drop i d, List.map_append, List.sum_append]
  omega

/-- The first i elements marked. -/
def mkTo (e : Sh) (d : List e.D) (k i : Nat) : List e.D := mkRow e.mk e.cnt (d.take i) k ++ d.drop i

theorem mkRow_length {α : Type} (f : α → Nat → α) (c : α → Nat) : ∀ (l : List α) (k : Nat), (mkRow f c l k).length = l.length
  | [], _ => rfl
  | x :: l, k => by simp [mkRow, mkRow_length f c l]

theorem mkRow_snoc {α : Type} (f : α → Nat → α) (c : α → Nat) : ∀ (l : List α) (x : α) (k : Nat), mkRow f c (l ++ [x]) k = mkRow f c l k ++ [f x (k + (l.map c).sum)]
  | [], x, k => by simp [mkRow]
  | y :: l, x, k => by
    simp only [List.cons_append, mkRow, mkRow_snoc f c l x]
    simp [Nat.add_assoc]

theorem mkTo_zero (e : Sh) (d : List e.D) (k : Nat) : mkTo e d k 0 = d := by simp [mkTo, mkRow]

theorem mkTo_all (e : Sh) (d : List e.D) (k i : Nat) (h : d.length ≤ i) : mkTo e d k i = Sh.mk (.sl e) d k := by
  unfold mkTo; rw [List.take_of_length_le h, List.drop_eq_nil_of_le h, List.append_nil]; rfl

theorem mkTo_length (e : Sh) (d : List e.D) (k i : Nat) : (mkTo e d k i).length = d.length := by
  unfold mkTo; rw [List.length_append, mkRow_length, List.length_take, List.length_drop]; omega

theorem mkTo_at (e : Sh) (d : List e.D) (k i : Nat) (x : e.D) (h : e.at d i = some x) : e.at (mkTo e d k i) i = some x := by
  obtain ⟨hk, hx⟩ := at_some h
  show (mkTo e d k i)[i]? = some x
  unfold mkTo
  rw [List.getElem?_append_right (by rw [mkRow_length, List.length_take]; omega), mkRow_length, List.length_take, Nat.min_eq_left (by omega), Nat.sub_self, List.getElem?_drop, Nat.add_zero]
  exact h

theorem mkTo_set (e : Sh) (d : List e.D) (k i : Nat) (x : e.D) (h : e.at d i = some x) : List.set (mkTo e d k i) i (e.mk x (k + cntTo e d i)) = mkTo e d k (i + 1) := by
  obtain ⟨hk, hx⟩ := at_some h
  have e2 : d.take (i + 1) = d.take i ++ [x] := by rw [List.take_succ_eq_append_getElem hk, hx]
  have hl : (mkRow e.mk e.cnt (d.take i) k).length = i := by rw [mkRow_length, List.length_take]; omega
  unfold mkTo
  rw [e2, mkRow_snoc, List.set_append_right _ _ (by omega), hl, Nat.sub_self, List.append_assoc]
  congr 1
  rw [show d.drop i = x :: d.drop (i + 1) by rw [List.drop_eq_getElem_cons hk, hx]]
  rfl

theorem mk_at (e : Sh) (d : List e.D) (k i : Nat) (x : e.D) (h : e.at d i = some x) : e.at (Sh.mk (.sl e) d k) i = some (e.mk x (k + cntTo e d i)) := by
  obtain ⟨hk, hx⟩ := at_some h
  have h1 := mkTo_set e d k i x h
  have key : ∀ j, i + 1 ≤ j → j ≤ d.length → (mkTo e d k j)[i]? = some (e.mk x (k + cntTo e d i)) := by
    intro j hj
    induction j with
    | zero => omega
    | succ j ih =>
      intro hjl
      by_cases hji : j = i
      · subst hji
        rw [← h1]
        rw [List.getElem?_set, if_pos rfl, if_pos (by rw [mkTo_length]; omega)]
      · have hj' : e.at d j = some d[j] := List.getElem?_eq_getElem (by omega)
        rw [← mkTo_set e d k j _ hj', List.getElem?_set, if_neg hji]
        exact ih (by omega) (by omega)
  have := key d.length (by omega) (Nat.le_refl _)
  rw [mkTo_all _ _ _ _ (Nat.le_refl _)] at this
  exact this

theorem mgo_size : ∀ (f k : Nat) (o : ByteArray), (mgo f k o).size ≤ o.size + f
  | 0, _, o => by simp [mgo]
  | f + 1, k, o => by
    unfold mgo
    split
    · omega
    · have h := mgo_size f (k / 10) (strOfNums [48 + (k : Int) % 10] ++ o)
      rw [ByteArray.size_append, strOfNums_size] at h
      simp at h
      omega

theorem mtext_le (k : Nat) : (mtext k).size ≤ maxLen := by
  unfold mtext maxLen
  have h := mgo_size 20 k ⟨#[]⟩
  have h0 : (⟨#[]⟩ : ByteArray).size = 0 := rfl
  have h1 : (⟨#[109]⟩ : ByteArray).size = 1 := rfl
  rw [ByteArray.size_append, h1]
  omega

theorem lt_heap {w : World} {g : Nat} {o : Obj} (h : w.heap[g]? = some o) : g < w.heap.size := by
  rcases Nat.lt_or_ge g w.heap.size with h' | h'
  · exact h'
  · rw [Array.getElem?_eq_none h'] at h; cases h

/-- A cell that is as it is to be. -/
theorem setRow_skip {l : List Value} {p : Nat} {v : Value} {vs : List Value} (h : l[p]? = some v) : setRow l p (v :: vs) = setRow l (p + 1) vs := by
  have hp : p < l.length := by
    rcases Nat.lt_or_ge p l.length with h' | h'
    · exact h'
    · rw [List.getElem?_eq_none h'] at h; cases h
  have e : l.set p v = l := by
    apply List.ext_getElem?
    intro i
    rw [List.getElem?_set]
    split
    · rename_i hi
      subst hi
      first | rw [if_pos hp, h] | rw [h]
    · rfl
  show setRow (l.set p v) (p + 1) vs = _
  rw [e]

end Go.Proofs.YtndlehogfedfaaaDoor
