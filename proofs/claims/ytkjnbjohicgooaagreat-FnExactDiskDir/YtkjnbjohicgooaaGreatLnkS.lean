/-
  slices.SortFunc at links, by their names: a row of the call's own is set in the order of its names.
-/
import Derived.Test.YtkjnbjohicgooaaGreatShelfL
import Derived.Test.YtkjnbjohicgooaaGreatShelf
import Derived.Test.YtkjnbjohicgooaaGreatLnkP
import Derived.Test.YtkjnbjohicgooaaGreatAppC
namespace Go.Proofs.YtkjnbjohicgooaaGreat
open Go.RowKit Go.Sort
set_option linter.unusedVariables false
set_option maxRecDepth 100000

def encL (x : LinkD) : List Value := [.string x.1, .int .i64 x.2.1]
def cfL (x y : LinkD) : Int := Lib.compareBytes x.1.data.toList y.1.data.toList

theorem lt_cfL (x y : LinkD) : ltOf cfL x y = ltS x.1 y.1 := by
  unfold ltOf cfL ltS
  rw [compare_less, ByteArray.toList_eq, ByteArray.toList_eq]

theorem ltS_ntrans {a b c : ByteArray} (h1 : ltS a b = false) (h2 : ltS b c = false) : ltS a c = false := by
  cases e : ltS a c with
  | false => rfl
  | true =>
    by_cases hab : b = a
    · subst hab; rw [h2] at e; cases e
    · have := ltS_trans (ltS_flip h1 hab) e
      rw [h2] at this; cases this

theorem swoL : SWO (ltOf cfL) where
  irrefl x := by rw [lt_cfL]; exact ltS_irrefl _
  trans x y z h1 h2 := by rw [lt_cfL] at *; exact ltS_trans h1 h2
  ntrans x y z h1 h2 := by rw [lt_cfL] at *; exact ltS_ntrans h1 h2

set_option maxHeartbeats 1000000 in
theorem linkCmp (x y : LinkD) (W : World) : Calls Tryz.prog 97 #[.agg #[.string x.1, .int .i64 x.2.1], .agg #[.string y.1, .int .i64 y.2.1]] W fun e w' => e = .returned (.int .i64 (cfL x y)) ∧ ∃ q os', w' = grow (W.drewN q) os' := by
  have hcon : ∀ W', Calls Tryz.prog 98 #[.string x.1, .string y.1] W' fun e w' => e = .returned (.int .i64 (cfL x y)) ∧ w' = W' := fun W' => Tryz.strings_Compare x.1 y.1 W'
  generalize cfL x y = r at hcon ⊢
  go_enter Tryz.func97, Tryz.ntmps97
  go_wp2_with (go_at_call 98; refine (hcon _).mono ?_; rintro e w' ⟨rfl, rfl⟩)
  go_ret
  exact ⟨rfl, 0, _, by rw [alloc_eq_grow, alloc_eq_grow, grow_grow]; rfl⟩

theorem cmpLaysL (blk off size : Nat) (w : World) : CmpLays Tryz.prog 97 #[] encL 2 cfL blk off size w :=
  fun _ _ _ _ x y => linkCmp x y _

theorem flatK_cells (l : List LinkD) (j : Nat) (hj : j < l.length * 2) : (cellsL l)[j]? = some (flatK encL 2 l.toArray)[j]! := by
  rw [get_flatK _ _ _ j (by simpa using hj)]
  have h2 : j / 2 < l.length := by omega
  have h3 : j % 2 < 2 := by omega
  have h := flatten_get (n := 2) (l := l.map encL) (i := j / 2) (j := j % 2) (c := encL l[j / 2]) (fun k d hk => by
    rw [List.getElem?_map] at hk
    obtain ⟨x, _, rfl⟩ := Option.map_eq_some_iff.1 hk
    rfl) (by rw [List.getElem?_map, List.getElem?_eq_getElem h2]; rfl) h3
  rw [show j / 2 * 2 + j % 2 = j by omega, flatMap_flatten] at h
  have e : l.toArray[j / 2]! = l[j / 2] := by simp [getElem!_pos, h2]
  rw [e]
  refine Eq.trans h ?_
  rcases (by omega : j % 2 = 0 ∨ j % 2 = 1) with h0 | h0 <;> rw [h0] <;> rfl

theorem cells_len2 (l : List LinkD) : (cellsL l).length = l.length * 2 := by
  induction l with
  | nil => rfl
  | cons x l ih => simp [cellsL] at ih ⊢; omega

theorem holdsL {w : World} {B g m cap : Nat} {t : TypeId} {l : List LinkD} (hl : l.length = m) (h : w.ownsRow B t 2 (.slice (some ⟨g, 0, none⟩) m cap) m (cellsL l)) : HoldsK encL 2 w g 0 l.toArray := by
  intro j hj
  have hj' : j < l.length * 2 := by simpa using hj
  refine ⟨?_, ?_⟩
  · rw [Nat.zero_add, h.cellAt j (by omega), flatK_cells l j hj']; rfl
  · rw [Nat.zero_add]; exact h.frozenAt j

theorem sorted_own {w : World} {B g m cap : Nat} {t : TypeId} {l l' : List LinkD} (hl' : l'.length = m) (h : w.ownsRow B t 2 (.slice (some ⟨g, 0, none⟩) m cap) m (cellsL l)) (n : Nat) (os : Array Obj) :
    (sortWorldK encL 2 w g 0 n l'.toArray os).ownsRow B t 2 (.slice (some ⟨g, 0, none⟩) m cap) m (cellsL l') := by
  rcases h.2 with ⟨h1, _⟩ | ⟨g', cap', cur, hv, hg, hh, h1, h2, h3, h4⟩
  · simp at h1
  · simp only [Value.slice.injEq, Option.some.injEq, Addr.mk.injEq, and_true, true_and] at hv
    obtain ⟨rfl, rfl⟩ := hv
    have hgs : g < w.heap.size := (Array.getElem?_eq_some_iff.1 hh).1
    refine ⟨by rw [cells_len2, hl'], .inr ⟨g, cap, putCells id 0 (flatK encL 2 l'.toArray) cur, rfl, hg, ?_, h1, h2, ?_, ?_⟩⟩
    · unfold sortWorldK putRowK
      rw [heap_grow_old _ _ (by simpa [putRow, mapBlock, Sort.ahead] using hgs)]
      simp [putRow, mapBlock, Sort.ahead, Array.getElem?_modify, hh, onCells]
    · simp [putCells, h3]
    · apply List.ext_getElem?
      intro j
      by_cases hj : j < m * 2
      · have hjc : j < cur.size := by rw [h3]; omega
        rw [List.getElem?_take_of_lt hj, flatK_cells l' j (by omega)]
        simp [putCells, hjc, hl', hj]
      · rw [List.getElem?_eq_none (by rw [List.length_take]; omega), List.getElem?_eq_none (by rw [cells_len2, hl']; omega)]

theorem sortL_grown (w : World) (n g : Nat) (d : Array LinkD) (os : Array Obj) : w.grownBy (sortWorldK encL 2 w g 0 n d os) (some g) := by
  unfold sortWorldK putRowK
  refine ⟨rfl, rfl, rfl, ?_, fun k hk hne => ?_⟩
  · simp [grow, putRow, mapBlock, Sort.ahead]
  · have hkg : g ≠ k := fun e => hne (by rw [e])
    rw [heap_grow_old _ _ (by simpa [putRow, mapBlock, Sort.ahead] using hk)]
    simp [putRow, mapBlock, Sort.ahead, Array.getElem?_modify, hkg]

theorem sortLinks_ok (B g m cap : Nat) (l : List LinkD) (w : World) (hl : l.length = m) (hs : m < 4611686018427387904) (h : w.ownsRow B 81 2 (.slice (some ⟨g, 0, none⟩) m cap) m (cellsL l)) (hnd : l.Pairwise fun x y => x.1 ≠ y.1) :
    Calls Tryz.prog 96 #[.slice (some ⟨g, 0, none⟩) m cap, .func (.func 97) #[] #[]] w fun e w' => e = .returned (.tuple #[]) ∧ ∃ l', l'.Perm l ∧ Asc l' ∧ w'.ownsRow B 81 2 (.slice (some ⟨g, 0, none⟩) m cap) m (cellsL l') ∧ w.grownBy w' (some g) := by
  have hH := holdsL hl h
  have hg := (h.lt g rfl).2
  have eg : ∀ args w, (callFunc 97 args).run Tryz.prog w = .ok (.enter 97 args) w := enters_of Tryz.func97 (by kernel_rfl) rfl
  subst hl
  have hcon := AnyQ.slices_SortFunc Tryz.sortLinks 2 (fun w => by kernel_rfl) (fun w => by kernel_rfl) encL (fun _ => rfl) (fun x v hv => by simp [encL] at hv; rcases hv with rfl | rfl <;> rfl) cfL swoL 97 #[] g 0 cap l.toArray w eg (cmpLaysL g 0 l.toArray.size w) hH hg (by simpa using hs)
  refine Calls.mono (P := Tryz.prog) hcon ?_
  rintro e w' ⟨rfl, d', n, os, hp, hso, rfl⟩
  have hsz : d'.size = l.length := by simpa using hp.1
  have hperm : d'.toList.Perm l := by
    have := hp.2.2
    rw [show l.toArray.size = d'.size by rw [hsz]; simp, Array.extract_size] at this
    simpa [hsz] using this
  have hnd' : d'.toList.Pairwise fun x y => x.1 ≠ y.1 := (List.Perm.pairwise_iff (fun hxy => fun e => hxy e.symm) hperm).2 hnd
  have hasc : Asc d'.toList := by
    refine List.pairwise_iff_getElem.2 ?_
    intro i j hi hj hij
    have hi' : i < d'.size := by simpa using hi
    have hj' : j < d'.size := by simpa using hj
    have h1 := hso i j (Nat.zero_le _) hij (by simpa [hsz] using hj')
    rw [lt_cfL, getElem!_pos d' i hi', getElem!_pos d' j hj'] at h1
    have h2 := List.pairwise_iff_getElem.1 hnd' i j hi hj hij
    simp only [Array.getElem_toList] at h2 ⊢
    exact ltS_flip h1 h2
  have e := sorted_own (l' := d'.toList) (by simpa using hsz) h n os
  exact ⟨rfl, d'.toList, hperm, hasc, e, sortL_grown w n g d' os⟩

end Go.Proofs.YtkjnbjohicgooaaGreat
