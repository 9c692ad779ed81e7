/-
  The two tests of a disk are one: the model's and the program's, in plain terms.
-/
import Derived.Test.YtkjnbjohicgooaaGreatDOkI
namespace Go.Proofs.YtkjnbjohicgooaaGreat
set_option linter.unusedVariables false

theorem sortN_perm (l : List Int) : (sortN l).Perm l := List.mergeSort_perm _ _

theorem sortN_sorted (l : List Int) : (sortN l).Pairwise fun x y => x ≤ y := by
  have h := List.pairwise_mergeSort (le := fun x y : Int => decide (x ≤ y)) (fun a b c h1 h2 => by simp at *; omega) (fun a b => by simp; omega) l
  exact h.imp (fun {a b} h => by simpa using h)

theorem sorted_unique : ∀ {l m : List Int}, l.Perm m → l.Pairwise (fun x y => x ≤ y) → m.Pairwise (fun x y => x ≤ y) → l = m := by
  intro l m hp h1 h2
  exact hp.eq_of_pairwise (fun a b _ _ h h' => Int.le_antisymm h h') h1 h2

/-- The nodes' Ids rise. -/
theorem nodeIds_rise {l : List NodeD} {next : Int} (h : nodesTo l next l.length) : (nodeIds l).Pairwise fun x y => x < y := by
  rw [List.pairwise_iff_getElem]
  have key : ∀ (n i : Nat) (hi : i < l.length) (hn : i + (n + 1) < l.length), (l[i]).1 < (l[i + (n + 1)]).1 := by
    intro n
    induction n with
    | zero => intro i hi hn; exact (h (i + 1) hn hn).2.2 i hi rfl
    | succ n ih =>
      intro i hi hn
      have h1 := ih i hi (by omega)
      have h2 := (h (i + (n + 1) + 1) hn hn).2.2 (i + (n + 1)) (by omega) rfl
      exact Int.lt_trans h1 h2
  intro i j hi hj hij
  have hi' : i < l.length := by simpa [nodeIds] using hi
  have hj' : j < l.length := by simpa [nodeIds] using hj
  obtain ⟨n, rfl⟩ : ∃ n, j = i + (n + 1) := ⟨j - i - 1, by omega⟩
  have := key n i hi' hj'
  simpa [nodeIds] using this

theorem nodup_of_rise {l : List Int} (h : l.Pairwise fun x y => x < y) : l.Nodup := h.imp (fun {a b} h => by omega)

theorem hasN_iff (l : List Int) (x : Int) : hasN l x = true ↔ x ∈ l := by simp [hasN]
theorem hasN_not (l : List Int) (x : Int) : hasN l x = false ↔ x ∉ l := by simp [hasN]

theorem idsTo_nodup {ids nodes : List Int} (h : idsTo ids nodes ids.length) : ids.Nodup ∧ ∀ x ∈ ids, x ∈ nodes := by
  refine ⟨?_, fun x hx => ?_⟩
  · rw [List.nodup_iff_pairwise_ne, List.pairwise_iff_getElem]
    intro i j hi hj hij e
    have h1 := (hasN_not _ _).1 (h j hj hj).1
    apply h1
    rw [← e]
    exact List.mem_take_iff_getElem.2 ⟨i, by omega, rfl⟩
  · obtain ⟨i, hi, rfl⟩ := List.mem_iff_getElem.1 hx
    exact (hasN_iff _ _).1 (h i hi hi).2

theorem perm_of : ∀ {ids nodes : List Int}, ids.Nodup → (∀ x ∈ ids, x ∈ nodes) → ids.length = nodes.length → ids.Perm nodes
  | [], nodes, _, _, hl => by
    have : nodes = [] := List.eq_nil_of_length_eq_zero hl.symm
    rw [this]
  | a :: ids, nodes, hn, hs, hl => by
    have ha : a ∈ nodes := hs a List.mem_cons_self
    have hp := List.perm_cons_erase ha
    obtain ⟨hna, hn'⟩ := List.nodup_cons.1 hn
    have hlen := List.length_erase_of_mem ha
    have ih : ids.Perm (nodes.erase a) := by
      refine perm_of hn' (fun x hx => ?_) (by simp only [List.length_cons] at hl; omega)
      have hne : x ≠ a := fun e => hna (by rw [← e]; exact hx)
      exact (List.mem_erase_of_ne hne).2 (hs x (List.mem_cons_of_mem _ hx))
    exact (ih.cons a).trans hp.symm

/-- Ids that are those of the nodes. -/
theorem ids_iff {ids : List Int} {nd : List NodeD} {next : Int} (hn : nodesTo nd next nd.length) : (ids.length = nd.length ∧ idsTo ids (nodeIds nd) ids.length) ↔ sortN ids = nodeIds nd := by
  have hr := nodeIds_rise hn
  have hlen : (nodeIds nd).length = nd.length := by simp [nodeIds]
  constructor
  · rintro ⟨h1, h2⟩
    obtain ⟨h3, h4⟩ := idsTo_nodup h2
    have hp := perm_of h3 h4 (by omega)
    exact sorted_unique ((sortN_perm ids).trans hp) (sortN_sorted ids) (hr.imp (fun {a b} h => by omega))
  · intro e
    have hp : ids.Perm (nodeIds nd) := by rw [← e]; exact (sortN_perm ids).symm
    have hl := hp.length_eq
    refine ⟨by omega, fun i hi _ => ⟨?_, ?_⟩⟩
    · rw [hasN_not]
      intro hm
      have hnd : ids.Nodup := hp.nodup_iff.2 (nodup_of_rise hr)
      rw [List.nodup_iff_pairwise_ne, List.pairwise_iff_getElem] at hnd
      obtain ⟨j, hj, e2⟩ := List.mem_take_iff_getElem.1 hm
      exact hnd j i (by omega) hi (by omega) e2
    · rw [hasN_iff]
      exact hp.mem_iff.1 (List.getElem_mem hi)

theorem alike_rev {l : List LinkD} (h : namesTo l l.length) : Alike l l.reverse := by
  have key : ∀ (n i : Nat) (hi : i < l.length) (hn : i + (n + 1) < l.length), ltS (l[i]).1 (l[i + (n + 1)]).1 = true := by
    intro n
    induction n with
    | zero => intro i hi hn; exact (h (i + 1) hn hn).2 i hi rfl
    | succ n ih =>
      intro i hi hn
      exact ltS_trans (ih i hi (by omega)) ((h (i + (n + 1) + 1) hn hn).2 (i + (n + 1)) (by omega) rfl)
  have hp : l.Pairwise fun x y => x.1 ≠ y.1 := by
    rw [List.pairwise_iff_getElem]
    intro i j hi hj hij
    obtain ⟨n, rfl⟩ : ∃ n, j = i + (n + 1) := ⟨j - i - 1, by omega⟩
    exact ltS_ne (key n i hi hj)
  have hfind : ∀ (m : List LinkD) (x : LinkD), m.Pairwise (fun x y => x.1 ≠ y.1) → x ∈ m → findL m x.1 = x.2.1 := by
    intro m
    induction m with
    | nil => intro x _ hx; cases hx
    | cons y m ih =>
      intro x hm hx
      rw [findL_cons]
      rcases List.mem_cons.1 hx with rfl | hx
      · simp
      · have := (List.pairwise_cons.1 hm).1 x hx
        rw [if_neg this]
        exact ih x (List.pairwise_cons.1 hm).2 hx
  have hpr : l.reverse.Pairwise fun x y => x.1 ≠ y.1 := by
    rw [List.pairwise_reverse]
    exact hp.imp (fun {a b} h => Ne.symm h)
  intro s
  have hh : hasL l s = hasL l.reverse s := by unfold hasL; rw [List.any_reverse]
  refine ⟨hh, ?_⟩
  cases e : hasL l s with
  | false => rw [findL_none e, findL_none (by rw [← hh]; exact e)]
  | true =>
    unfold hasL at e
    obtain ⟨x, hx, hs⟩ := List.any_eq_true.1 e
    have hs : x.1 = s := by simpa using hs
    subst hs
    rw [hfind l x hp hx, hfind l.reverse x hpr (List.mem_reverse.2 hx)]

theorem mem_ids_kept {kp : List LinkD} {tn : List TurnD} {x : LinkD} (h : x ∈ kp) : x.2.1 ∈ idsL kp tn := by
  unfold idsL
  exact List.mem_append_left _ (List.mem_map.2 ⟨x, h, rfl⟩)
theorem mem_ids_made {kp : List LinkD} {tn : List TurnD} {t : TurnD} (h : t ∈ tn) (hk : t.1 = 1) : t.2.2.2.1 ∈ idsL kp tn := by
  unfold idsL
  exact List.mem_append_right _ (List.mem_map.2 ⟨t, List.mem_filter.2 ⟨h, by simpa using hk⟩, rfl⟩)
theorem nodeIds_pos {l : List NodeD} {next : Int} (h : nodesTo l next l.length) {x : Int} (hx : x ∈ nodeIds l) : 1 ≤ x := by
  unfold nodeIds at hx
  obtain ⟨y, hy, rfl⟩ := List.mem_map.1 hx
  obtain ⟨i, hi, rfl⟩ := List.mem_iff_getElem.1 hy
  exact (h i hi hi).1

/-- The plain heart of it. -/
theorem ok_iff (nd : List NodeD) (kp : List LinkD) (tn : List TurnD) (next : Int) :
    ((nd.length ≤ 8 ∧ kp.length ≤ 8 ∧ tn.length ≤ 40) ∧ nodesTo nd next nd.length ∧ keptTo kp kp.length ∧ (idsL kp tn).length = nd.length ∧ idsTo (idsL kp tn) (nodeIds nd) (idsL kp tn).length ∧ turnsOkL kp tn) ↔
    ((nodesTo nd next nd.length ∧ nd.length ≤ 8) ∧ namesTo kp kp.length ∧ (tn.length ≤ 40 ∧ turnsOkI kp.reverse tn) ∧ sortN (idsL kp tn) = nodeIds nd) := by
  constructor
  · rintro ⟨⟨l3, l4, l5⟩, hn, hk, hl, hi, ht⟩
    have hnm : namesTo kp kp.length := fun i h1 h2 => ⟨(hk i h1 h2).1, (hk i h1 h2).2.2⟩
    have hpos : Pos kp := by
      intro x hx
      obtain ⟨i, h1, rfl⟩ := List.mem_iff_getElem.1 hx
      have := (hk i h1 h1).2.1
      omega
    exact ⟨⟨hn, l3⟩, hnm, ⟨l5, ((turnsOk_iff (alike_rev hnm) hpos).1 ht).1⟩, (ids_iff hn).1 ⟨hl, hi⟩⟩
  · rintro ⟨⟨hn, l3⟩, hnm, ⟨l5, ht⟩, he⟩
    obtain ⟨hl, hi⟩ := (ids_iff hn).2 he
    have hin : ∀ x ∈ idsL kp tn, 1 ≤ x := fun x hx => nodeIds_pos hn ((idsTo_nodup hi).2 x hx)
    have hk1 : ∀ x ∈ kp, 1 ≤ x.2.1 := fun x hx => hin _ (mem_ids_kept hx)
    have hpos : Pos kp := fun x hx => by have := hk1 x hx; omega
    have l4 : kp.length ≤ 8 := by
      have : kp.length ≤ (idsL kp tn).length := by unfold idsL; rw [List.length_append, List.length_map]; omega
      omega
    refine ⟨⟨l3, l4, l5⟩, hn, fun i h1 h2 => ⟨(hnm i h1 h2).1, hk1 _ (List.getElem_mem h1), (hnm i h1 h2).2⟩, hl, hi, (turnsOk_iff (alike_rev hnm) hpos).2 ⟨ht, fun t ht' hk => ?_⟩⟩
    have := hin _ (mem_ids_made (kp := kp) ht' hk)
    omega

theorem ok_same (d : shDisk.D) : specOkP d ↔ implOkB d = true := by
  have h := ok_iff d.2.2.2.1 d.2.2.2.2.1 d.2.2.2.2.2.1 d.2.2.1
  unfold implOkB
  unfold specOkP limitsP limB leB
  simp only [Bool.and_eq_true, decide_eq_true_eq]
  constructor
  · rintro ⟨⟨a0, a1, a2, a3, a4, a5, a6, a7, a8⟩, hn, hk, hl, hi, ht, hu⟩
    obtain ⟨b1, b2, b3, b4⟩ := h.1 ⟨⟨a6, a7, a8⟩, hn, hk, hl, hi, ht⟩
    exact ⟨⟨⟨⟨⟨⟨⟨⟨⟨⟨a0, a1⟩, a2⟩, a3⟩, a4⟩, a5⟩, (nodesIB_iff _ _).2 b1⟩, (keptIB_iff _).2 b2⟩, (turnsIB_iff _ _).2 b3⟩, b4⟩, hu⟩
  · rintro ⟨⟨⟨⟨⟨⟨⟨⟨⟨⟨a0, a1⟩, a2⟩, a3⟩, a4⟩, a5⟩, b1⟩, b2⟩, b3⟩, b4⟩, hu⟩
    obtain ⟨⟨a6, a7, a8⟩, hn, hk, hl, hi, ht⟩ := h.2 ⟨(nodesIB_iff _ _).1 b1, (keptIB_iff _).1 b2, (turnsIB_iff _ _).1 b3, b4⟩
    exact ⟨⟨a0, a1, a2, a3, a4, a5, a6, a7, a8⟩, hn, hk, hl, hi, ht, hu⟩

end Go.Proofs.YtkjnbjohicgooaaGreat
