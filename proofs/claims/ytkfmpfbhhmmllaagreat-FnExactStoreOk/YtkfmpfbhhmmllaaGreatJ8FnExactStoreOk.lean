/-
  Joined: DOkE, MkLink, MkNode, MkTurn, MkDisk, OwnN, AppS, AppC, ReadS, ReadP.
-/
import Derived.Test.YtkfmpfbhhmmllaaGreatJ7FnExactStoreOk
import Derived.Test.YtkfmpfbhhmmllaaGreatJ0FnExactStoreOk
import Derived.Test.YtkfmpfbhhmmllaaGreatJ2FnExactStoreOk
import Derived.Test.YtkfmpfbhhmmllaaGreatJ1FnExactStoreOk
import Derived.Test.YtkfmpfbhhmmllaaGreatJ3FnExactStoreOk
import Derived.Laws.AppendOwnNone
import Derived.Deep.AppendLies
import Derived.Lib.AppendStr
import Derived.Test.YtkfmpfbhhmmllaaGreatJ5FnExactStoreOk
/- DOkE: The two tests of a disk are one: the model's and the program's, in plain terms. -/
namespace Go.Proofs.YtkfmpfbhhmmllaaGreat
set_option linter.unusedVariables false

theorem sortN_perm (l : List Int) : (sortN l).Perm l := List.mergeSort_perm _ _

theorem sortN_sorted (l : List Int) : (sortN l).Pairwise fun x y => x ≤ y := by
  have h := List.pairwise_mergeSort (le := fun x y : Int => decide (x ≤ y)) (fun a b c h1 h2 => by simp at *; omega) (fun a b => by simp; omega) l
  exact h.imp (fun {a b} h => by simpa using h)

theorem sorted_unique : ∀ {l m : List Int}, l.Perm m → l.Pairwise (fun x y => x ≤ y) → m.Pairwise (fun x y => x ≤ y) → l = m := by
  intro l m hp h1 h2
  exact hp.eq_of_pairwise (fun a b _ _ h h' => Int.le_antisymm h h') h1 h2

/-- The nodes' Ids rise. -/
theorem nodeIds_rise {l : List NodeD} {next : Int} (h : nodesTo l next l.length) : (nodeIds l).Pairwise fun x y => x < y := by
  rw [List.pairwise_iff_getElem]
  have key : ∀ (n i : Nat) (hi : i < l.length) (hn : i + (n + 1) < l.length), (l[i]).1 < (l[i + (n + 1)]).1 := by
    intro n
    induction n with
    | zero => intro i hi hn; exact (h (i + 1) hn hn).2.2 i hi rfl
    | succ n ih =>
      intro i hi hn
      have h1 := ih i hi (by omega)
      have h2 := (h (i + (n + 1) + 1) hn hn).2.2 (i + (n + 1)) (by omega) rfl
      exact Int.lt_trans h1 h2
  intro i j hi hj hij
  have hi' : i < l.length := by simpa [nodeIds] using hi
  have hj' : j < l.length := by simpa [nodeIds] using hj
  obtain ⟨n, rfl⟩ : ∃ n, j = i + (n + 1) := ⟨j - i - 1, by omega⟩
  have := key n i hi' hj'
  simpa [nodeIds] using this

theorem nodup_of_rise {l : List Int} (h : l.Pairwise fun x y => x < y) : l.Nodup := h.imp (fun {a b} h => by omega)

theorem hasN_iff (l : List Int) (x : Int) : hasN l x = true ↔ x ∈ l := by simp [hasN]
theorem hasN_not (l : List Int) (x : Int) : hasN l x = false ↔ x ∉ l := by simp [hasN]

theorem idsTo_nodup {ids nodes : List Int} (h : idsTo ids nodes ids.length) : ids.Nodup ∧ ∀ x ∈ ids, x ∈ nodes := by
  refine ⟨?_, fun x hx => ?_⟩
  · rw [List.nodup_iff_pairwise_ne, List.pairwise_iff_getElem]
    intro i j hi hj hij e
    have h1 := (hasN_not _ _).1 (h j hj hj).1
    apply h1
    rw [← e]
    exact List.mem_take_iff_getElem.2 ⟨i, by omega, rfl⟩
  · obtain ⟨i, hi, rfl⟩ := List.mem_iff_getElem.1 hx
    exact (hasN_iff _ _).1 (h i hi hi).2

theorem perm_of : ∀ {ids nodes : List Int}, ids.Nodup → (∀ x ∈ ids, x ∈ nodes) → ids.length = nodes.length → ids.Perm nodes
  | [], nodes, _, _, hl => by
    have : nodes = [] := List.eq_nil_of_length_eq_zero hl.symm
    rw [this]
  | a :: ids, nodes, hn, hs, hl => by
    have ha : a ∈ nodes := hs a List.mem_cons_self
    have hp := List.perm_cons_erase ha
    obtain ⟨hna, hn'⟩ := List.nodup_cons.1 hn
    have hlen := List.length_erase_of_mem ha
    have ih : ids.Perm (nodes.erase a) := by
      refine perm_of hn' (fun x hx => ?_) (by simp only [List.length_cons] at hl; omega)
      have hne : x ≠ a := fun e => hna (by rw [← e]; exact hx)
      exact (List.mem_erase_of_ne hne).2 (hs x (List.mem_cons_of_mem _ hx))
    exact (ih.cons a).trans hp.symm

/-- Ids that are those of the nodes. -/
theorem ids_iff {ids : List Int} {nd : List NodeD} {next : Int} (hn : nodesTo nd next nd.length) : (ids.length = nd.length ∧ idsTo ids (nodeIds nd) ids.length) ↔ sortN ids = nodeIds nd := by
  have hr := nodeIds_rise hn
  have hlen : (nodeIds nd).length = nd.length := by simp [nodeIds]
  constructor
  · rintro ⟨h1, h2⟩
    obtain ⟨h3, h4⟩ := idsTo_nodup h2
    have hp := perm_of h3 h4 (by omega)
    exact sorted_unique ((sortN_perm ids).trans hp) (sortN_sorted ids) (hr.imp (fun {a b} h => by omega))
  · intro e
    have hp : ids.Perm (nodeIds nd) := by rw [← e]; exact (sortN_perm ids).symm
    have hl := hp.length_eq
    refine ⟨by omega, fun i hi _ => ⟨?_, ?_⟩⟩
    · rw [hasN_not]
      intro hm
      have hnd : ids.Nodup := hp.nodup_iff.2 (nodup_of_rise hr)
      rw [List.nodup_iff_pairwise_ne, List.pairwise_iff_getElem] at hnd
      obtain ⟨j, hj, e2⟩ := List.mem_take_iff_getElem.1 hm
      exact hnd j i (by omega) hi (by omega) e2
    · rw [hasN_iff]
      exact hp.mem_iff.1 (List.getElem_mem hi)

theorem alike_rev {l : List LinkD} (h : namesTo l l.length) : Alike l l.reverse := by
  have key : ∀ (n i : Nat) (hi : i < l.length) (hn : i + (n + 1) < l.length), ltS (l[i]).1 (l[i + (n + 1)]).1 = true := by
    intro n
    induction n with
    | zero => intro i hi hn; exact (h (i + 1) hn hn).2 i hi rfl
    | succ n ih =>
      intro i hi hn
      exact ltS_trans (ih i hi (by omega)) ((h (i + (n + 1) + 1) hn hn).2 (i + (n + 1)) (by omega) rfl)
  have hp : l.Pairwise fun x y => x.1 ≠ y.1 := by
    rw [List.pairwise_iff_getElem]
    intro i j hi hj hij
    obtain ⟨n, rfl⟩ : ∃ n, j = i + (n + 1) := ⟨j - i - 1, by omega⟩
    exact ltS_ne (key n i hi hj)
  have hfind : ∀ (m : List LinkD) (x : LinkD), m.Pairwise (fun x y => x.1 ≠ y.1) → x ∈ m → findL m x.1 = x.2.1 := by
    intro m
    induction m with
    | nil => intro x _ hx; cases hx
    | cons y m ih =>
      intro x hm hx
      rw [findL_cons]
      rcases List.mem_cons.1 hx with rfl | hx
      · simp
      · have := (List.pairwise_cons.1 hm).1 x hx
        rw [if_neg this]
        exact ih x (List.pairwise_cons.1 hm).2 hx
  have hpr : l.reverse.Pairwise fun x y => x.1 ≠ y.1 := by
    rw [List.pairwise_reverse]
    exact hp.imp (fun {a b} h => Ne.symm h)
  intro s
  have hh : hasL l s = hasL l.reverse s := by unfold hasL; rw [List.any_reverse]
  refine ⟨hh, ?_⟩
  cases e : hasL l s with
  | false => rw [findL_none e, findL_none (by rw [← hh]; exact e)]
  | true =>
    unfold hasL at e
    obtain ⟨x, hx, hs⟩ := List.any_eq_true.1 e
    have hs : x.1 = s := by simpa using hs
    subst hs
    rw [hfind l x hp hx, hfind l.reverse x hpr (List.mem_reverse.2 hx)]

theorem mem_ids_kept {kp : List LinkD} {tn : List TurnD} {x : LinkD} (h : x ∈ kp) : x.2.1 ∈ idsL kp tn := by
  unfold idsL
  exact List.mem_append_left _ (List.mem_map.2 ⟨x, h, rfl⟩)
theorem mem_ids_made {kp : List LinkD} {tn : List TurnD} {t : TurnD} (h : t ∈ tn) (hk : t.1 = 1) : t.2.2.2.1 ∈ idsL kp tn := by
  unfold idsL
  exact List.mem_append_right _ (List.mem_map.2 ⟨t, List.mem_filter.2 ⟨h, by simpa using hk⟩, rfl⟩)
theorem nodeIds_pos {l : List NodeD} {next : Int} (h : nodesTo l next l.length) {x : Int} (hx : x ∈ nodeIds l) : 1 ≤ x := by
  unfold nodeIds at hx
  obtain ⟨y, hy, rfl⟩ := List.mem_map.1 hx
  obtain ⟨i, hi, rfl⟩ := List.mem_iff_getElem.1 hy
  exact (h i hi hi).1

/-- The plain heart of it. -/
theorem ok_iff (nd : List NodeD) (kp : List LinkD) (tn : List TurnD) (next : Int) :
    ((nd.length ≤ 8 ∧ kp.length ≤ 8 ∧ tn.length ≤ 40) ∧ nodesTo nd next nd.length ∧ keptTo kp kp.length ∧ (idsL kp tn).length = nd.length ∧ idsTo (idsL kp tn) (nodeIds nd) (idsL kp tn).length ∧ turnsOkL kp tn) ↔
    ((nodesTo nd next nd.length ∧ nd.length ≤ 8) ∧ namesTo kp kp.length ∧ (tn.length ≤ 40 ∧ turnsOkI kp.reverse tn) ∧ sortN (idsL kp tn) = nodeIds nd) := by
  constructor
  · rintro ⟨⟨l3, l4, l5⟩, hn, hk, hl, hi, ht⟩
    have hnm : namesTo kp kp.length := fun i h1 h2 => ⟨(hk i h1 h2).1, (hk i h1 h2).2.2⟩
    have hpos : Pos kp := by
      intro x hx
      obtain ⟨i, h1, rfl⟩ := List.mem_iff_getElem.1 hx
      have := (hk i h1 h1).2.1
      omega
    exact ⟨⟨hn, l3⟩, hnm, ⟨l5, ((turnsOk_iff (alike_rev hnm) hpos).1 ht).1⟩, (ids_iff hn).1 ⟨hl, hi⟩⟩
  · rintro ⟨⟨hn, l3⟩, hnm, ⟨l5, ht⟩, he⟩
    obtain ⟨hl, hi⟩ := (ids_iff hn).2 he
    have hin : ∀ x ∈ idsL kp tn, 1 ≤ x := fun x hx => nodeIds_pos hn ((idsTo_nodup hi).2 x hx)
    have hk1 : ∀ x ∈ kp, 1 ≤ x.2.1 := fun x hx => hin _ (mem_ids_kept hx)
    have hpos : Pos kp := fun x hx => by have := hk1 x hx; omega
    have l4 : kp.length ≤ 8 := by
      have : kp.length ≤ (idsL kp tn).length := by unfold idsL; rw [List.length_append, List.length_map]; omega
      omega
    refine ⟨⟨l3, l4, l5⟩, hn, fun i h1 h2 => ⟨(hnm i h1 h2).1, hk1 _ (List.getElem_mem h1), (hnm i h1 h2).2⟩, hl, hi, (turnsOk_iff (alike_rev hnm) hpos).2 ⟨ht, fun t ht' hk => ?_⟩⟩
    have := hin _ (mem_ids_made (kp := kp) ht' hk)
    omega

theorem ok_same (d : shDisk.D) : specOkP d ↔ implOkB d = true := by
  have h := ok_iff d.2.2.2.1 d.2.2.2.2.1 d.2.2.2.2.2.1 d.2.2.1
  unfold implOkB
  unfold specOkP limitsP limB leB
  simp only [Bool.and_eq_true, decide_eq_true_eq]
  constructor
  · rintro ⟨⟨a0, a1, a2, a3, a4, a5, a6, a7, a8⟩, hn, hk, hl, hi, ht, hu⟩
    obtain ⟨b1, b2, b3, b4⟩ := h.1 ⟨⟨a6, a7, a8⟩, hn, hk, hl, hi, ht⟩
    exact ⟨⟨⟨⟨⟨⟨⟨⟨⟨⟨a0, a1⟩, a2⟩, a3⟩, a4⟩, a5⟩, (nodesIB_iff _ _).2 b1⟩, (keptIB_iff _).2 b2⟩, (turnsIB_iff _ _).2 b3⟩, b4⟩, hu⟩
  · rintro ⟨⟨⟨⟨⟨⟨⟨⟨⟨⟨a0, a1⟩, a2⟩, a3⟩, a4⟩, a5⟩, b1⟩, b2⟩, b3⟩, b4⟩, hu⟩
    obtain ⟨⟨a6, a7, a8⟩, hn, hk, hl, hi, ht⟩ := h.2 ⟨(nodesIB_iff _ _).1 b1, (keptIB_iff _).1 b2, (turnsIB_iff _ _).1 b3, b4⟩
    exact ⟨⟨a0, a1, a2, a3, a4, a5, a6, a7, a8⟩, hn, hk, hl, hi, ht, hu⟩

end Go.Proofs.YtkfmpfbhhmmllaaGreat

/- MkLink: The marks of the type Link. By program (mkgen.py). -/
namespace Go.Proofs.YtkfmpfbhhmmllaaGreat
open Go.RowKit
set_option linter.unusedVariables false

theorem openO_Link {w : World} {B : Nat} {cs : List Value} {d : shLink.D} {F : List Nat} (h : Own shLink w B cs d F) :
    cs = [.string (d.1), .int .i64 (d.2.1)] ∧ F = [] := by
  obtain ⟨_, _, G0, _, rfl, rfl, h0, _, _, G1, _, rfl, rfl, h1, hE⟩ := h
  obtain ⟨⟨rfl, _⟩, rfl⟩ := h0
  obtain ⟨rfl, rfl⟩ := h1
  obtain ⟨rfl, rfl⟩ := hE
  exact ⟨rfl, by simp⟩

theorem cnt_Link (d : shLink.D) : shLink.cnt d = 1 + 1 := by
  show 1 + (1 + (0)) = _
  omega

set_option maxRecDepth 100000 in
set_option maxHeartbeats 2000000 in
theorem markLinkS_own (a : Option Addr) (n cap B k : Nat) (d : List shLink.D) (F : List Nat) (w : World) (ho : Own (.sl shLink) w B [.slice a n cap] d F) (hnd : F.Nodup) (hk0 : 1 ≤ k) (hk : k + Sh.cnt (.sl shLink) d ≤ 1000000000000) :
    Calls Tryz.prog 43 #[.slice a n cap, .int .i64 k] w fun e w' => e = .returned (.int .i64 ((k + Sh.cnt (.sl shLink) d : Nat) : Int)) ∧ Own (.sl shLink) w' B [.slice a n cap] (Sh.mk (.sl shLink) d k) F ∧ Touch w w' F := by
  obtain ⟨hl, hm, hg⟩ := own_len ho
  obtain ⟨C, hC⟩ : ∃ C, C = Sh.cnt (.sl shLink) d := ⟨_, rfl⟩
  rw [← hC] at hk ⊢
  have HO : Hid (Own (.sl shLink) w B [.slice a n cap] d F ∧ F.Nodup) := ⟨ho, hnd⟩
  have HL : Hid (d.length = n ∧ C = Sh.cnt (.sl shLink) d) := ⟨hl, hC⟩
  clear ho hnd hl hC
  unfold maxLen at hm
  go_enter Tryz.func43, Tryz.ntmps43
  go_wp2
  go_loopw [1, 5] (fun m i wr => ∃ j kk : Nat, j ≤ n ∧ m = .int .i64 (kk : Int) ∧ i = .int .i64 j ∧ Hid (kk = k + cntTo shLink d j) ∧ 1 ≤ kk ∧ Hid (Own (.sl shLink) wr B [.slice a n cap] (mkTo shLink d k j) F) ∧ Touch w wr F) (fun _ i _ => n - (intOf i).toNat)
  case atStart => exact ⟨0, k, Nat.zero_le _, rfl, rfl, by show k = _; rw [cntTo_zero]; rfl, hk0, by show Own _ _ _ _ _ _; rw [mkTo_zero]; exact HO.out.1, Touch.refl _ _⟩
  case round =>
    obtain ⟨j, kk, hj, rfl, rfl, hkk, hkk1, ho, ht⟩ := hrel
    by_cases hlt : j < n
    · obtain ⟨g, rfl⟩ := hg.resolve_left (by omega)
      obtain ⟨t, cur, c, x, f, hh, hx, hoe, hnf, hgf, hfF, hgF, hBg, hcur, hclose⟩ := own_elem ho.out HO.out.2 j hlt
      have hxd : shLink.at d j = some x := by
        have h1 : j < d.length := by rw [HL.out.1]; exact hlt
        have h2 : shLink.at d j = some d[j] := List.getElem?_eq_getElem h1
        have h3 := mkTo_at shLink d k j _ h2
        rw [h2, ← h3]; exact hx
      have hsucc := cntTo_succ shLink d j x hxd
      have hle := cntTo_le shLink d (j + 1)
      have hms := mkTo_set shLink d k j x hxd
      rw [← hkk.out] at hms
      rw [cnt_Link] at hsucc
      obtain ⟨rfl, rfl⟩ := openO_Link hoe
      have hkn : kk + (1 + 1) ≤ 1000000000000 := by have h1 := hkk.out; have h2 := HL.out.2; rw [← h2] at hle; omega
      have HK : Hid (kk + (1 + 1) = k + cntTo shLink d (j + 1)) := by show _ = _; rw [hsucc, hkk.out]; omega
      have hq0 : cur[j * 2]? = some (.string (x.1)) := hcur 0 (by decide)
      have hq1 : cur[j * 2 + 1]? = some (.int .i64 (x.2.1)) := hcur 1 (by decide)
      have HQ : Hid (cur[j * 2]? = some (.string (x.1)) ∧ cur[j * 2 + 1]? = some (.int .i64 (x.2.1)) ∧ True) := ⟨hq0, hq1, trivial⟩
      have qc0 : Hid (∀ w' : World, Calls Tryz.prog 45 #[.int .i64 ((kk : Int))] w' fun e w'' => e = .returned (.string (mtext (kk))) ∧ Below w'.heap.size w' w'') := fun w' => by
        have e : (((kk : Nat)) : Int) = (kk : Int) := by omega
        rw [← e]
        exact markText_any (kk) w' (by omega) (by omega)
      obtain ⟨T0, hT0⟩ : ∃ T, T = mtext (kk) := ⟨_, rfl⟩
      have HT0 : Hid (T0 = mtext (kk)) := hT0
      rw [← hT0] at qc0
      clear hT0
      have HGN : Hid (True) := trivial
      have HMS : Hid (List.set (mkTo shLink d k j) j (shLink.mk x kk) = mkTo shLink d k (j + 1)) := hms
      have HCL : Hid (∀ (w2 : World) (c' : List Value) (x' : shLink.D), Own shLink w2 B c' x' ([]) → w2.heap[g]? = some (.cells (setRow cur.toList (j * shLink.size) c').toArray t (0, 0)) → (∀ y ∈ F, y ≠ g → y ∉ [] → w2.heap[y]? = wr.heap[y]?) → Own (.sl shLink) w2 B [.slice (some ⟨g, 0, none⟩) n cap] (List.set (mkTo shLink d k j) j x') F) := hclose
      obtain ⟨uwr_0, ywr_0⟩ : ∃ u, wr.cell? ⟨g, j * 2, none⟩ = some u := ⟨_, box_cell hh (by exact HQ.out.1)⟩
      have yfwr_0 : wr.frozen? ⟨g, j * 2, none⟩ = false := box_frozen hh
      obtain ⟨uwr_1, ywr_1⟩ : ∃ u, wr.cell? ⟨g, j * 2 + 1, none⟩ = some u := ⟨_, box_cell hh (by exact HQ.out.2.1)⟩
      have yfwr_1 : wr.frozen? ⟨g, j * 2 + 1, none⟩ = false := box_frozen hh
      clear hms hclose hcur hsucc hle hx hxd hoe hgf hq0 hq1
      go_wp2_with fail
      refine (qc0.out _).mono ?_
      rintro e w0 ⟨rfl, hb0⟩
      have tb0 : Touch wr w0 F := Touch.of_below hb0 F
      have hhw0 : w0.heap[g]? = some (.cells (cur) t (0, 0)) := (hb0.block g (lt_heap hh)).trans hh
      have rw0 : Hid (∀ y ∈ F, y ≠ g → y ∉ [] → w0.heap[y]? = wr.heap[y]?) := fun y hy hyg hyf => (hb0.block y (Nat.lt_of_lt_of_le (ho.out.lt y hy).2 (Nat.le_refl _))).trans (rfl)
      have zw0 : wr.heap.size ≤ w0.heap.size := Nat.le_trans (Nat.le_refl _) hb0.size
      have tw0 : Touch w w0 F := ht.trans tb0
      obtain ⟨uw0_0, yw0_0⟩ : ∃ u, w0.cell? ⟨g, j * 2, none⟩ = some u := ⟨_, box_cell hhw0 (by exact HQ.out.1)⟩
      have yfw0_0 : w0.frozen? ⟨g, j * 2, none⟩ = false := box_frozen hhw0
      obtain ⟨uw0_1, yw0_1⟩ : ∃ u, w0.cell? ⟨g, j * 2 + 1, none⟩ = some u := ⟨_, box_cell hhw0 (by exact HQ.out.2.1)⟩
      have yfw0_1 : w0.frozen? ⟨g, j * 2 + 1, none⟩ = false := box_frozen hhw0
      have hfin : Own (.sl shLink) (((w0).setCell ⟨g, j * 2, none⟩ (.string T0)).setCell ⟨g, j * 2 + 1, none⟩ (.int .i64 ((kk : Int) + 1))) B [.slice (some ⟨g, 0, none⟩) n cap] (mkTo shLink d k (j + 1)) F := by
        rw [← HMS.out]
        have l0 : Value.string T0 = Value.string (mtext (kk)) := by rw [HT0.out]
        have l1 : Value.int .i64 ((kk : Int) + 1) = Value.int .i64 (((kk + 1 : Nat)) : Int) := by congr 1 <;> omega
        refine HCL.out _ [.string T0, .int .i64 ((kk : Int) + 1)] _ ?_ ?_ ?_
        · have hb : Own shLink (((w0).setCell ⟨g, j * 2, none⟩ (.string T0)).setCell ⟨g, j * 2 + 1, none⟩ (.int .i64 ((kk : Int) + 1))) B [.string (mtext (kk)), .int .i64 (((kk + 1 : Nat)) : Int)] (shLink.mk x kk) ([]) := own_Link (w := ((w0).setCell ⟨g, j * 2, none⟩ (.string T0)).setCell ⟨g, j * 2 + 1, none⟩ (.int .i64 ((kk : Int) + 1))) (B := B) (d := shLink.mk x kk) (mtext_le _)
          rw [l0, l1]
          exact hb
        · rw [show (((w0).setCell ⟨g, j * 2, none⟩ (.string T0)).setCell ⟨g, j * 2 + 1, none⟩ (.int .i64 ((kk : Int) + 1))).heap[g]? = some (.cells (((cur).setIfInBounds (j * 2) (.string T0)).setIfInBounds (j * 2 + 1) (.int .i64 ((kk : Int) + 1))) t (0, 0)) from box_set (j := j * 2 + 1) (.int .i64 ((kk : Int) + 1)) (box_set (j := j * 2) (.string T0) (hhw0))]
          congr 2
          apply Array.ext'
          simp only [Array.toList_setIfInBounds]
          show _ = setRow cur.toList (j * 2) [.string T0, .int .i64 ((kk : Int) + 1)]
          rw [setRow]
          rw [setRow]
          all_goals (first | rfl | (rw [setRow]; all_goals rfl))
        · intro y hy hyg hyf; exact ((box_other _ hyg).trans ((box_other _ hyg).trans (rw0.out y hy hyg hyf)))
      have HFIN : Hid (Own (.sl shLink) (((w0).setCell ⟨g, j * 2, none⟩ (.string T0)).setCell ⟨g, j * 2 + 1, none⟩ (.int .i64 ((kk : Int) + 1))) B [.slice (some ⟨g, 0, none⟩) n cap] (mkTo shLink d k (j + 1)) F ∧ Touch w (((w0).setCell ⟨g, j * 2, none⟩ (.string T0)).setCell ⟨g, j * 2 + 1, none⟩ (.int .i64 ((kk : Int) + 1))) F) := ⟨hfin, ((tw0.trans (Touch.set _ g _ _ hgF)).trans (Touch.set _ g _ _ hgF))⟩
      clear hfin tw0 hhw0 
      go_wp2
      go_roundw
      case rel => exact ⟨j + 1, kk + (1 + 1), by omega, by congr 1 <;> omega, by go_num, HK.out, by omega, HFIN.out.1, HFIN.out.2⟩
      case measure => simp [intOf]; omega
    · have e : j = n := by omega
      subst e
      have hfin : Own (.sl shLink) wr B [.slice a j cap] (Sh.mk (.sl shLink) d k) F := (congrArg (fun z => Own (.sl shLink) wr B [.slice a j cap] z F) (mkTo_all shLink d k j (Nat.le_of_eq HL.out.1))).mp ho.out
      have hke : kk = k + C := by rw [hkk.out, HL.out.2, cntTo_all shLink d j (Nat.le_of_eq HL.out.1)]
      have HH : Hid (Own (.sl shLink) wr B [.slice a j cap] (Sh.mk (.sl shLink) d k) F ∧ kk = k + C) := ⟨hfin, hke⟩
      clear hfin ho hke hkk
      go_wp2
      go_ret
      exact ⟨by rw [← HH.out.2]; rfl, HH.out.1, ht⟩

end Go.Proofs.YtkfmpfbhhmmllaaGreat

/- MkNode: The marks of the type Node. By program (mkgen.py). -/
namespace Go.Proofs.YtkfmpfbhhmmllaaGreat
open Go.RowKit
set_option linter.unusedVariables false

theorem openO_Node {w : World} {B : Nat} {cs : List Value} {d : shNode.D} {F : List Nat} (h : Own shNode w B cs d F) :
    ∃ a1 n1 c1 F1 a2 n2 c2 F2, cs = [.int .i64 (d.1), .slice a1 n1 c1, .slice a2 n2 c2] ∧ F = F1 ++ (F2 ++ ([])) ∧ Own (.sl .u8) w B [.slice a1 n1 c1] d.2.1 F1 ∧ Own (.sl .u8) w B [.slice a2 n2 c2] d.2.2.1 F2 := by
  obtain ⟨_, _, G0, _, rfl, rfl, h0, _, _, G1, _, rfl, rfl, h1, _, _, G2, _, rfl, rfl, h2, hE⟩ := h
  obtain ⟨rfl, rfl⟩ := h0
  obtain ⟨rfl, rfl⟩ := hE
  have g1 := Own.reads (s := (.sl .u8)) h1
  obtain ⟨a1, c1, e1, _⟩ := g1
  subst e1
  have g2 := Own.reads (s := (.sl .u8)) h2
  obtain ⟨a2, c2, e2, _⟩ := g2
  subst e2
  exact ⟨a1, _, c1, G1, a2, _, c2, G2, rfl, by simp, h1, h2⟩

theorem cnt_Node (d : shNode.D) : shNode.cnt d = 1 + Sh.cnt (.sl .u8) d.2.1 + Sh.cnt (.sl .u8) d.2.2.1 := by
  show 1 + (Sh.cnt (.sl .u8) d.2.1 + (Sh.cnt (.sl .u8) d.2.2.1 + (0))) = _
  omega

set_option maxRecDepth 100000 in
set_option maxHeartbeats 2000000 in
theorem markNodeS_own (a : Option Addr) (n cap B k : Nat) (d : List shNode.D) (F : List Nat) (w : World) (ho : Own (.sl shNode) w B [.slice a n cap] d F) (hnd : F.Nodup) (hk0 : 1 ≤ k) (hk : k + Sh.cnt (.sl shNode) d ≤ 1000000000000) :
    Calls Tryz.prog 42 #[.slice a n cap, .int .i64 k] w fun e w' => e = .returned (.int .i64 ((k + Sh.cnt (.sl shNode) d : Nat) : Int)) ∧ Own (.sl shNode) w' B [.slice a n cap] (Sh.mk (.sl shNode) d k) F ∧ Touch w w' F := by
  obtain ⟨hl, hm, hg⟩ := own_len ho
  obtain ⟨C, hC⟩ : ∃ C, C = Sh.cnt (.sl shNode) d := ⟨_, rfl⟩
  rw [← hC] at hk ⊢
  have HO : Hid (Own (.sl shNode) w B [.slice a n cap] d F ∧ F.Nodup) := ⟨ho, hnd⟩
  have HL : Hid (d.length = n ∧ C = Sh.cnt (.sl shNode) d) := ⟨hl, hC⟩
  clear ho hnd hl hC
  unfold maxLen at hm
  go_enter Tryz.func42, Tryz.ntmps42
  go_wp2
  go_loopw [1, 5] (fun m i wr => ∃ j kk : Nat, j ≤ n ∧ m = .int .i64 (kk : Int) ∧ i = .int .i64 j ∧ Hid (kk = k + cntTo shNode d j) ∧ 1 ≤ kk ∧ Hid (Own (.sl shNode) wr B [.slice a n cap] (mkTo shNode d k j) F) ∧ Touch w wr F) (fun _ i _ => n - (intOf i).toNat)
  case atStart => exact ⟨0, k, Nat.zero_le _, rfl, rfl, by show k = _; rw [cntTo_zero]; rfl, hk0, by show Own _ _ _ _ _ _; rw [mkTo_zero]; exact HO.out.1, Touch.refl _ _⟩
  case round =>
    obtain ⟨j, kk, hj, rfl, rfl, hkk, hkk1, ho, ht⟩ := hrel
    by_cases hlt : j < n
    · obtain ⟨g, rfl⟩ := hg.resolve_left (by omega)
      obtain ⟨t, cur, c, x, f, hh, hx, hoe, hnf, hgf, hfF, hgF, hBg, hcur, hclose⟩ := own_elem ho.out HO.out.2 j hlt
      have hxd : shNode.at d j = some x := by
        have h1 : j < d.length := by rw [HL.out.1]; exact hlt
        have h2 : shNode.at d j = some d[j] := List.getElem?_eq_getElem h1
        have h3 := mkTo_at shNode d k j _ h2
        rw [h2, ← h3]; exact hx
      have hsucc := cntTo_succ shNode d j x hxd
      have hle := cntTo_le shNode d (j + 1)
      have hms := mkTo_set shNode d k j x hxd
      rw [← hkk.out] at hms
      rw [cnt_Node] at hsucc
      obtain ⟨a1, n1, c1, F1, a2, n2, c2, F2, rfl, rfl, o1, o2⟩ := openO_Node hoe
      obtain ⟨C1, hC1⟩ : ∃ C, C = Sh.cnt (.sl .u8) x.2.1 := ⟨_, rfl⟩
      obtain ⟨C2, hC2⟩ : ∃ C, C = Sh.cnt (.sl .u8) x.2.2.1 := ⟨_, rfl⟩
      rw [← hC1, ← hC2] at hsucc
      have hkn : kk + (1 + C1 + C2) ≤ 1000000000000 := by have h1 := hkk.out; have h2 := HL.out.2; rw [← h2] at hle; omega
      have HK : Hid (kk + (1 + C1 + C2) = k + cntTo shNode d (j + 1)) := by show _ = _; rw [hsucc, hkk.out]; omega
      have hq0 : cur[j * 3]? = some (.int .i64 (x.1)) := hcur 0 (by decide)
      have hq1 : cur[j * 3 + 1]? = some (.slice a1 n1 c1) := hcur 1 (by decide)
      have hq2 : cur[j * 3 + 2]? = some (.slice a2 n2 c2) := hcur 2 (by decide)
      have HQ : Hid (cur[j * 3]? = some (.int .i64 (x.1)) ∧ cur[j * 3 + 1]? = some (.slice a1 n1 c1) ∧ cur[j * 3 + 2]? = some (.slice a2 n2 c2) ∧ True) := ⟨hq0, hq1, hq2, trivial⟩
      obtain ⟨k1, hk1⟩ : ∃ k' : Nat, k' = kk + 1 + C1 := ⟨_, rfl⟩
      have qc1 : Hid (∀ w' : World, Own (.sl .u8) w' B [.slice a1 n1 c1] x.2.1 F1 → Calls Tryz.prog 82 #[.slice a1 n1 c1, .int .i64 ((kk : Int) + 1)] w' fun e w'' => e = .returned (.int .i64 (k1 : Int)) ∧ Own (.sl .u8) w'' B [.slice a1 n1 c1] (Sh.mk (.sl .u8) x.2.1 (kk + 1)) F1 ∧ Touch w' w'' F1) := fun w' h' => by
        have e : (((kk + 1 : Nat)) : Int) = (kk : Int) + 1 := by omega
        rw [← e, hk1, hC1]
        exact markByteS_own a1 n1 c1 B (kk + 1) _ F1 w' h' ((List.nodup_append.1 hnf).1) (by rw [← hC1]; omega)
      have hkb1 : k1 = kk + 1 + C1 := hk1
      have HK1 : Hid (k1 = kk + 1 + C1) := hk1
      have HC1 : Hid (C1 = Sh.cnt (.sl .u8) x.2.1) := hC1
      obtain ⟨k2, hk2⟩ : ∃ k' : Nat, k' = (k1) + C2 := ⟨_, rfl⟩
      have qc2 : Hid (∀ w' : World, Own (.sl .u8) w' B [.slice a2 n2 c2] x.2.2.1 F2 → Calls Tryz.prog 82 #[.slice a2 n2 c2, .int .i64 ((k1 : Int))] w' fun e w'' => e = .returned (.int .i64 (k2 : Int)) ∧ Own (.sl .u8) w'' B [.slice a2 n2 c2] (Sh.mk (.sl .u8) x.2.2.1 ((k1))) F2 ∧ Touch w' w'' F2) := fun w' h' => by
        have e : ((((k1) : Nat)) : Int) = (k1 : Int) := by omega
        rw [← e, hk2, hC2]
        exact markByteS_own a2 n2 c2 B ((k1)) _ F2 w' h' ((List.nodup_append.1 (List.nodup_append.1 hnf).2.1).1) (by rw [← hC2]; omega)
      have hkb2 : k2 = (k1) + C2 := hk2
      have HK2 : Hid (k2 = (k1) + C2) := hk2
      have HC2 : Hid (C2 = Sh.cnt (.sl .u8) x.2.2.1) := hC2
      have HGN : Hid (g ∉ F1 ∧ g ∉ F2 ∧ True) := ⟨fun h => hgf (List.mem_append_left _ h), fun h => hgf (List.mem_append_right _ (List.mem_append_left _ h)), trivial⟩
      have HMS : Hid (List.set (mkTo shNode d k j) j (shNode.mk x kk) = mkTo shNode d k (j + 1)) := hms
      have HCL : Hid (∀ (w2 : World) (c' : List Value) (x' : shNode.D), Own shNode w2 B c' x' (F1 ++ (F2 ++ ([]))) → w2.heap[g]? = some (.cells (setRow cur.toList (j * shNode.size) c').toArray t (0, 0)) → (∀ y ∈ F, y ≠ g → y ∉ F1 ++ (F2 ++ ([])) → w2.heap[y]? = wr.heap[y]?) → Own (.sl shNode) w2 B [.slice (some ⟨g, 0, none⟩) n cap] (List.set (mkTo shNode d k j) j x') F) := hclose
      obtain ⟨uwr_0, ywr_0⟩ : ∃ u, wr.cell? ⟨g, j * 3, none⟩ = some u := ⟨_, box_cell hh (by exact HQ.out.1)⟩
      have yfwr_0 : wr.frozen? ⟨g, j * 3, none⟩ = false := box_frozen hh
      have ywr_1 : wr.cell? ⟨g, j * 3 + 1, none⟩ = some (.slice a1 n1 c1) := box_cell hh (by exact HQ.out.2.1)
      have ywr_2 : wr.cell? ⟨g, j * 3 + 2, none⟩ = some (.slice a2 n2 c2) := box_cell hh (by exact HQ.out.2.2.1)
      clear hms hclose hcur hsucc hle hx hxd hoe hgf hq0 hq1 hq2 hk1 hkb1 hC1 hk2 hkb2 hC2
      go_wp2_with fail
      obtain ⟨W1, hW1⟩ : ∃ W, W = (wr).setCell ⟨g, j * 3, none⟩ (.int .i64 ((kk : Int))) := ⟨_, rfl⟩
      have hhW1 : W1.heap[g]? = some (.cells ((cur).setIfInBounds (j * 3) (.int .i64 ((kk : Int)))) t (0, 0)) := by rw [hW1]; exact box_set (j := j * 3) (.int .i64 ((kk : Int))) (hh)
      have pW1_1 : Own (.sl .u8) W1 B [.slice a1 n1 c1] (x.2.1) F1 := by rw [hW1]; exact o1.keep fun y hy => ((box_other _ (fun e => HGN.out.1 (by rw [← e]; exact hy))).trans rfl)
      have pW1_2 : Own (.sl .u8) W1 B [.slice a2 n2 c2] (x.2.2.1) F2 := by rw [hW1]; exact o2.keep fun y hy => ((box_other _ (fun e => HGN.out.2.1 (by rw [← e]; exact hy))).trans rfl)
      have tW1 : Touch w W1 F := by rw [hW1]; exact (ht.trans (Touch.set _ g _ _ hgF))
      have rW1 : Hid (∀ y ∈ F, y ≠ g → y ∉ F1 ++ (F2 ++ ([])) → W1.heap[y]? = wr.heap[y]?) := fun y hy hyg hyf => by rw [hW1]; exact ((box_other _ hyg).trans rfl)
      have zW1 : wr.heap.size ≤ W1.heap.size := by rw [hW1]; simp
      rw [← hW1]
      refine (qc1.out _ pW1_1).mono ?_
      rintro e w1 ⟨rfl, om1, tq1⟩
      have tb1 : Touch W1 w1 F := tq1.mono fun y hy => hfF y (List.mem_append_left _ hy)
      have hhw1 : w1.heap[g]? = some (.cells ((cur).setIfInBounds (j * 3) (.int .i64 ((kk : Int)))) t (0, 0)) := (tq1.block g (lt_heap hhW1) HGN.out.1).trans hhW1
      have pw1_1 := om1
      have pw1_2 := tq1.own pW1_2 (fun y hy hyq => (List.nodup_append.1 hnf).2.2 y hyq y (List.mem_append_left _ hy) rfl)
      have rw1 : Hid (∀ y ∈ F, y ≠ g → y ∉ F1 ++ (F2 ++ ([])) → w1.heap[y]? = wr.heap[y]?) := fun y hy hyg hyf => (tq1.block y (Nat.lt_of_lt_of_le (ho.out.lt y hy).2 zW1) (fun h => hyf (List.mem_append_left _ h))).trans ((rW1.out y hy hyg hyf))
      have zw1 : wr.heap.size ≤ w1.heap.size := Nat.le_trans zW1 tq1.size
      have tw1 : Touch w w1 F := tW1.trans tb1
      obtain ⟨uw1_0, yw1_0⟩ : ∃ u, w1.cell? ⟨g, j * 3, none⟩ = some u := ⟨_, box_cell hhw1 (by rw [Array.getElem?_setIfInBounds_self_of_lt (by first | exact (Array.getElem?_eq_some_iff.1 HQ.out.1).1 | (simp only [Array.size_setIfInBounds]; exact (Array.getElem?_eq_some_iff.1 HQ.out.1).1))])⟩
      have yfw1_0 : w1.frozen? ⟨g, j * 3, none⟩ = false := box_frozen hhw1
      have yw1_1 : w1.cell? ⟨g, j * 3 + 1, none⟩ = some (.slice a1 n1 c1) := box_cell hhw1 (by rw [Array.getElem?_setIfInBounds_ne (by omega)]; exact HQ.out.2.1)
      have yw1_2 : w1.cell? ⟨g, j * 3 + 2, none⟩ = some (.slice a2 n2 c2) := box_cell hhw1 (by rw [Array.getElem?_setIfInBounds_ne (by omega)]; exact HQ.out.2.2.1)
      go_wp2_with fail
      refine (qc2.out _ pw1_2).mono ?_
      rintro e w2 ⟨rfl, om2, tq2⟩
      have tb2 : Touch w1 w2 F := tq2.mono fun y hy => hfF y (List.mem_append_right _ (List.mem_append_left _ hy))
      have hhw2 : w2.heap[g]? = some (.cells ((cur).setIfInBounds (j * 3) (.int .i64 ((kk : Int)))) t (0, 0)) := (tq2.block g (lt_heap hhw1) HGN.out.2.1).trans hhw1
      have pw2_1 := tq2.own pw1_1 (fun y hy hyq => (List.nodup_append.1 hnf).2.2 y hy y (List.mem_append_left _ hyq) rfl)
      have pw2_2 := om2
      have rw2 : Hid (∀ y ∈ F, y ≠ g → y ∉ F1 ++ (F2 ++ ([])) → w2.heap[y]? = wr.heap[y]?) := fun y hy hyg hyf => (tq2.block y (Nat.lt_of_lt_of_le (ho.out.lt y hy).2 zw1) (fun h => hyf (List.mem_append_right _ (List.mem_append_left _ h)))).trans ((rw1.out y hy hyg hyf))
      have zw2 : wr.heap.size ≤ w2.heap.size := Nat.le_trans zw1 tq2.size
      have tw2 : Touch w w2 F := tw1.trans tb2
      obtain ⟨uw2_0, yw2_0⟩ : ∃ u, w2.cell? ⟨g, j * 3, none⟩ = some u := ⟨_, box_cell hhw2 (by rw [Array.getElem?_setIfInBounds_self_of_lt (by first | exact (Array.getElem?_eq_some_iff.1 HQ.out.1).1 | (simp only [Array.size_setIfInBounds]; exact (Array.getElem?_eq_some_iff.1 HQ.out.1).1))])⟩
      have yfw2_0 : w2.frozen? ⟨g, j * 3, none⟩ = false := box_frozen hhw2
      have yw2_1 : w2.cell? ⟨g, j * 3 + 1, none⟩ = some (.slice a1 n1 c1) := box_cell hhw2 (by rw [Array.getElem?_setIfInBounds_ne (by omega)]; exact HQ.out.2.1)
      have yw2_2 : w2.cell? ⟨g, j * 3 + 2, none⟩ = some (.slice a2 n2 c2) := box_cell hhw2 (by rw [Array.getElem?_setIfInBounds_ne (by omega)]; exact HQ.out.2.2.1)
      have hfin : Own (.sl shNode) (w2) B [.slice (some ⟨g, 0, none⟩) n cap] (mkTo shNode d k (j + 1)) F := by
        rw [← HMS.out]
        have v1 : Own (.sl .u8) (w2) B [.slice a1 n1 c1] (Sh.mk (.sl .u8) x.2.1 (kk + 1)) F1 := by
          have hv := pw2_1
          exact hv
        have v2 : Own (.sl .u8) (w2) B [.slice a2 n2 c2] (Sh.mk (.sl .u8) x.2.2.1 (kk + 1 + Sh.cnt (.sl .u8) x.2.1)) F2 := by
          have hv := pw2_2
          rw [HK1.out, HC1.out] at hv
          exact hv
        have l0 : Value.int .i64 ((kk : Int)) = Value.int .i64 (((kk : Nat)) : Int) := by have f1 := HK1.out; have g1 := HC1.out; have f2 := HK2.out; have g2 := HC2.out; congr 1 <;> omega
        refine HCL.out _ [.int .i64 ((kk : Int)), .slice a1 n1 c1, .slice a2 n2 c2] _ ?_ ?_ ?_
        · have hb : Own shNode (w2) B [.int .i64 (((kk : Nat)) : Int), .slice a1 n1 c1, .slice a2 n2 c2] (shNode.mk x kk) (F1 ++ (F2 ++ ([]))) := own_Node (w := w2) (B := B) (d := shNode.mk x kk) v1 v2
          rw [l0]
          exact hb
        · rw [show (w2).heap[g]? = some (.cells ((cur).setIfInBounds (j * 3) (.int .i64 ((kk : Int)))) t (0, 0)) from hhw2]
          congr 2
          apply Array.ext'
          simp only [Array.toList_setIfInBounds]
          show _ = setRow cur.toList (j * 3) [.int .i64 ((kk : Int)), .slice a1 n1 c1, .slice a2 n2 c2]
          rw [setRow]
          rw [setRow_skip (by rw [List.getElem?_set_ne (by omega)]; exact (Array.getElem?_toList).trans HQ.out.2.1)]
          rw [setRow_skip (by rw [List.getElem?_set_ne (by omega)]; exact (Array.getElem?_toList).trans HQ.out.2.2.1)]
          all_goals (first | rfl | (rw [setRow]; all_goals rfl))
        · intro y hy hyg hyf; exact (rw2.out y hy hyg hyf)
      have HFIN : Hid (Own (.sl shNode) (w2) B [.slice (some ⟨g, 0, none⟩) n cap] (mkTo shNode d k (j + 1)) F ∧ Touch w (w2) F) := ⟨hfin, tw2⟩
      clear hfin tw2 hhw2 pw2_1 pw2_2
      go_wp2
      go_roundw
      case rel => exact ⟨j + 1, kk + (1 + C1 + C2), by omega, by have f1 := HK1.out; have f2 := HK2.out; congr 1 <;> omega, by go_num, HK.out, by omega, HFIN.out.1, HFIN.out.2⟩
      case measure => simp [intOf]; omega
    · have e : j = n := by omega
      subst e
      have hfin : Own (.sl shNode) wr B [.slice a j cap] (Sh.mk (.sl shNode) d k) F := (congrArg (fun z => Own (.sl shNode) wr B [.slice a j cap] z F) (mkTo_all shNode d k j (Nat.le_of_eq HL.out.1))).mp ho.out
      have hke : kk = k + C := by rw [hkk.out, HL.out.2, cntTo_all shNode d j (Nat.le_of_eq HL.out.1)]
      have HH : Hid (Own (.sl shNode) wr B [.slice a j cap] (Sh.mk (.sl shNode) d k) F ∧ kk = k + C) := ⟨hfin, hke⟩
      clear hfin ho hke hkk
      go_wp2
      go_ret
      exact ⟨by rw [← HH.out.2]; rfl, HH.out.1, ht⟩

end Go.Proofs.YtkfmpfbhhmmllaaGreat

/- MkTurn: The marks of the type Turn. By program (mkgen.py). -/
namespace Go.Proofs.YtkfmpfbhhmmllaaGreat
open Go.RowKit
set_option linter.unusedVariables false

theorem openO_Turn {w : World} {B : Nat} {cs : List Value} {d : shTurn.D} {F : List Nat} (h : Own shTurn w B cs d F) :
    cs = [.int .i64 (d.1), .string (d.2.1), .string (d.2.2.1), .int .i64 (d.2.2.2.1)] ∧ F = [] := by
  obtain ⟨_, _, G0, _, rfl, rfl, h0, _, _, G1, _, rfl, rfl, h1, _, _, G2, _, rfl, rfl, h2, _, _, G3, _, rfl, rfl, h3, hE⟩ := h
  obtain ⟨rfl, rfl⟩ := h0
  obtain ⟨⟨rfl, _⟩, rfl⟩ := h1
  obtain ⟨⟨rfl, _⟩, rfl⟩ := h2
  obtain ⟨rfl, rfl⟩ := h3
  obtain ⟨rfl, rfl⟩ := hE
  exact ⟨rfl, by simp⟩

theorem cnt_Turn (d : shTurn.D) : shTurn.cnt d = 1 + 1 + 1 + 1 := by
  show 1 + (1 + (1 + (1 + (0)))) = _
  omega

set_option maxRecDepth 100000 in
set_option maxHeartbeats 2000000 in
theorem markTurnS_own (a : Option Addr) (n cap B k : Nat) (d : List shTurn.D) (F : List Nat) (w : World) (ho : Own (.sl shTurn) w B [.slice a n cap] d F) (hnd : F.Nodup) (hk0 : 1 ≤ k) (hk : k + Sh.cnt (.sl shTurn) d ≤ 1000000000000) :
    Calls Tryz.prog 44 #[.slice a n cap, .int .i64 k] w fun e w' => e = .returned (.int .i64 ((k + Sh.cnt (.sl shTurn) d : Nat) : Int)) ∧ Own (.sl shTurn) w' B [.slice a n cap] (Sh.mk (.sl shTurn) d k) F ∧ Touch w w' F := by
  obtain ⟨hl, hm, hg⟩ := own_len ho
  obtain ⟨C, hC⟩ : ∃ C, C = Sh.cnt (.sl shTurn) d := ⟨_, rfl⟩
  rw [← hC] at hk ⊢
  have HO : Hid (Own (.sl shTurn) w B [.slice a n cap] d F ∧ F.Nodup) := ⟨ho, hnd⟩
  have HL : Hid (d.length = n ∧ C = Sh.cnt (.sl shTurn) d) := ⟨hl, hC⟩
  clear ho hnd hl hC
  unfold maxLen at hm
  go_enter Tryz.func44, Tryz.ntmps44
  go_wp2
  go_loopw [1, 5] (fun m i wr => ∃ j kk : Nat, j ≤ n ∧ m = .int .i64 (kk : Int) ∧ i = .int .i64 j ∧ Hid (kk = k + cntTo shTurn d j) ∧ 1 ≤ kk ∧ Hid (Own (.sl shTurn) wr B [.slice a n cap] (mkTo shTurn d k j) F) ∧ Touch w wr F) (fun _ i _ => n - (intOf i).toNat)
  case atStart => exact ⟨0, k, Nat.zero_le _, rfl, rfl, by show k = _; rw [cntTo_zero]; rfl, hk0, by show Own _ _ _ _ _ _; rw [mkTo_zero]; exact HO.out.1, Touch.refl _ _⟩
  case round =>
    obtain ⟨j, kk, hj, rfl, rfl, hkk, hkk1, ho, ht⟩ := hrel
    by_cases hlt : j < n
    · obtain ⟨g, rfl⟩ := hg.resolve_left (by omega)
      obtain ⟨t, cur, c, x, f, hh, hx, hoe, hnf, hgf, hfF, hgF, hBg, hcur, hclose⟩ := own_elem ho.out HO.out.2 j hlt
      have hxd : shTurn.at d j = some x := by
        have h1 : j < d.length := by rw [HL.out.1]; exact hlt
        have h2 : shTurn.at d j = some d[j] := List.getElem?_eq_getElem h1
        have h3 := mkTo_at shTurn d k j _ h2
        rw [h2, ← h3]; exact hx
      have hsucc := cntTo_succ shTurn d j x hxd
      have hle := cntTo_le shTurn d (j + 1)
      have hms := mkTo_set shTurn d k j x hxd
      rw [← hkk.out] at hms
      rw [cnt_Turn] at hsucc
      obtain ⟨rfl, rfl⟩ := openO_Turn hoe
      have hkn : kk + (1 + 1 + 1 + 1) ≤ 1000000000000 := by have h1 := hkk.out; have h2 := HL.out.2; rw [← h2] at hle; omega
      have HK : Hid (kk + (1 + 1 + 1 + 1) = k + cntTo shTurn d (j + 1)) := by show _ = _; rw [hsucc, hkk.out]; omega
      have hq0 : cur[j * 4]? = some (.int .i64 (x.1)) := hcur 0 (by decide)
      have hq1 : cur[j * 4 + 1]? = some (.string (x.2.1)) := hcur 1 (by decide)
      have hq2 : cur[j * 4 + 2]? = some (.string (x.2.2.1)) := hcur 2 (by decide)
      have hq3 : cur[j * 4 + 3]? = some (.int .i64 (x.2.2.2.1)) := hcur 3 (by decide)
      have HQ : Hid (cur[j * 4]? = some (.int .i64 (x.1)) ∧ cur[j * 4 + 1]? = some (.string (x.2.1)) ∧ cur[j * 4 + 2]? = some (.string (x.2.2.1)) ∧ cur[j * 4 + 3]? = some (.int .i64 (x.2.2.2.1)) ∧ True) := ⟨hq0, hq1, hq2, hq3, trivial⟩
      have qc1 : Hid (∀ w' : World, Calls Tryz.prog 45 #[.int .i64 ((kk : Int) + 1)] w' fun e w'' => e = .returned (.string (mtext (kk + 1))) ∧ Below w'.heap.size w' w'') := fun w' => by
        have e : (((kk + 1 : Nat)) : Int) = (kk : Int) + 1 := by omega
        rw [← e]
        exact markText_any (kk + 1) w' (by omega) (by omega)
      obtain ⟨T1, hT1⟩ : ∃ T, T = mtext (kk + 1) := ⟨_, rfl⟩
      have HT1 : Hid (T1 = mtext (kk + 1)) := hT1
      rw [← hT1] at qc1
      clear hT1
      have qc2 : Hid (∀ w' : World, Calls Tryz.prog 45 #[.int .i64 ((kk : Int) + 1 + 1)] w' fun e w'' => e = .returned (.string (mtext (kk + 1 + 1))) ∧ Below w'.heap.size w' w'') := fun w' => by
        have e : (((kk + 1 + 1 : Nat)) : Int) = (kk : Int) + 1 + 1 := by omega
        rw [← e]
        exact markText_any (kk + 1 + 1) w' (by omega) (by omega)
      obtain ⟨T2, hT2⟩ : ∃ T, T = mtext (kk + 1 + 1) := ⟨_, rfl⟩
      have HT2 : Hid (T2 = mtext (kk + 1 + 1)) := hT2
      rw [← hT2] at qc2
      clear hT2
      have HGN : Hid (True) := trivial
      have HMS : Hid (List.set (mkTo shTurn d k j) j (shTurn.mk x kk) = mkTo shTurn d k (j + 1)) := hms
      have HCL : Hid (∀ (w2 : World) (c' : List Value) (x' : shTurn.D), Own shTurn w2 B c' x' ([]) → w2.heap[g]? = some (.cells (setRow cur.toList (j * shTurn.size) c').toArray t (0, 0)) → (∀ y ∈ F, y ≠ g → y ∉ [] → w2.heap[y]? = wr.heap[y]?) → Own (.sl shTurn) w2 B [.slice (some ⟨g, 0, none⟩) n cap] (List.set (mkTo shTurn d k j) j x') F) := hclose
      obtain ⟨uwr_0, ywr_0⟩ : ∃ u, wr.cell? ⟨g, j * 4, none⟩ = some u := ⟨_, box_cell hh (by exact HQ.out.1)⟩
      have yfwr_0 : wr.frozen? ⟨g, j * 4, none⟩ = false := box_frozen hh
      obtain ⟨uwr_1, ywr_1⟩ : ∃ u, wr.cell? ⟨g, j * 4 + 1, none⟩ = some u := ⟨_, box_cell hh (by exact HQ.out.2.1)⟩
      have yfwr_1 : wr.frozen? ⟨g, j * 4 + 1, none⟩ = false := box_frozen hh
      obtain ⟨uwr_2, ywr_2⟩ : ∃ u, wr.cell? ⟨g, j * 4 + 2, none⟩ = some u := ⟨_, box_cell hh (by exact HQ.out.2.2.1)⟩
      have yfwr_2 : wr.frozen? ⟨g, j * 4 + 2, none⟩ = false := box_frozen hh
      obtain ⟨uwr_3, ywr_3⟩ : ∃ u, wr.cell? ⟨g, j * 4 + 3, none⟩ = some u := ⟨_, box_cell hh (by exact HQ.out.2.2.2.1)⟩
      have yfwr_3 : wr.frozen? ⟨g, j * 4 + 3, none⟩ = false := box_frozen hh
      clear hms hclose hcur hsucc hle hx hxd hoe hgf hq0 hq1 hq2 hq3
      go_wp2_with fail
      obtain ⟨W1, hW1⟩ : ∃ W, W = (wr).setCell ⟨g, j * 4, none⟩ (.int .i64 ((kk : Int))) := ⟨_, rfl⟩
      have hhW1 : W1.heap[g]? = some (.cells ((cur).setIfInBounds (j * 4) (.int .i64 ((kk : Int)))) t (0, 0)) := by rw [hW1]; exact box_set (j := j * 4) (.int .i64 ((kk : Int))) (hh)
      have tW1 : Touch w W1 F := by rw [hW1]; exact (ht.trans (Touch.set _ g _ _ hgF))
      have rW1 : Hid (∀ y ∈ F, y ≠ g → y ∉ [] → W1.heap[y]? = wr.heap[y]?) := fun y hy hyg hyf => by rw [hW1]; exact ((box_other _ hyg).trans rfl)
      have zW1 : wr.heap.size ≤ W1.heap.size := by rw [hW1]; simp
      rw [← hW1]
      refine (qc1.out _).mono ?_
      rintro e w1 ⟨rfl, hb1⟩
      have tb1 : Touch W1 w1 F := Touch.of_below hb1 F
      have hhw1 : w1.heap[g]? = some (.cells ((cur).setIfInBounds (j * 4) (.int .i64 ((kk : Int)))) t (0, 0)) := (hb1.block g (lt_heap hhW1)).trans hhW1
      have rw1 : Hid (∀ y ∈ F, y ≠ g → y ∉ [] → w1.heap[y]? = wr.heap[y]?) := fun y hy hyg hyf => (hb1.block y (Nat.lt_of_lt_of_le (ho.out.lt y hy).2 zW1)).trans ((rW1.out y hy hyg hyf))
      have zw1 : wr.heap.size ≤ w1.heap.size := Nat.le_trans zW1 hb1.size
      have tw1 : Touch w w1 F := tW1.trans tb1
      obtain ⟨uw1_0, yw1_0⟩ : ∃ u, w1.cell? ⟨g, j * 4, none⟩ = some u := ⟨_, box_cell hhw1 (by rw [Array.getElem?_setIfInBounds_self_of_lt (by first | exact (Array.getElem?_eq_some_iff.1 HQ.out.1).1 | (simp only [Array.size_setIfInBounds]; exact (Array.getElem?_eq_some_iff.1 HQ.out.1).1))])⟩
      have yfw1_0 : w1.frozen? ⟨g, j * 4, none⟩ = false := box_frozen hhw1
      obtain ⟨uw1_1, yw1_1⟩ : ∃ u, w1.cell? ⟨g, j * 4 + 1, none⟩ = some u := ⟨_, box_cell hhw1 (by rw [Array.getElem?_setIfInBounds_ne (by omega)]; exact HQ.out.2.1)⟩
      have yfw1_1 : w1.frozen? ⟨g, j * 4 + 1, none⟩ = false := box_frozen hhw1
      obtain ⟨uw1_2, yw1_2⟩ : ∃ u, w1.cell? ⟨g, j * 4 + 2, none⟩ = some u := ⟨_, box_cell hhw1 (by rw [Array.getElem?_setIfInBounds_ne (by omega)]; exact HQ.out.2.2.1)⟩
      have yfw1_2 : w1.frozen? ⟨g, j * 4 + 2, none⟩ = false := box_frozen hhw1
      obtain ⟨uw1_3, yw1_3⟩ : ∃ u, w1.cell? ⟨g, j * 4 + 3, none⟩ = some u := ⟨_, box_cell hhw1 (by rw [Array.getElem?_setIfInBounds_ne (by omega)]; exact HQ.out.2.2.2.1)⟩
      have yfw1_3 : w1.frozen? ⟨g, j * 4 + 3, none⟩ = false := box_frozen hhw1
      go_wp2_with fail
      obtain ⟨W2, hW2⟩ : ∃ W, W = (w1).setCell ⟨g, j * 4 + 1, none⟩ (.string T1) := ⟨_, rfl⟩
      have hhW2 : W2.heap[g]? = some (.cells (((cur).setIfInBounds (j * 4) (.int .i64 ((kk : Int)))).setIfInBounds (j * 4 + 1) (.string T1)) t (0, 0)) := by rw [hW2]; exact box_set (j := j * 4 + 1) (.string T1) (hhw1)
      have tW2 : Touch w W2 F := by rw [hW2]; exact (tw1.trans (Touch.set _ g _ _ hgF))
      have rW2 : Hid (∀ y ∈ F, y ≠ g → y ∉ [] → W2.heap[y]? = wr.heap[y]?) := fun y hy hyg hyf => by rw [hW2]; exact ((box_other _ hyg).trans (rw1.out y hy hyg hyf))
      have zW2 : wr.heap.size ≤ W2.heap.size := by rw [hW2]; simp; omega
      rw [← hW2]
      refine (qc2.out _).mono ?_
      rintro e w2 ⟨rfl, hb2⟩
      have tb2 : Touch W2 w2 F := Touch.of_below hb2 F
      have hhw2 : w2.heap[g]? = some (.cells (((cur).setIfInBounds (j * 4) (.int .i64 ((kk : Int)))).setIfInBounds (j * 4 + 1) (.string T1)) t (0, 0)) := (hb2.block g (lt_heap hhW2)).trans hhW2
      have rw2 : Hid (∀ y ∈ F, y ≠ g → y ∉ [] → w2.heap[y]? = wr.heap[y]?) := fun y hy hyg hyf => (hb2.block y (Nat.lt_of_lt_of_le (ho.out.lt y hy).2 zW2)).trans ((rW2.out y hy hyg hyf))
      have zw2 : wr.heap.size ≤ w2.heap.size := Nat.le_trans zW2 hb2.size
      have tw2 : Touch w w2 F := tW2.trans tb2
      obtain ⟨uw2_0, yw2_0⟩ : ∃ u, w2.cell? ⟨g, j * 4, none⟩ = some u := ⟨_, box_cell hhw2 (by rw [Array.getElem?_setIfInBounds_ne (by omega)]; rw [Array.getElem?_setIfInBounds_self_of_lt (by first | exact (Array.getElem?_eq_some_iff.1 HQ.out.1).1 | (simp only [Array.size_setIfInBounds]; exact (Array.getElem?_eq_some_iff.1 HQ.out.1).1))])⟩
      have yfw2_0 : w2.frozen? ⟨g, j * 4, none⟩ = false := box_frozen hhw2
      obtain ⟨uw2_1, yw2_1⟩ : ∃ u, w2.cell? ⟨g, j * 4 + 1, none⟩ = some u := ⟨_, box_cell hhw2 (by rw [Array.getElem?_setIfInBounds_self_of_lt (by first | exact (Array.getElem?_eq_some_iff.1 HQ.out.2.1).1 | (simp only [Array.size_setIfInBounds]; exact (Array.getElem?_eq_some_iff.1 HQ.out.2.1).1))])⟩
      have yfw2_1 : w2.frozen? ⟨g, j * 4 + 1, none⟩ = false := box_frozen hhw2
      obtain ⟨uw2_2, yw2_2⟩ : ∃ u, w2.cell? ⟨g, j * 4 + 2, none⟩ = some u := ⟨_, box_cell hhw2 (by rw [Array.getElem?_setIfInBounds_ne (by omega)]; rw [Array.getElem?_setIfInBounds_ne (by omega)]; exact HQ.out.2.2.1)⟩
      have yfw2_2 : w2.frozen? ⟨g, j * 4 + 2, none⟩ = false := box_frozen hhw2
      obtain ⟨uw2_3, yw2_3⟩ : ∃ u, w2.cell? ⟨g, j * 4 + 3, none⟩ = some u := ⟨_, box_cell hhw2 (by rw [Array.getElem?_setIfInBounds_ne (by omega)]; rw [Array.getElem?_setIfInBounds_ne (by omega)]; exact HQ.out.2.2.2.1)⟩
      have yfw2_3 : w2.frozen? ⟨g, j * 4 + 3, none⟩ = false := box_frozen hhw2
      have hfin : Own (.sl shTurn) (((w2).setCell ⟨g, j * 4 + 2, none⟩ (.string T2)).setCell ⟨g, j * 4 + 3, none⟩ (.int .i64 ((kk : Int) + 1 + 1 + 1))) B [.slice (some ⟨g, 0, none⟩) n cap] (mkTo shTurn d k (j + 1)) F := by
        rw [← HMS.out]
        have l0 : Value.int .i64 ((kk : Int)) = Value.int .i64 (((kk : Nat)) : Int) := by congr 1 <;> omega
        have l1 : Value.string T1 = Value.string (mtext (kk + 1)) := by rw [HT1.out]
        have l2 : Value.string T2 = Value.string (mtext (kk + 1 + 1)) := by rw [HT2.out]
        have l3 : Value.int .i64 ((kk : Int) + 1 + 1 + 1) = Value.int .i64 (((kk + 1 + 1 + 1 : Nat)) : Int) := by congr 1 <;> omega
        refine HCL.out _ [.int .i64 ((kk : Int)), .string T1, .string T2, .int .i64 ((kk : Int) + 1 + 1 + 1)] _ ?_ ?_ ?_
        · have hb : Own shTurn (((w2).setCell ⟨g, j * 4 + 2, none⟩ (.string T2)).setCell ⟨g, j * 4 + 3, none⟩ (.int .i64 ((kk : Int) + 1 + 1 + 1))) B [.int .i64 (((kk : Nat)) : Int), .string (mtext (kk + 1)), .string (mtext (kk + 1 + 1)), .int .i64 (((kk + 1 + 1 + 1 : Nat)) : Int)] (shTurn.mk x kk) ([]) := own_Turn (w := ((w2).setCell ⟨g, j * 4 + 2, none⟩ (.string T2)).setCell ⟨g, j * 4 + 3, none⟩ (.int .i64 ((kk : Int) + 1 + 1 + 1))) (B := B) (d := shTurn.mk x kk) (mtext_le _) (mtext_le _)
          rw [l0, l1, l2, l3]
          exact hb
        · rw [show (((w2).setCell ⟨g, j * 4 + 2, none⟩ (.string T2)).setCell ⟨g, j * 4 + 3, none⟩ (.int .i64 ((kk : Int) + 1 + 1 + 1))).heap[g]? = some (.cells (((((cur).setIfInBounds (j * 4) (.int .i64 ((kk : Int)))).setIfInBounds (j * 4 + 1) (.string T1)).setIfInBounds (j * 4 + 2) (.string T2)).setIfInBounds (j * 4 + 3) (.int .i64 ((kk : Int) + 1 + 1 + 1))) t (0, 0)) from box_set (j := j * 4 + 3) (.int .i64 ((kk : Int) + 1 + 1 + 1)) (box_set (j := j * 4 + 2) (.string T2) (hhw2))]
          congr 2
          apply Array.ext'
          simp only [Array.toList_setIfInBounds]
          show _ = setRow cur.toList (j * 4) [.int .i64 ((kk : Int)), .string T1, .string T2, .int .i64 ((kk : Int) + 1 + 1 + 1)]
          rw [setRow]
          rw [setRow]
          rw [setRow]
          rw [setRow]
          all_goals (first | rfl | (rw [setRow]; all_goals rfl))
        · intro y hy hyg hyf; exact ((box_other _ hyg).trans ((box_other _ hyg).trans (rw2.out y hy hyg hyf)))
      have HFIN : Hid (Own (.sl shTurn) (((w2).setCell ⟨g, j * 4 + 2, none⟩ (.string T2)).setCell ⟨g, j * 4 + 3, none⟩ (.int .i64 ((kk : Int) + 1 + 1 + 1))) B [.slice (some ⟨g, 0, none⟩) n cap] (mkTo shTurn d k (j + 1)) F ∧ Touch w (((w2).setCell ⟨g, j * 4 + 2, none⟩ (.string T2)).setCell ⟨g, j * 4 + 3, none⟩ (.int .i64 ((kk : Int) + 1 + 1 + 1))) F) := ⟨hfin, ((tw2.trans (Touch.set _ g _ _ hgF)).trans (Touch.set _ g _ _ hgF))⟩
      clear hfin tw2 hhw2 
      go_wp2
      go_roundw
      case rel => exact ⟨j + 1, kk + (1 + 1 + 1 + 1), by omega, by congr 1 <;> omega, by go_num, HK.out, by omega, HFIN.out.1, HFIN.out.2⟩
      case measure => simp [intOf]; omega
    · have e : j = n := by omega
      subst e
      have hfin : Own (.sl shTurn) wr B [.slice a j cap] (Sh.mk (.sl shTurn) d k) F := (congrArg (fun z => Own (.sl shTurn) wr B [.slice a j cap] z F) (mkTo_all shTurn d k j (Nat.le_of_eq HL.out.1))).mp ho.out
      have hke : kk = k + C := by rw [hkk.out, HL.out.2, cntTo_all shTurn d j (Nat.le_of_eq HL.out.1)]
      have HH : Hid (Own (.sl shTurn) wr B [.slice a j cap] (Sh.mk (.sl shTurn) d k) F ∧ kk = k + C) := ⟨hfin, hke⟩
      clear hfin ho hke hkk
      go_wp2
      go_ret
      exact ⟨by rw [← HH.out.2]; rfl, HH.out.1, ht⟩

end Go.Proofs.YtkfmpfbhhmmllaaGreat

/- MkDisk: The marks of the type Disk. By program (mkgen.py). -/
namespace Go.Proofs.YtkfmpfbhhmmllaaGreat
open Go.RowKit
set_option linter.unusedVariables false

theorem openO_Disk {w : World} {B : Nat} {cs : List Value} {d : shDisk.D} {F : List Nat} (h : Own shDisk w B cs d F) :
    ∃ a3 n3 c3 F3 a4 n4 c4 F4 a5 n5 c5 F5, cs = [.int .i64 (d.1), .int .i64 (d.2.1), .int .i64 (d.2.2.1), .slice a3 n3 c3, .slice a4 n4 c4, .slice a5 n5 c5] ∧ F = F3 ++ (F4 ++ (F5 ++ ([]))) ∧ Own (.sl shNode) w B [.slice a3 n3 c3] d.2.2.2.1 F3 ∧ Own (.sl shLink) w B [.slice a4 n4 c4] d.2.2.2.2.1 F4 ∧ Own (.sl shTurn) w B [.slice a5 n5 c5] d.2.2.2.2.2.1 F5 := by
  obtain ⟨_, _, G0, _, rfl, rfl, h0, _, _, G1, _, rfl, rfl, h1, _, _, G2, _, rfl, rfl, h2, _, _, G3, _, rfl, rfl, h3, _, _, G4, _, rfl, rfl, h4, _, _, G5, _, rfl, rfl, h5, hE⟩ := h
  obtain ⟨rfl, rfl⟩ := h0
  obtain ⟨rfl, rfl⟩ := h1
  obtain ⟨rfl, rfl⟩ := h2
  obtain ⟨rfl, rfl⟩ := hE
  have g3 := Own.reads (s := (.sl shNode)) h3
  obtain ⟨a3, c3, e3, _⟩ := g3
  subst e3
  have g4 := Own.reads (s := (.sl shLink)) h4
  obtain ⟨a4, c4, e4, _⟩ := g4
  subst e4
  have g5 := Own.reads (s := (.sl shTurn)) h5
  obtain ⟨a5, c5, e5, _⟩ := g5
  subst e5
  exact ⟨a3, _, c3, G3, a4, _, c4, G4, a5, _, c5, G5, rfl, by simp, h3, h4, h5⟩

theorem cnt_Disk (d : shDisk.D) : shDisk.cnt d = 1 + 1 + 1 + Sh.cnt (.sl shNode) d.2.2.2.1 + Sh.cnt (.sl shLink) d.2.2.2.2.1 + Sh.cnt (.sl shTurn) d.2.2.2.2.2.1 := by
  show 1 + (1 + (1 + (Sh.cnt (.sl shNode) d.2.2.2.1 + (Sh.cnt (.sl shLink) d.2.2.2.2.1 + (Sh.cnt (.sl shTurn) d.2.2.2.2.2.1 + (0)))))) = _
  omega

theorem cntV_Disk (d : shDisk.D) : shDisk.cntV d = Sh.cnt (.sl shNode) d.2.2.2.1 + Sh.cnt (.sl shLink) d.2.2.2.2.1 + Sh.cnt (.sl shTurn) d.2.2.2.2.2.1 := by
  show 0 + (0 + (0 + (Sh.cnt (.sl shNode) d.2.2.2.1 + (Sh.cnt (.sl shLink) d.2.2.2.2.1 + (Sh.cnt (.sl shTurn) d.2.2.2.2.2.1 + (0)))))) = _
  omega

set_option maxRecDepth 100000 in
set_option maxHeartbeats 2000000 in
theorem markDisk_own (cs : List Value) (B k : Nat) (d : shDisk.D) (F : List Nat) (w : World) (ho : Own shDisk w B cs d F) (hnd : F.Nodup) (hk0 : 1 ≤ k) (hk : k + shDisk.cntV d ≤ 1000000000000) :
    Calls Tryz.prog 16 #[.agg cs.toArray, .int .i64 k] w fun e w' => e = .returned (.int .i64 ((k + shDisk.cntV d : Nat) : Int)) ∧ Own shDisk w' B cs (shDisk.mkV d k) F ∧ Touch w w' F := by
  rw [cntV_Disk] at hk ⊢
  obtain ⟨a3, n3, c3, F3, a4, n4, c4, F4, a5, n5, c5, F5, rfl, rfl, o3, o4, o5⟩ := openO_Disk ho
  obtain ⟨x0, e0⟩ : ∃ x : Int, x = d.1 := ⟨_, rfl⟩
  obtain ⟨x1, e1⟩ : ∃ x : Int, x = d.2.1 := ⟨_, rfl⟩
  obtain ⟨x2, e2⟩ : ∃ x : Int, x = d.2.2.1 := ⟨_, rfl⟩
  obtain ⟨C3, hC3⟩ : ∃ C, C = Sh.cnt (.sl shNode) d.2.2.2.1 := ⟨_, rfl⟩
  obtain ⟨C4, hC4⟩ : ∃ C, C = Sh.cnt (.sl shLink) d.2.2.2.2.1 := ⟨_, rfl⟩
  obtain ⟨C5, hC5⟩ : ∃ C, C = Sh.cnt (.sl shTurn) d.2.2.2.2.2.1 := ⟨_, rfl⟩
  rw [← e0, ← e1, ← e2]
  rw [← hC3, ← hC4, ← hC5] at hk ⊢
  have HST : Hid (x0 = d.1 ∧ x1 = d.2.1 ∧ x2 = d.2.2.1 ∧ True) := ⟨e0, e1, e2, trivial⟩
  obtain ⟨k3, hk3⟩ : ∃ k' : Nat, k' = k + C3 := ⟨_, rfl⟩
  have qc3 : Hid (∀ w' : World, Own (.sl shNode) w' B [.slice a3 n3 c3] d.2.2.2.1 F3 → Calls Tryz.prog 42 #[.slice a3 n3 c3, .int .i64 ((k : Int))] w' fun e w'' => e = .returned (.int .i64 (k3 : Int)) ∧ Own (.sl shNode) w'' B [.slice a3 n3 c3] (Sh.mk (.sl shNode) d.2.2.2.1 (k)) F3 ∧ Touch w' w'' F3) := fun w' h' => by rw [hk3, hC3]; exact markNodeS_own a3 n3 c3 B (k) _ F3 w' h' ((List.nodup_append.1 hnd).1) (by omega) (by rw [← hC3]; omega)
  have HK3 : Hid (k3 = k + C3) := hk3
  have HC3 : Hid (C3 = Sh.cnt (.sl shNode) d.2.2.2.1) := hC3
  obtain ⟨k4, hk4⟩ : ∃ k' : Nat, k' = (k3) + C4 := ⟨_, rfl⟩
  have qc4 : Hid (∀ w' : World, Own (.sl shLink) w' B [.slice a4 n4 c4] d.2.2.2.2.1 F4 → Calls Tryz.prog 43 #[.slice a4 n4 c4, .int .i64 ((k3 : Int))] w' fun e w'' => e = .returned (.int .i64 (k4 : Int)) ∧ Own (.sl shLink) w'' B [.slice a4 n4 c4] (Sh.mk (.sl shLink) d.2.2.2.2.1 ((k3))) F4 ∧ Touch w' w'' F4) := fun w' h' => by rw [hk4, hC4]; exact markLinkS_own a4 n4 c4 B ((k3)) _ F4 w' h' ((List.nodup_append.1 (List.nodup_append.1 hnd).2.1).1) (by omega) (by rw [← hC4]; omega)
  have HK4 : Hid (k4 = (k3) + C4) := hk4
  have HC4 : Hid (C4 = Sh.cnt (.sl shLink) d.2.2.2.2.1) := hC4
  obtain ⟨k5, hk5⟩ : ∃ k' : Nat, k' = (k4) + C5 := ⟨_, rfl⟩
  have qc5 : Hid (∀ w' : World, Own (.sl shTurn) w' B [.slice a5 n5 c5] d.2.2.2.2.2.1 F5 → Calls Tryz.prog 44 #[.slice a5 n5 c5, .int .i64 ((k4 : Int))] w' fun e w'' => e = .returned (.int .i64 (k5 : Int)) ∧ Own (.sl shTurn) w'' B [.slice a5 n5 c5] (Sh.mk (.sl shTurn) d.2.2.2.2.2.1 ((k4))) F5 ∧ Touch w' w'' F5) := fun w' h' => by rw [hk5, hC5]; exact markTurnS_own a5 n5 c5 B ((k4)) _ F5 w' h' ((List.nodup_append.1 (List.nodup_append.1 (List.nodup_append.1 hnd).2.1).2.1).1) (by omega) (by rw [← hC5]; omega)
  have HK5 : Hid (k5 = (k4) + C5) := hk5
  have HC5 : Hid (C5 = Sh.cnt (.sl shTurn) d.2.2.2.2.2.1) := hC5
  have HND : Hid ((F3 ++ (F4 ++ (F5 ++ ([])))).Nodup) := hnd
  obtain ⟨W0, hW0⟩ : ∃ W0, W0 = w.alloc (.cells #[.int .i64 x0, .int .i64 x1, .int .i64 x2, .slice a3 n3 c3, .slice a4 n4 c4, .slice a5 n5 c5] 36) := ⟨_, rfl⟩
  have bW0 : Below w.heap.size w W0 := by rw [hW0]; exact (Below.refl _ _).alloc (Nat.le_refl _) _
  have hbx : W0.heap[w.heap.size]? = some (.cells #[.int .i64 x0, .int .i64 x1, .int .i64 x2, .slice a3 n3 c3, .slice a4 n4 c4, .slice a5 n5 c5] 36 (0, 0)) := by rw [hW0]; exact heap_alloc_new w _
  have zW0 : W0.heap.size = w.heap.size + 1 := by rw [hW0]; simp
  have HW0 : Hid (W0 = w.alloc (.cells #[.int .i64 x0, .int .i64 x1, .int .i64 x2, .slice a3 n3 c3, .slice a4 n4 c4, .slice a5 n5 c5] 36)) := hW0
  have HBX : Hid (W0.heap[w.heap.size]? = some (.cells #[.int .i64 x0, .int .i64 x1, .int .i64 x2, .slice a3 n3 c3, .slice a4 n4 c4, .slice a5 n5 c5] 36 (0, 0))) := hbx
  have p0_3 := o3.later bW0
  have LT3 : Hid (∀ y ∈ F3, y < w.heap.size) := fun y hy => (o3.lt y hy).2
  have p0_4 := o4.later bW0
  have LT4 : Hid (∀ y ∈ F4, y < w.heap.size) := fun y hy => (o4.lt y hy).2
  have p0_5 := o5.later bW0
  have LT5 : Hid (∀ y ∈ F5, y < w.heap.size) := fun y hy => (o5.lt y hy).2
  have t0 : Touch w W0 (F3 ++ (F4 ++ (F5 ++ ([])))) := Touch.of_below bW0 _
  clear ho hW0 hbx e0 e1 e2 hk3 hC3 o3 hk4 hC4 o4 hk5 hC5 o5
  go_enter Tryz.func16, Tryz.ntmps16
  go_wp2_with fail
  rw [← HW0.out]
  refine (qc3.out _ p0_3).mono ?_
  rintro e w3 ⟨rfl, om3, tq3⟩
  have z3 := tq3.size
  have i3 : w3.heap[w.heap.size]? = some (.cells #[.int .i64 x0, .int .i64 x1, .int .i64 x2, .slice a3 n3 c3, .slice a4 n4 c4, .slice a5 n5 c5] 36 (0, 0)) := (tq3.block _ (lt_heap HBX.out) (fun h => by have := LT3.out _ h; omega)).trans HBX.out
  have p3_3 := om3
  have p3_4 := tq3.own p0_4 (fun y hy hyq => (List.nodup_append.1 HND.out).2.2 y hyq y (List.mem_append_left _ hy) rfl)
  have p3_5 := tq3.own p0_5 (fun y hy hyq => (List.nodup_append.1 HND.out).2.2 y hyq y (List.mem_append_right _ (List.mem_append_left _ hy)) rfl)
  have t3 := t0.trans (tq3.mono fun y hy => (List.mem_append_left _ hy : y ∈ F3 ++ (F4 ++ (F5 ++ ([])))))
  have y3_4 : w3.cell? ⟨w.heap.size, 4, none⟩ = some (.slice a4 n4 c4) := box_cell i3 rfl
  have y3_5 : w3.cell? ⟨w.heap.size, 5, none⟩ = some (.slice a5 n5 c5) := box_cell i3 rfl
  have BX3 : Hid (w3.heap[w.heap.size]? = some (.cells #[.int .i64 x0, .int .i64 x1, .int .i64 x2, .slice a3 n3 c3, .slice a4 n4 c4, .slice a5 n5 c5] 36 (0, 0))) := i3
  clear i3
  go_wp2_with fail
  refine (qc4.out _ p3_4).mono ?_
  rintro e w4 ⟨rfl, om4, tq4⟩
  have z4 := tq4.size
  have i4 : w4.heap[w.heap.size]? = some (.cells #[.int .i64 x0, .int .i64 x1, .int .i64 x2, .slice a3 n3 c3, .slice a4 n4 c4, .slice a5 n5 c5] 36 (0, 0)) := (tq4.block _ (lt_heap BX3.out) (fun h => by have := LT4.out _ h; omega)).trans BX3.out
  have p4_3 := tq4.own p3_3 (fun y hy hyq => (List.nodup_append.1 HND.out).2.2 y hy y (List.mem_append_left _ hyq) rfl)
  have p4_4 := om4
  have p4_5 := tq4.own p3_5 (fun y hy hyq => (List.nodup_append.1 (List.nodup_append.1 HND.out).2.1).2.2 y hyq y (List.mem_append_left _ hy) rfl)
  have t4 := t3.trans (tq4.mono fun y hy => (List.mem_append_right _ (List.mem_append_left _ hy) : y ∈ F3 ++ (F4 ++ (F5 ++ ([])))))
  have y4_5 : w4.cell? ⟨w.heap.size, 5, none⟩ = some (.slice a5 n5 c5) := box_cell i4 rfl
  have BX4 : Hid (w4.heap[w.heap.size]? = some (.cells #[.int .i64 x0, .int .i64 x1, .int .i64 x2, .slice a3 n3 c3, .slice a4 n4 c4, .slice a5 n5 c5] 36 (0, 0))) := i4
  clear i4
  go_wp2_with fail
  refine (qc5.out _ p4_5).mono ?_
  rintro e w5 ⟨rfl, om5, tq5⟩
  have z5 := tq5.size
  have i5 : w5.heap[w.heap.size]? = some (.cells #[.int .i64 x0, .int .i64 x1, .int .i64 x2, .slice a3 n3 c3, .slice a4 n4 c4, .slice a5 n5 c5] 36 (0, 0)) := (tq5.block _ (lt_heap BX4.out) (fun h => by have := LT5.out _ h; omega)).trans BX4.out
  have p5_3 := tq5.own p4_3 (fun y hy hyq => (List.nodup_append.1 HND.out).2.2 y hy y (List.mem_append_right _ (List.mem_append_left _ hyq)) rfl)
  have p5_4 := tq5.own p4_4 (fun y hy hyq => (List.nodup_append.1 (List.nodup_append.1 HND.out).2.1).2.2 y hy y (List.mem_append_left _ hyq) rfl)
  have p5_5 := om5
  have t5 := t4.trans (tq5.mono fun y hy => (List.mem_append_right _ (List.mem_append_right _ (List.mem_append_left _ hy)) : y ∈ F3 ++ (F4 ++ (F5 ++ ([])))))
  have BX5 : Hid (w5.heap[w.heap.size]? = some (.cells #[.int .i64 x0, .int .i64 x1, .int .i64 x2, .slice a3 n3 c3, .slice a4 n4 c4, .slice a5 n5 c5] 36 (0, 0))) := i5
  clear i5
  have HT : Hid ((k5 : Int) = (((k + (C3 + C4 + C5) : Nat)) : Int)) := by have f3 := HK3.out; have f4 := HK4.out; have f5 := HK5.out; show _ = _; omega
  have v3 : Own (.sl shNode) w5 B [.slice a3 n3 c3] (Sh.mk (.sl shNode) d.2.2.2.1 (k)) F3 := by
    have hv := p5_3
    exact hv
  have v4 : Own (.sl shLink) w5 B [.slice a4 n4 c4] (Sh.mk (.sl shLink) d.2.2.2.2.1 (k + Sh.cnt (.sl shNode) d.2.2.2.1)) F4 := by
    have hv := p5_4
    rw [HK3.out, HC3.out] at hv
    exact hv
  have v5 : Own (.sl shTurn) w5 B [.slice a5 n5 c5] (Sh.mk (.sl shTurn) d.2.2.2.2.2.1 (k + Sh.cnt (.sl shNode) d.2.2.2.1 + Sh.cnt (.sl shLink) d.2.2.2.2.1)) F5 := by
    have hv := p5_5
    rw [HK4.out, HC4.out] at hv
    rw [HK3.out, HC3.out] at hv
    exact hv
  have hb : Own shDisk w5 B [.int .i64 (d.1), .int .i64 (d.2.1), .int .i64 (d.2.2.1), .slice a3 n3 c3, .slice a4 n4 c4, .slice a5 n5 c5] (shDisk.mkV d k) (F3 ++ (F4 ++ (F5 ++ ([])))) := own_Disk (w := w5) (B := B) (d := shDisk.mkV d k) v3 v4 v5
  rw [← HST.out.1, ← HST.out.2.1, ← HST.out.2.2.1] at hb
  have HB : Hid (Own shDisk w5 B [.int .i64 x0, .int .i64 x1, .int .i64 x2, .slice a3 n3 c3, .slice a4 n4 c4, .slice a5 n5 c5] (shDisk.mkV d k) (F3 ++ (F4 ++ (F5 ++ ([]))))) := hb
  clear hb v3 v4 v5 p5_3 p5_4 p5_5
  go_wp2
  go_ret
  exact ⟨by rw [← HT.out]; rfl, HB.out, t5⟩

end Go.Proofs.YtkfmpfbhhmmllaaGreat

/- OwnN: What is behind a slice of the call's own: nil is nil; flat rows as sources of an append. -/
namespace Go.Proofs.YtkfmpfbhhmmllaaGreat
open Go.RowKit
set_option linter.unusedVariables false

theorem links_src {w : World} {ad : Addr} {n cap : Nat} {l : List LinkD} (h : Reads (.sl shLink) w [.slice (some ad) n cap] l) : ∀ (j : Nat) (u : Value), (cellsL l)[j]? = some u → w.cell? (ad.add j) = some u :=
  reads_flat shLink (fun x => [.string x.1, .int .i64 x.2.1]) (by decide) (fun w c x hr => (open_Link hr).1) h

theorem cellsL_len (l : List LinkD) : (cellsL l).length = l.length * 2 := by
  unfold cellsL
  induction l with
  | nil => rfl
  | cons a l ih => rw [List.flatMap_cons, List.length_append, ih, List.length_cons]; simp; omega

theorem cellsL_one (l : List LinkD) : ∀ u ∈ cellsL l, u.oneCell' = true := by
  intro u hu
  unfold cellsL at hu
  obtain ⟨x, _, hx⟩ := List.mem_flatMap.1 hu
  simp at hx
  rcases hx with rfl | rfl <;> rfl

end Go.Proofs.YtkfmpfbhhmmllaaGreat

/- AppS: append where the source is nil or not, empty or not: one law for all, at a plain list of operations and at a step of a region that draws its order; append of a string. -/
namespace Go.Proofs.YtkfmpfbhhmmllaaGreat
open Go.RowKit
set_option linter.unusedVariables false

/-- What is appended: m elements, their cells 'news'. -/
def Src (w : World) (x : Value) (m : Nat) (news : List Value) : Prop :=
  (x = .slice none 0 0 ∧ m = 0 ∧ news = []) ∨ ∃ ad c, x = .slice (some ad) m c ∧ ∀ (j : Nat) (u : Value), news[j]? = some u → w.cell? (ad.add j) = some u

theorem wp_append_src {P : Program} {w : World} {o : Oper} {a : Act} {K : Act → World → Prop} {Q : Exit → Act → World → Prop} (s x : Operand) (t : TypeId)
    (ho : o.op = .call { callee := .builtin .append, args := #[s, x], argTypes := #[t, t] })
    (base : Nat) (e : TypeId) (i : TypeInfo) (z : Value) (size bytes : Nat) (ht : P.underlying t = some (.slice e)) (hi : P.info? e = some i) (hz : i.zero = some z)
    (hsize : i.size = size) (hby : i.bytes = bytes) (hzs : z.cells.size = size) (hsz : 0 < size)
    (v : Value) (n : Nat) (xs : List Value) (hs : a.eval s = v) (hown : w.ownsRow base e size v n xs)
    (xv : Value) (m : Nat) (news : List Value) (hx : a.eval x = xv) (hl : news.length = m * size) (hsrc : Src w xv m news) (h1 : ∀ u ∈ news, u.oneCell' = true)
    (h63 : n + m ≤ maxLen) (hbytes : (n + m) * bytes ≤ 140737488355328) (hbase : base ≤ w.heap.size)
    (h : ∀ v' w', w'.ownsRow base e size v' (n + m) (xs ++ news) → w.grownBy w' v.ownBlock → K (a.put o.dst v') w') : o.wp P a w K Q := by
  rcases hsrc with ⟨h2, rfl, rfl⟩ | ⟨ad, c, h2, h3⟩
  · have hrun := run_append_owned_none (P := P) (w := w) base t o.type e i size ht hi v n xs hown
    unfold Oper.wp execOp
    simp only [ho, resolve, invoke, builtin, Sem.run_bind, Sem.run_pure, Result.andThen_ok, List.map_toArray, List.map_cons, List.map_nil, hs, hx, h2, hrun]
    exact h v w (by simpa using hown) (World.grownBy.refl _ _)
  · exact wp_append_own w s x t ho base e i z size bytes ht hi hz hsize hby hzs hsz v n xs hs hown ad m c news (hx.trans h2) hl h3 h1 h63 hbytes hbase fun v' w' k1 k2 _ => h v' w' k1 k2

theorem wpList_append_src {P : Program} {w : World} {ops : Array Oper} {rest : List Oper} {o : Oper} {a : Act} {Q : Exit → Act → World → Prop} (hgd : o.guard = none) (s x : Operand) (t : TypeId)
    (ho : o.op = .call { callee := .builtin .append, args := #[s, x], argTypes := #[t, t] })
    (base : Nat) (e : TypeId) (i : TypeInfo) (z : Value) (size bytes : Nat) (ht : P.underlying t = some (.slice e)) (hi : P.info? e = some i) (hz : i.zero = some z)
    (hsize : i.size = size) (hby : i.bytes = bytes) (hzs : z.cells.size = size) (hsz : 0 < size)
    (v : Value) (n : Nat) (xs : List Value) (hs : a.eval s = v) (hown : w.ownsRow base e size v n xs)
    (xv : Value) (m : Nat) (news : List Value) (hx : a.eval x = xv) (hl : news.length = m * size) (hsrc : Src w xv m news) (h1 : ∀ u ∈ news, u.oneCell' = true)
    (h63 : n + m ≤ maxLen) (hbytes : (n + m) * bytes ≤ 140737488355328) (hbase : base ≤ w.heap.size)
    (h : ∀ v' w', w'.ownsRow base e size v' (n + m) (xs ++ news) → w.grownBy w' v.ownBlock → wpList P ops Q rest (a.put o.dst v') w') : wpList P ops Q (o :: rest) a w :=
  wpList_plain hgd fun _ hK => wp_append_src s x t ho base e i z size bytes ht hi hz hsize hby hzs hsz v n xs hs hown xv m news hx hl hsrc h1 h63 hbytes hbase fun v' w' h2 h3 => hK _ _ (h v' w' h2 h3)

theorem step_append_src {P : Program} {w : World} {ops : Array Oper} {o : Oper} {a : Act} {K : Act → World → Prop} {Q : Exit → Act → World → Prop} {E : Prop} (hgd : o.guard = none) (s x : Operand) (t : TypeId)
    (ho : o.op = .call { callee := .builtin .append, args := #[s, x], argTypes := #[t, t] })
    (base : Nat) (e : TypeId) (i : TypeInfo) (z : Value) (size bytes : Nat) (ht : P.underlying t = some (.slice e)) (hi : P.info? e = some i) (hz : i.zero = some z)
    (hsize : i.size = size) (hby : i.bytes = bytes) (hzs : z.cells.size = size) (hsz : 0 < size)
    (v : Value) (n : Nat) (xs : List Value) (hs : a.eval s = v) (hown : w.ownsRow base e size v n xs)
    (xv : Value) (m : Nat) (news : List Value) (hx : a.eval x = xv) (hl : news.length = m * size) (hsrc : Src w xv m news) (h1 : ∀ u ∈ news, u.oneCell' = true)
    (h63 : n + m ≤ maxLen) (hbytes : (n + m) * bytes ≤ 140737488355328) (hbase : base ≤ w.heap.size)
    (h : ∀ v' w', w'.ownsRow base e size v' (n + m) (xs ++ news) → w.grownBy w' v.ownBlock → K (a.put o.dst v') w') :
    if Region.wanted o (yielded ops a.tmps) = true then Oper.wp P o a w K Q else E := by
  have hw : Region.wanted o (yielded ops a.tmps) = true := by simp [Region.wanted, hgd]
  rw [if_pos hw]
  exact wp_append_src s x t ho base e i z size bytes ht hi hz hsize hby hzs hsz v n xs hs hown xv m news hx hl hsrc h1 h63 hbytes hbase h

/-- A string appended to an owned row of bytes, as a step of a region that draws its order. -/
theorem step_append_str {P : Program} {w : World} {ops : Array Oper} {o : Oper} {a : Act} {K : Act → World → Prop} {Q : Exit → Act → World → Prop} {E : Prop} (hgd : o.guard = none) (sl x : Operand) (t u : TypeId)
    (ho : o.op = .call { callee := .builtin .append, args := #[sl, x], argTypes := #[t, u] })
    (base : Nat) (e : TypeId) (i : TypeInfo) (ht : P.underlying t = some (.slice e)) (hu : P.underlying u = some .string) (hi : P.info? e = some i) (hz : i.zero = some (.int .u8 0))
    (hsize : i.size = 1) (hby : i.bytes = 1)
    (v : Value) (n : Nat) (xs : List Value) (hs : a.eval sl = v) (hown : w.ownsRow base e 1 v n xs) (s : ByteArray) (hx : a.eval x = .string s)
    (h63 : n + s.size ≤ maxLen) (hbytes : n + s.size ≤ 140737488355328) (hbase : base ≤ w.heap.size)
    (h : ∀ v' w', w'.ownsRow base e 1 v' (n + s.size) (xs ++ Lib.strCells s) → w.grownBy w' v.ownBlock → K (a.put o.dst v') w') :
    if Region.wanted o (yielded ops a.tmps) = true then Oper.wp P o a w K Q else E := by
  have hw : Region.wanted o (yielded ops a.tmps) = true := by simp [Region.wanted, hgd]
  rw [if_pos hw]
  obtain ⟨v', w', hr, h2, h3, h4⟩ := Lib.run_append_own_string (P := P) w base t u o.type e i ht hu hi hz hsize hby v n xs hown s h63 hbytes hbase
  unfold Oper.wp execOp
  simp only [ho, resolve, invoke, builtin, Sem.run_bind, Sem.run_pure, Result.andThen_ok, List.map_toArray, List.map_cons, List.map_nil, hs, hx, hr]
  exact h v' w' h2 h3

theorem src_own {w : World} {B n : Nat} {e : TypeId} {v : Value} {xs : List Value} (h : w.ownsRow B e 1 v n xs) : Src w v n xs := by
  rcases h.2 with ⟨h1, h2⟩ | ⟨g, cap, cur, hv, _⟩
  · refine .inl ⟨h1, h2, ?_⟩
    have := h.1
    rw [h2] at this
    exact List.eq_nil_of_length_eq_zero (by simpa using this)
  · subst hv
    exact .inr ⟨_, _, rfl, h.cells (g := g) rfl⟩

theorem src_later {w w' : World} {x : Value} {m : Nat} {news : List Value} (h : Src w x m news) (hb : Below w.heap.size w w') : Src w' x m news := by
  rcases h with h | ⟨ad, c, h1, h2⟩
  · exact .inl h
  · refine .inr ⟨ad, c, h1, fun j u hu => ?_⟩
    have h3 := h2 j u hu
    exact (hb.cell (World.block_lt_of_cell? w _ h3)).trans h3

/-- An owned row, said of an earlier size. -/
theorem own_lower {w : World} {B B' n : Nat} {e : TypeId} {size : Nat} {v : Value} {xs : List Value} (h : w.ownsRow B e size v n xs) (hb : B' ≤ B) : w.ownsRow B' e size v n xs := by
  refine ⟨h.1, ?_⟩
  rcases h.2 with h1 | ⟨g, cap, cur, hv, hg, r⟩
  · exact .inl h1
  · exact .inr ⟨g, cap, cur, hv, Nat.le_trans hb hg, r⟩
theorem own_base0 {w : World} {B n : Nat} {e : TypeId} {size : Nat} {v : Value} {xs : List Value} (h : w.ownsRow B e size v n xs) : w.ownsRow 0 e size v n xs := own_lower h (Nat.zero_le _)

theorem src_nil (w : World) : Src w (.slice none 0 0) 0 [] := .inl ⟨rfl, rfl, rfl⟩

end Go.Proofs.YtkfmpfbhhmmllaaGreat

/- AppC: append where the source is nil or not, empty or not: one law for all, at a plain list of operations and at a step of a region that draws its order. -/
namespace Go.Proofs.YtkfmpfbhhmmllaaGreat
open Go.RowKit
set_option linter.unusedVariables false

theorem src_bytes {w : World} {B : Nat} {v : Value} {zs : List Int} {F : List Nat} (h : Own (.sl .u8) w B [v] zs F) : Src w v zs.length (zs.map (Value.int .u8)) := by
  obtain ⟨a, c, hv, h1, h2, h3⟩ := own_val h
  have hv' : v = .slice a zs.length c := hv
  subst hv'
  cases a with
  | none =>
    obtain ⟨k1, k2, k3⟩ := own_nil h
    have k4 : zs = [] := k3
    subst k4
    subst k2
    exact .inl ⟨rfl, rfl, rfl⟩
  | some ad =>
    refine .inr ⟨ad, c, rfl, ?_⟩
    have := reads_flat .u8 (fun x => [Value.int .u8 x]) (by decide) (fun w c x hr => hr.1) h.reads
    intro j u hu
    exact this j u (by rw [← hu]; congr 1; exact (flatMap_flatten _ _).symm.trans (flatten_single _ _))

theorem src_links {w : World} {B : Nat} {v : Value} {l : List LinkD} {F : List Nat} (h : Own (.sl shLink) w B [v] l F) : Src w v l.length (cellsL l) := by
  obtain ⟨a, c, hv, h1, h2, h3⟩ := own_val h
  subst hv
  cases a with
  | none =>
    obtain ⟨k1, k2, k3⟩ := own_nil h
    have k4 : l = [] := k3
    subst k4
    subst k2
    exact .inl ⟨rfl, rfl, rfl⟩
  | some ad => exact .inr ⟨ad, c, rfl, links_src h.reads⟩

theorem bytes_one (zs : List Int) : ∀ u ∈ zs.map (Value.int .u8), u.oneCell' = true := by
  intro u hu
  simp at hu
  obtain ⟨z, _, rfl⟩ := hu
  rfl

/-- A row of links that the call owns, nil or not. -/
theorem own_linksV {w : World} {B n : Nat} {v : Value} {t : TypeId} {l : List LinkD} (hl : l.length = n) (hs : SmallS l) (h : w.ownsRow B t 2 v n (cellsL l)) : ∃ F, Own (.sl shLink) w B [v] l F ∧ F.Nodup ∧ ∃ a c, v = .slice a n c := by
  rcases h.2 with ⟨h1, h2⟩ | ⟨g, cap, cur, hv, _⟩
  · refine ⟨[], .inl ⟨by rw [h1], ?_, rfl⟩, by simp, none, 0, by rw [h1, h2]⟩
    show l.length = 0; omega
  · subst hv
    exact ⟨[g], own_links hl hs h, by simp, _, _, rfl⟩

end Go.Proofs.YtkfmpfbhhmmllaaGreat

/- ReadS: The model's l03Dir, DiskDir, l03At. -/
namespace Go.Proofs.YtkfmpfbhhmmllaaGreat
open Go.RowKit
set_option linter.unusedVariables false

theorem dirL_small {l : List LinkD} {ts : List TurnD} (h : SmallS l) (ht : ∀ t ∈ ts, t.2.1.size ≤ maxLen ∧ t.2.2.1.size ≤ maxLen) : SmallS (dirL l ts) := by
  induction ts generalizing l with
  | nil => exact h
  | cons t ts ih =>
    have h1 := ht t List.mem_cons_self
    show SmallS (dirL (turnL l t) ts)
    refine ih ?_ (fun u hu => ht u (List.mem_cons_of_mem _ hu))
    unfold turnL
    split
    · exact withL_small h h1.1 _
    · split
      · exact withL_small (lessL_small (lessL_small h _) _) h1.2 _
      · exact lessL_small h _

theorem turns_small {w : World} {a : Option Addr} {n cap : Nat} {l : List TurnD} (h : Reads (.sl shTurn) w [.slice a n cap] l) : ∀ t ∈ l, t.2.1.size ≤ maxLen ∧ t.2.2.1.size ≤ maxLen := by
  intro t ht
  obtain ⟨i, hi, rfl⟩ := List.mem_iff_getElem.1 ht
  have hl : List.length (α := TurnD) l = n := (reads_len h).1
  obtain ⟨b, off, c, x, _, _, hx, hr, _⟩ := reads_elem h i (by omega)
  obtain ⟨_, hxe⟩ := at_some' hx
  obtain ⟨_, h1, h2⟩ := open_Turn hr
  subst hxe
  exact ⟨h1, h2⟩

set_option maxRecDepth 100000 in
set_option maxHeartbeats 4000000 in
theorem specDirTo_ok (cs : List Value) (d : shDisk.D) (N B : Nat) (G : List Nat) (w : World) (ho : Own shDisk w B cs d G) (hs : shDisk.sz d ≤ 1048576) (hN : N ≤ List.length (α := TurnD) d.2.2.2.2.2.1) (hbig : List.length (α := LinkD) d.2.2.2.2.1 + List.length (α := TurnD) d.2.2.2.2.2.1 ≤ 1000000) :
    Calls Tryz.prog 86 #[.agg cs.toArray, .int .i64 N] w fun e w' => ∃ v F, e = .returned v ∧ Own (.sl shLink) w' w.heap.size [v] (dirL d.2.2.2.2.1 (List.take (α := TurnD) N d.2.2.2.2.2.1)) F ∧ F.Nodup ∧ Below w.heap.size w w' := by
  obtain ⟨i0, hi, hz0, hz1, hz2⟩ := info_parts infoLink
  obtain ⟨a3, n3, c3, F3, a4, n4, c4, F4, a5, n5, c5, F5, rfl, _, o3, o4, o5⟩ := openO_Disk ho
  obtain ⟨x0, e0⟩ : ∃ x : Int, x = d.1 := ⟨_, rfl⟩
  obtain ⟨x1, e1⟩ : ∃ x : Int, x = d.2.1 := ⟨_, rfl⟩
  obtain ⟨x2, e2⟩ : ∃ x : Int, x = d.2.2.1 := ⟨_, rfl⟩
  rw [sz_Disk] at hs
  obtain ⟨kp, hkp⟩ : ∃ l : List LinkD, l = d.2.2.2.2.1 := ⟨_, rfl⟩
  obtain ⟨tn, htn⟩ : ∃ l : List TurnD, l = d.2.2.2.2.2.1 := ⟨_, rfl⟩
  have l4 : kp.length = n4 := by rw [hkp]; exact (reads_len o4.reads).1
  have l5 : tn.length = n5 := by rw [htn]; exact (reads_len o5.reads).1
  have s4 : n4 ≤ Sh.sz (.sl shLink) d.2.2.2.2.1 := by rw [← l4, hkp]; exact Nat.le_add_right _ _
  have s5 : n5 ≤ Sh.sz (.sl shTurn) d.2.2.2.2.2.1 := by rw [← l5, htn]; exact Nat.le_add_right _ _
  have hn45 : n4 + n5 ≤ 1048576 := by omega
  rw [← hkp] at o4 ⊢
  rw [← htn] at o5 hN ⊢
  rw [← hkp, ← htn] at hbig
  rw [← e0, ← e1, ← e2]
  have hN5 : N ≤ n5 := by omega
  have hbig' : n4 + n5 ≤ 1000000 := by omega
  clear hbig
  have HR : Hid (Own (.sl shLink) w B [.slice a4 n4 c4] kp F4 ∧ Reads (.sl shTurn) w [.slice a5 n5 c5] tn) := ⟨o4, o5.reads⟩
  have HL : Hid (kp.length = n4 ∧ tn.length = n5 ∧ SmallS kp) := ⟨l4, l5, reads_small o4.reads⟩
  obtain ⟨W0, hW0⟩ : ∃ W0, W0 = w.alloc (.cells #[.int .i64 x0, .int .i64 x1, .int .i64 x2, .slice a3 n3 c3, .slice a4 n4 c4, .slice a5 n5 c5] 36) := ⟨_, rfl⟩
  have bW0 : Below w.heap.size w W0 := by rw [hW0]; exact (Below.refl _ _).alloc (Nat.le_refl _) _
  have hbox : W0.heap[w.heap.size]? = some (.cells #[.int .i64 x0, .int .i64 x1, .int .i64 x2, .slice a3 n3 c3, .slice a4 n4 c4, .slice a5 n5 c5] 36 (0, 0)) := by rw [hW0]; exact heap_alloc_new w _
  have zW0 : W0.heap.size = w.heap.size + 1 := by rw [hW0]; simp
  have HW0 : Hid (W0 = w.alloc (.cells #[.int .i64 x0, .int .i64 x1, .int .i64 x2, .slice a3 n3 c3, .slice a4 n4 c4, .slice a5 n5 c5] 36)) := hW0
  have BX : Hid (∀ w', Below W0.heap.size W0 w' → w'.cell? ⟨w.heap.size, 5, none⟩ = some (.slice a5 n5 c5)) := fun w' h' => box_cell ((h'.block _ (by omega)).trans hbox) rfl
  have bA0 : Below w.heap.size w (W0.alloc (.cells #[] 85)) := bW0.alloc bW0.size _
  have k1 := World.ownsRow_lit (base := W0.heap.size) (e := 85) (size := 2) W0 #[] 0 (Nat.le_refl _) (Nat.zero_le _) rfl
  have k2 : (cellsL kp).length = n4 * 2 := by rw [cellsL_len, l4]
  have k3 : Src (W0.alloc (.cells #[] 85)) (.slice a4 n4 c4) n4 (cellsL kp) := by
    have h1 := HR.out.1.keep (w' := W0.alloc (.cells #[] 85)) (fun g hg => bA0.block g (HR.out.1.lt g hg).2)
    have h2 := src_links h1
    rw [l4] at h2; exact h2
  have k4 : 0 + n4 ≤ maxLen := by unfold maxLen; omega
  have k5 : W0.heap.size ≤ (W0.alloc (.cells #[] 85)).heap.size := by simp
  have K : Hid (_ ∧ _ ∧ _ ∧ _) := ⟨k2, k3, k4, k5⟩
  have KO : Hid ((W0.alloc (.cells #[] 85)).ownsRow W0.heap.size 85 2 (.slice (some ⟨w.heap.size + 1, 0, none⟩) 0 0) 0 []) := by
    show World.ownsRow _ _ _ _ _ _ _
    have := k1; rw [zW0] at this ⊢; exact this
  have ZW0 : Hid (W0.heap.size = w.heap.size + 1) := zW0
  clear ho hs o3 o4 o5 e0 e1 e2 hkp htn l4 l5 s4 s5 hW0 hbox zW0 k1 k2 k3 k4 k5 bA0
  go_enter Tryz.func86, Tryz.ntmps86
  go_wp2_with (at_builtin; rw [← HW0.out]; refine wpList_append_src rfl _ _ 33 rfl W0.heap.size 85 i0 (.agg #[.string ByteArray.empty, .int .i64 0]) 2 24 Tryz.underlying33 hi hz0 hz1 hz2 rfl (by decide) _ 0 [] rfl KO.out (.slice a4 n4 c4) n4 (cellsL kp) rfl K.out.1 K.out.2.1 (cellsL_one _) K.out.2.2.1 (by omega) K.out.2.2.2 ?_)
  intro v1 w1 hown1 hgrow1
  have b1 : Below W0.heap.size W0 w1 := ((Below.refl _ _).alloc (Nat.le_refl _) _).grown hgrow1 (by simp) (fun k h => by simp [Value.ownBlock] at h; have := ZW0.out; omega)
  have hown1' : w1.ownsRow W0.heap.size 85 2 v1 n4 (cellsL kp) := by simpa using hown1
  obtain ⟨F1, p1, nd1, a1, c1, rfl⟩ := own_linksV HL.out.1 HL.out.2.2 hown1'
  clear hgrow1 hown1 hown1' K KO
  go_wp2
  go_loopw [5, 6] (fun dv i wr => ∃ (k m : Nat) (a : Option Addr) (c : Nat) (F : List Nat), k ≤ N ∧ dv = .slice a m c ∧ i = .int .i64 k ∧ Below W0.heap.size W0 wr ∧ Hid (Own (.sl shLink) wr W0.heap.size [.slice a m c] (dirL kp (tn.take k)) F ∧ F.Nodup) ∧ m ≤ n4 + k) (fun _ i _ => N - (intOf i).toNat)
  case atStart => exact ⟨0, n4, a1, c1, F1, Nat.zero_le _, rfl, rfl, b1, ⟨p1, nd1⟩, by omega⟩
  case round =>
    obtain ⟨k, m, a, c, F, hk, rfl, rfl, hbel, hx0, hmk⟩ := hrel
    have hbs := hbel.size
    by_cases hlt : k < N
    · obtain ⟨b, off, cc, x, rfl, hb, hx, hrx, hcell⟩ := reads_elem HR.out.2 k (by omega)
      obtain ⟨rfl, hl1, hl2⟩ := open_Turn hrx
      obtain ⟨hkd, hxe⟩ := at_some' hx
      obtain ⟨y0, ey0⟩ : ∃ y : Int, y = x.1 := ⟨_, rfl⟩
      obtain ⟨y1, ey1⟩ : ∃ y : ByteArray, y = x.2.1 := ⟨_, rfl⟩
      obtain ⟨y2, ey2⟩ : ∃ y : ByteArray, y = x.2.2.1 := ⟨_, rfl⟩
      obtain ⟨y3, ey3⟩ : ∃ y : Int, y = x.2.2.2.1 := ⟨_, rfl⟩
      have hxv : x = (y0, y1, y2, y3, ()) := by rw [ey0, ey1, ey2, ey3]; rfl
      have bw := bW0.trans (hbel.mono bW0.size)
      have f5 := BX.out wr hbel
      have g0 : wr.cell? ⟨b, off + k * 4, none⟩ = some (.int .i64 y0) := by rw [ey0]; exact (bw.cell (p := ⟨b, off + (k * 4 + 0), none⟩) hb).trans (hcell 0 (by decide))
      have g1 : wr.cell? ⟨b, off + k * 4 + 1, none⟩ = some (.string y1) := by rw [ey1]; exact (bw.cell (p := ⟨b, off + (k * 4 + 1), none⟩) hb).trans (hcell 1 (by decide))
      have g2 : wr.cell? ⟨b, off + k * 4 + 2, none⟩ = some (.string y2) := by rw [ey2]; exact (bw.cell (p := ⟨b, off + (k * 4 + 2), none⟩) hb).trans (hcell 2 (by decide))
      have g3 : wr.cell? ⟨b, off + k * 4 + 3, none⟩ = some (.int .i64 y3) := by rw [ey3]; exact (bw.cell (p := ⟨b, off + (k * 4 + 3), none⟩) hb).trans (hcell 3 (by decide))
      rw [← ey1] at hl1
      rw [← ey2] at hl2
      have HT : Hid (tn.take (k + 1) = tn.take k ++ [(y0, y1, y2, y3, ())]) := take_snocT tn k hkd _ (hxe.trans hxv)
      have hk5 : (k : Int) < (n5 : Int) := by omega
      have qM : Hid (Calls Tryz.prog 51 #[.slice a m c, .agg #[.int .i64 y0, .string y1, .string y2, .int .i64 y3]] wr fun e w'' => ∃ g c, e = .returned (.slice (some ⟨g, 0, none⟩) (turnL (dirL kp (tn.take k)) (y0, y1, y2, y3, ())).length c) ∧
          Own (.sl shLink) w'' wr.heap.size [.slice (some ⟨g, 0, none⟩) (turnL (dirL kp (tn.take k)) (y0, y1, y2, y3, ())).length c] (turnL (dirL kp (tn.take k)) (y0, y1, y2, y3, ())) [g] ∧ Below wr.heap.size wr w'') :=
        specTurn_any a m c _ y0 y1 y2 y3 wr hx0.out.1.reads hl1 hl2 (by omega)
      clear hcell hrx hx hxe hxv ey0 ey1 ey2 ey3 hl1 hl2
      go_wp2_with fail
      refine qM.out.mono ?_
      rintro e w7 ⟨g7, c7, rfl, o7, hb7⟩
      have b7 := hbel.trans (hb7.mono hbel.size)
      rw [← dirL_snoc, ← HT.out] at o7 ⊢
      obtain ⟨m7, hm7⟩ : ∃ m7, m7 = (dirL kp (tn.take (k + 1))).length := ⟨_, rfl⟩
      have hm7k : m7 ≤ n4 + (k + 1) := by
        have h1 := dirL_len kp (tn.take (k + 1))
        have h2 := HL.out.1
        have h3 : (tn.take (k + 1)).length ≤ k + 1 := by rw [List.length_take]; omega
        omega
      rw [← hm7] at o7 ⊢
      have HX2 : Hid (Own (.sl shLink) w7 W0.heap.size [.slice (some ⟨g7, 0, none⟩) m7 c7] (dirL kp (tn.take (k + 1))) [g7] ∧ [g7].Nodup) := ⟨o7.base hbs, by simp⟩
      clear hb7 o7 hm7 hx0 g0 g1 g2 g3 f5
      go_wp2
      go_roundw
      case rel => exact ⟨k + 1, m7, some ⟨g7, 0, none⟩, c7, [g7], by omega, rfl, by go_num, b7, HX2, hm7k⟩
      case measure => simp [intOf]; omega
    · have e : k = N := by omega
      subst e
      have HX2 : Hid (Own (.sl shLink) wr w.heap.size [.slice a m c] (dirL kp (tn.take k)) F ∧ F.Nodup) := ⟨hx0.out.1.base bW0.size, hx0.out.2⟩
      have bw := bW0.trans (hbel.mono bW0.size)
      clear hx0
      go_wp2
      go_ret
      exact ⟨_, F, rfl, HX2.out.1, HX2.out.2, bw⟩

set_option maxRecDepth 100000 in
set_option maxHeartbeats 2000000 in
theorem specDir_yes (cs : List Value) (d : shDisk.D) (B : Nat) (G : List Nat) (w : World) (ho : Own shDisk w B cs d G) (hs : shDisk.sz d ≤ 1048576) (hok : specOkP d) :
    Calls Tryz.prog 55 #[.agg cs.toArray] w fun e w' => ∃ v F, e = .returned v ∧ Own (.sl shLink) w' w.heap.size [v] (dirL d.2.2.2.2.1 d.2.2.2.2.2.1) F ∧ F.Nodup ∧ Below w.heap.size w w' := by
  obtain ⟨a3, n3, c3, F3, a4, n4, c4, F4, a5, n5, c5, F5, rfl, _, o3, o4, o5⟩ := openO_Disk ho
  have l5 : List.length (α := TurnD) d.2.2.2.2.2.1 = n5 := (reads_len o5.reads).1
  have l5m : n5 ≤ c5 ∧ c5 ≤ maxLen := (reads_len o5.reads).2
  unfold maxLen at l5m
  obtain ⟨x0, e0⟩ : ∃ x : Int, x = d.1 := ⟨_, rfl⟩
  obtain ⟨x1, e1⟩ : ∃ x : Int, x = d.2.1 := ⟨_, rfl⟩
  obtain ⟨x2, e2⟩ : ∃ x : Int, x = d.2.2.1 := ⟨_, rfl⟩
  have qok : Hid (∀ w', Below w.heap.size w w' → Calls Tryz.prog 20 #[.agg #[.int .i64 x0, .int .i64 x1, .int .i64 x2, .slice a3 n3 c3, .slice a4 n4 c4, .slice a5 n5 c5]] w' fun e w'' => e = .returned (.bool true) ∧ Below w'.heap.size w' w'') := fun w' h' => by
    rw [e0, e1, e2]; exact specOk_ok true _ d w' (fun _ => rfl) (fun h => absurd hok h) (ho.reads.later h') hs
  have qdir : Hid (∀ w', Below w.heap.size w w' → Calls Tryz.prog 86 #[.agg #[.int .i64 x0, .int .i64 x1, .int .i64 x2, .slice a3 n3 c3, .slice a4 n4 c4, .slice a5 n5 c5], .int .i64 n5] w' fun e w'' => ∃ v F, e = .returned v ∧ Own (.sl shLink) w'' w'.heap.size [v] (dirL d.2.2.2.2.1 d.2.2.2.2.2.1) F ∧ F.Nodup ∧ Below w'.heap.size w' w'') := fun w' h' => by
    have h9 : List.take (α := TurnD) n5 d.2.2.2.2.2.1 = d.2.2.2.2.2.1 := List.take_of_length_le (by omega)
    have h8 := hok.1
    have h10 : List.length (α := LinkD) d.2.2.2.2.1 ≤ 8 := h8.2.2.2.2.2.2.2.1
    have h11 : List.length (α := TurnD) d.2.2.2.2.2.1 ≤ 40 := h8.2.2.2.2.2.2.2.2
    have := specDirTo_ok _ d n5 B G w' (ho.later h') hs (by omega) (by omega)
    rw [h9] at this
    rw [e0, e1, e2]; exact this
  rw [← e0, ← e1, ← e2]
  obtain ⟨W0, hW0⟩ : ∃ W0, W0 = w.alloc (.cells #[.int .i64 x0, .int .i64 x1, .int .i64 x2, .slice a3 n3 c3, .slice a4 n4 c4, .slice a5 n5 c5] 36) := ⟨_, rfl⟩
  have bW0 : Below w.heap.size w W0 := by rw [hW0]; exact (Below.refl _ _).alloc (Nat.le_refl _) _
  have hbox : W0.heap[w.heap.size]? = some (.cells #[.int .i64 x0, .int .i64 x1, .int .i64 x2, .slice a3 n3 c3, .slice a4 n4 c4, .slice a5 n5 c5] 36 (0, 0)) := by rw [hW0]; exact heap_alloc_new w _
  have zW0 : W0.heap.size = w.heap.size + 1 := by rw [hW0]; simp
  have HW0 : Hid (W0 = w.alloc (.cells #[.int .i64 x0, .int .i64 x1, .int .i64 x2, .slice a3 n3 c3, .slice a4 n4 c4, .slice a5 n5 c5] 36)) := hW0
  have BX : Hid (∀ w', Below W0.heap.size W0 w' → w'.heap[w.heap.size]? = some (.cells #[.int .i64 x0, .int .i64 x1, .int .i64 x2, .slice a3 n3 c3, .slice a4 n4 c4, .slice a5 n5 c5] 36 (0, 0))) := fun w' h' => (h'.block _ (by omega)).trans hbox
  clear ho hs o3 o4 o5 e0 e1 e2 hW0 hbox hok
  go_enter Tryz.func55, Tryz.ntmps55
  go_wp2_with fail
  rw [← HW0.out]
  refine (qok.out _ bW0).mono ?_
  rintro e w1 ⟨rfl, hb1⟩
  have i1 := BX.out w1 hb1
  have b1 := bW0.trans (hb1.mono bW0.size)
  have y0 := box_cell (j := 0) i1 rfl
  have y1 := box_cell (j := 1) i1 rfl
  have y2 := box_cell (j := 2) i1 rfl
  have y3 := box_cell (j := 3) i1 rfl
  have y4 := box_cell (j := 4) i1 rfl
  have y5 := box_cell (j := 5) i1 rfl
  clear i1 hb1
  go_wp2_with fail
  refine (qdir.out _ b1).mono ?_
  rintro e w2 ⟨v, F, rfl, p, nd, hb2⟩
  have b2 := b1.trans (hb2.mono b1.size)
  have p2 := p.base b1.size
  go_wp2
  go_ret
  exact ⟨v, F, rfl, p2, nd, b2⟩

set_option maxRecDepth 100000 in
set_option maxHeartbeats 2000000 in
theorem specDir_no (cs : List Value) (d : shDisk.D) (w : World) (hr : Reads shDisk w cs d) (hs : shDisk.sz d ≤ 1048576) (hok : ¬ specOkP d) :
    Calls Tryz.prog 55 #[.agg cs.toArray] w fun e w' => e = .returned (.slice none 0 0) ∧ Below w.heap.size w w' := by
  obtain ⟨a3, n3, c3, a4, n4, c4, a5, n5, c5, rfl, r3, r4, r5⟩ := open_Disk hr
  obtain ⟨x0, e0⟩ : ∃ x : Int, x = d.1 := ⟨_, rfl⟩
  obtain ⟨x1, e1⟩ : ∃ x : Int, x = d.2.1 := ⟨_, rfl⟩
  obtain ⟨x2, e2⟩ : ∃ x : Int, x = d.2.2.1 := ⟨_, rfl⟩
  have qok : Hid (∀ w', Below w.heap.size w w' → Calls Tryz.prog 20 #[.agg #[.int .i64 x0, .int .i64 x1, .int .i64 x2, .slice a3 n3 c3, .slice a4 n4 c4, .slice a5 n5 c5]] w' fun e w'' => e = .returned (.bool false) ∧ Below w'.heap.size w' w'') := fun w' h' => by
    rw [e0, e1, e2]; exact specOk_ok false _ d w' (fun h => absurd h hok) (fun _ => rfl) (hr.later h') hs
  rw [← e0, ← e1, ← e2]
  have bW0 : Below w.heap.size w (w.alloc (.cells #[.int .i64 x0, .int .i64 x1, .int .i64 x2, .slice a3 n3 c3, .slice a4 n4 c4, .slice a5 n5 c5] 36)) := (Below.refl _ _).alloc (Nat.le_refl _) _
  clear hr hs r3 r4 r5 e0 e1 e2 hok
  go_enter Tryz.func55, Tryz.ntmps55
  go_wp2_with fail
  refine (qok.out _ bW0).mono ?_
  rintro e w1 ⟨rfl, hb1⟩
  have b1 := bW0.trans (hb1.mono bW0.size)
  clear hb1
  go_wp2
  go_ret
  exact ⟨rfl, b1⟩

/-- The first node of an id. -/
def placeN (l : List NodeD) (id : Int) : Nat := l.findIdx fun x => decide (x.1 = id)

theorem placeN_le (l : List NodeD) (id : Int) : placeN l id ≤ l.length := List.findIdx_le_length

theorem placeN_ne {l : List NodeD} {id : Int} {k : Nat} (h : k < placeN l id) (hk : k < l.length) : (l[k]).1 ≠ id := by
  have := List.not_of_lt_findIdx h
  simpa using this

theorem placeN_at {l : List NodeD} {id : Int} (h : placeN l id < l.length) : (l[placeN l id]).1 = id := by
  have := List.findIdx_getElem (xs := l) (p := fun x : NodeD => decide (x.1 = id)) (w := h)
  exact of_decide_eq_true this

set_option maxRecDepth 100000 in
set_option maxHeartbeats 2000000 in
theorem specAt_ok (cs : List Value) (d : shDisk.D) (id : Int) (w : World) (hr : Reads shDisk w cs d) (hs : shDisk.sz d ≤ 1048576) (hin : placeN d.2.2.2.1 id < List.length (α := NodeD) d.2.2.2.1) :
    Calls Tryz.prog 56 #[.agg cs.toArray, .int .i64 id] w fun e w' => e = .returned (.int .i64 (placeN d.2.2.2.1 id)) ∧ Below w.heap.size w w' := by
  obtain ⟨a3, n3, c3, a4, n4, c4, a5, n5, c5, rfl, r3, r4, r5⟩ := open_Disk hr
  obtain ⟨x0, e0⟩ : ∃ x : Int, x = d.1 := ⟨_, rfl⟩
  obtain ⟨x1, e1⟩ : ∃ x : Int, x = d.2.1 := ⟨_, rfl⟩
  obtain ⟨x2, e2⟩ : ∃ x : Int, x = d.2.2.1 := ⟨_, rfl⟩
  obtain ⟨nd, hnd⟩ : ∃ l : List NodeD, l = d.2.2.2.1 := ⟨_, rfl⟩
  rw [← hnd] at r3 hin ⊢
  rw [← e0, ← e1, ← e2]
  have l3 : nd.length = n3 := (reads_len r3).1
  have l3m : n3 ≤ c3 ∧ c3 ≤ maxLen := (reads_len r3).2
  unfold maxLen at l3m
  obtain ⟨Q, hQ⟩ : ∃ Q, Q = placeN nd id := ⟨_, rfl⟩
  have HNE : Hid (∀ k (hk : k < nd.length), k < Q → (nd[k]).1 ≠ id) := fun k hk h => placeN_ne (by omega) hk
  have HEQ : Hid (∀ hk : Q < nd.length, (nd[Q]).1 = id) := fun hk => by subst hQ; exact placeN_at hk
  have HR : Hid (Reads (.sl shNode) w [.slice a3 n3 c3] nd) := r3
  have HL : Hid (nd.length = n3) := l3
  rw [← hQ] at hin ⊢
  have hQn : Q < n3 := by omega
  have bW0 : Below w.heap.size w (w.alloc (.cells #[.int .i64 x0, .int .i64 x1, .int .i64 x2, .slice a3 n3 c3, .slice a4 n4 c4, .slice a5 n5 c5] 36)) := (Below.refl _ _).alloc (Nat.le_refl _) _
  clear hr hs r3 r4 r5 e0 e1 e2 hQ hin hnd l3
  go_enter Tryz.func56, Tryz.ntmps56
  go_wp2
  go_loopw [10] (fun i wr => ∃ k : Nat, k ≤ Q ∧ i = .int .i64 k ∧ Below w.heap.size w wr) (fun i _ => n3 - (intOf i).toNat)
  case atStart => exact ⟨0, Nat.zero_le _, rfl, bW0⟩
  case round =>
    obtain ⟨k, hk, rfl, hbel⟩ := hrel
    have hbs := hbel.size
    obtain ⟨b, off, cc, x, rfl, hb, hx, hrx, hcell⟩ := reads_elem HR.out k (by omega)
    obtain ⟨p1, m1, k1, p2, m2, k2, rfl, _, _⟩ := open_Node hrx
    obtain ⟨hkd, hxe⟩ := at_some' hx
    obtain ⟨y0, ey0⟩ : ∃ y : Int, y = x.1 := ⟨_, rfl⟩
    have hy : (nd[k]'hkd).1 = y0 := by rw [ey0]; exact congrArg Prod.fst hxe
    have g0 : wr.cell? ⟨b, off + k * 3, none⟩ = some (.int .i64 y0) := by rw [ey0]; exact (hbel.cell (p := ⟨b, off + (k * 3 + 0), none⟩) hb).trans (hcell 0 (by decide))
    have g1 : wr.cell? ⟨b, off + k * 3 + 1, none⟩ = some (.slice p1 m1 k1) := (hbel.cell (p := ⟨b, off + (k * 3 + 1), none⟩) hb).trans (hcell 1 (by decide))
    have g2 : wr.cell? ⟨b, off + k * 3 + 2, none⟩ = some (.slice p2 m2 k2) := (hbel.cell (p := ⟨b, off + (k * 3 + 2), none⟩) hb).trans (hcell 2 (by decide))
    have bA : Below w.heap.size w (wr.alloc (.cells #[.int .i64 y0, .slice p1 m1 k1, .slice p2 m2 k2] 83)) := hbel.alloc hbs _
    have hkn : (k : Int) < (n3 : Int) := by omega
    by_cases hlt : k < Q
    · have hne : (y0 == id) = false := by have := HNE.out k hkd hlt; rw [hy] at this; simpa using this
      clear hcell hrx hx hxe ey0 hy
      go_wp2
      go_roundw
      case rel => exact ⟨k + 1, by omega, by go_num, bA⟩
      case measure => simp [intOf]; omega
    · have e : k = Q := by omega
      subst e
      have hne : (y0 == id) = true := by have := HEQ.out hkd; rw [hy] at this; simpa using this
      clear hcell hrx hx hxe ey0 hy
      go_wp2
      go_ret
      exact ⟨rfl, bA⟩

end Go.Proofs.YtkfmpfbhhmmllaaGreat

/- ReadP: Plain facts on the directory behind all turns: its ids have their nodes; where a node lies. -/
namespace Go.Proofs.YtkfmpfbhhmmllaaGreat
open Go.RowKit
set_option linter.unusedVariables false

theorem mem_less {l : List LinkD} {s : ByteArray} {x : LinkD} (h : x ∈ lessL l s) : x ∈ l := by
  unfold lessL at h
  exact (List.mem_filter.1 h).1

theorem findL_mem {l : List LinkD} {s : ByteArray} (h : hasL l s = true) : ∃ x ∈ l, x.1 = s ∧ x.2.1 = findL l s := by
  induction l with
  | nil => simp [hasL_nil] at h
  | cons a l ih =>
    rw [hasL_cons] at h
    rw [findL_cons]
    by_cases e : a.1 = s
    · exact ⟨a, List.mem_cons_self, e, by rw [if_pos e]⟩
    · simp [e] at h
      obtain ⟨x, hx, h1, h2⟩ := ih h
      exact ⟨x, List.mem_cons_of_mem _ hx, h1, by rw [if_neg e]; exact h2⟩

/-- Every link behind turns that fit has an id of the list S, if those of the links and of the creates are in it. -/
theorem dir_ids (S : List Int) : ∀ (ts : List TurnD) (l : List LinkD), Pos l → turnsOkL l ts → (∀ x ∈ l, x.2.1 ∈ S) → (∀ t ∈ ts, t.1 = 1 → t.2.2.2.1 ∈ S) → (∀ x ∈ dirL l ts, x.2.1 ∈ S) ∧ Pos (dirL l ts)
  | [], l, hp, _, h1, _ => ⟨h1, hp⟩
  | t :: ts, l, hp, hk, h1, h2 => by
    obtain ⟨k1, k2⟩ := hk
    have hp2 := (turn_alike (Alike.refl l) hp k1).2
    refine dir_ids S ts (turnL l t) hp2 k2 ?_ (fun u hu => h2 u (List.mem_cons_of_mem _ hu))
    intro x hx
    unfold turnL at hx
    by_cases e1 : t.1 = 1
    · rw [if_pos e1] at hx
      rcases mem_with hx with rfl | hx
      · exact h2 t List.mem_cons_self e1
      · exact h1 x hx
    · rw [if_neg e1] at hx
      by_cases e5 : t.1 = 5
      · simp only [e5, if_true] at hx
        rcases mem_with hx with rfl | hx
        · have hth : hasL l t.2.1 = true := (findL_pos hp _).2 (by
            rcases k1.2 with h | h | h
            · have := h.1; omega
            · exact h.2.2.2.2
            · have := h.1; omega)
          obtain ⟨y, hy, _, hy2⟩ := findL_mem hth
          show findL l t.2.1 ∈ S
          rw [← hy2]; exact h1 y hy
        · exact h1 x (mem_less (mem_less hx))
      · rw [if_neg e5] at hx
        exact h1 x (mem_less hx)

theorem kept_pos {kp : List LinkD} (h : keptTo kp kp.length) : Pos kp := by
  intro x hx
  obtain ⟨i, hi, rfl⟩ := List.mem_iff_getElem.1 hx
  have := (h i hi hi).2.1
  omega

theorem place_mem {l : List NodeD} {id : Int} (h : id ∈ nodeIds l) : placeN l id < l.length := by
  unfold placeN
  rw [List.findIdx_lt_length]
  unfold nodeIds at h
  obtain ⟨x, hx, e⟩ := List.mem_map.1 h
  exact ⟨x, hx, by simpa using e⟩

/-- What a right disk says of its directory: it is alike to the program's map, its ids have their nodes. -/
theorem dir_alike {d : shDisk.D} (h : specOkP d) : Alike (dirL d.2.2.2.2.1 d.2.2.2.2.2.1) (dirF (List.reverse (α := LinkD) d.2.2.2.2.1) d.2.2.2.2.2.1) ∧ Pos (dirL d.2.2.2.2.1 d.2.2.2.2.2.1) ∧
    ∀ x ∈ dirL d.2.2.2.2.1 d.2.2.2.2.2.1, placeN d.2.2.2.1 x.2.1 < List.length (α := NodeD) d.2.2.2.1 := by
  obtain ⟨h1, h2, h3, h4, h5, h6, h7⟩ := h
  obtain ⟨nd, hnd⟩ : ∃ l : List NodeD, l = d.2.2.2.1 := ⟨_, rfl⟩
  obtain ⟨kp, hkp⟩ : ∃ l : List LinkD, l = d.2.2.2.2.1 := ⟨_, rfl⟩
  obtain ⟨tn, htn⟩ : ∃ l : List TurnD, l = d.2.2.2.2.2.1 := ⟨_, rfl⟩
  rw [← hkp, ← htn] at h4 h5 h6 ⊢
  rw [← hkp] at h3
  rw [← hnd] at h4 h5 ⊢
  have hp := kept_pos h3
  have hn : namesTo kp kp.length := fun i hi hk => ⟨(h3 i hi hk).1, (h3 i hi hk).2.2⟩
  have ha := alike_rev hn
  have hal : ∀ (ts : List TurnD) (l m : List LinkD), Alike l m → Pos l → turnsOkL l ts → Alike (dirL l ts) (dirF m ts) := by
    intro ts
    induction ts with
    | nil => intro l m h _ _; exact h
    | cons t ts ih =>
      intro l m hlm hpl hk
      have h8 := turn_alike hlm hpl hk.1
      exact ih (turnL l t) (turnI m t) h8.1 h8.2 hk.2
  have hd := dir_ids (idsL kp tn) tn kp hp h6 (fun x hx => mem_ids_kept hx) (fun t ht hk => mem_ids_made ht hk)
  refine ⟨hal tn kp kp.reverse ha hp h6, hd.2, fun x hx => ?_⟩
  exact place_mem ((idsTo_nodup h5).2 _ (hd.1 x hx))

end Go.Proofs.YtkfmpfbhhmmllaaGreat
