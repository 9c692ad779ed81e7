/-
  Joined: CalmP, OnlyS, FlatT, AppD, CopyS.
-/
import Derived.Test.YtkjnbjohicgooaaGreatJ10FnExactDiskCalm
import Derived.Test.YtkjnbjohicgooaaGreatJ3FnExactDiskCalm
import Derived.Test.YtkjnbjohicgooaaGreatJ6FnExactDiskCalm
import Derived.Test.YtkjnbjohicgooaaGreatJ9FnExactDiskCalm
import Derived.Deep.RegionHeld3
import Derived.Test.YtkjnbjohicgooaaGreatJ1FnExactDiskCalm
import Derived.Maps.AppendAt
/- CalmP: Sizes of what DiskCalm answers; a row of nodes as a reading; the nodes of a disk of the call's own, with their cells. -/
namespace Go.Proofs.YtkjnbjohicgooaaGreat
open Go.RowKit
set_option linter.unusedVariables false
set_option maxRecDepth 100000

theorem bytes_sz (l : List Int) : Sh.sz (.sl .u8) l = l.length := by
  show l.length + (List.map (fun _ : Int => 0) l).sum = l.length
  induction l with
  | nil => rfl
  | cons a l ih =>
    simp at ih ⊢
    exact ih

def bodyLen (x : NodeD) : Nat := List.length (α := Int) x.2.1
def safeLen (x : NodeD) : Nat := List.length (α := Int) x.2.2.1

theorem node_szN (x : NodeD) : shNode.sz x = bodyLen x + safeLen x := by
  refine Eq.trans (sz_Node x) ?_
  have h1 : Sh.sz (.sl .u8) x.2.1 = bodyLen x := bytes_sz x.2.1
  have h2 : Sh.sz (.sl .u8) x.2.2.1 = safeLen x := bytes_sz x.2.2.1
  exact (congrArg (· + Sh.sz (.sl .u8) x.2.2.1) h1).trans (congrArg (bodyLen x + ·) h2)

theorem used_sum (l : List NodeD) : ∀ k, k ≤ l.length → (((l.take k).map bodyLen).sum : Int) ≤ usedTo l k ∧ (((l.take k).map safeLen).sum : Int) ≤ usedTo l k := by
  intro k
  induction k with
  | zero =>
    intro _
    have h0 : usedTo l 0 = 0 := usedTo_zero l
    rw [h0]; simp
  | succ k ih =>
    intro hk
    have ⟨i1, i2⟩ := ih (by omega)
    have hk' : k < l.length := by omega
    have hx : shNode.at l k = some l[k] := List.getElem?_eq_getElem hk'
    have hu : usedTo l (k + 1) = usedTo l k + (if ((bodyLen l[k] : Nat) : Int) > ((safeLen l[k] : Nat) : Int) then ((bodyLen l[k] : Nat) : Int) else ((safeLen l[k] : Nat) : Int)) := usedTo_succ l k _ hx
    rw [List.take_succ_eq_append_getElem hk', List.map_append, List.map_append, List.sum_append, List.sum_append]
    simp only [List.map_cons, List.map_nil, List.sum_cons, List.sum_nil, Nat.add_zero]
    rw [hu]
    split <;> (refine ⟨?_, ?_⟩ <;> omega)

theorem sum_two (l : List NodeD) : (List.map shNode.sz l).sum = (l.map bodyLen).sum + (l.map safeLen).sum := by
  induction l with
  | nil => rfl
  | cons x l ih =>
    have h := node_szN x
    have e : (List.map shNode.sz (x :: l)).sum = shNode.sz x + (List.map shNode.sz l).sum := rfl
    refine e.trans ?_
    simp only [List.map_cons, List.sum_cons]
    omega

theorem body_sum {d : shDisk.D} (h : specOkP d) {nd : List NodeD} (hnd : nd = d.2.2.2.1) : (nd.map bodyLen).sum ≤ 60000 ∧ nd.length ≤ 8 ∧ Sh.sz (.sl shNode) nd ≤ 200000 := by
  obtain ⟨x0, e0⟩ : ∃ x : Int, x = d.1 := ⟨_, rfl⟩
  have lims := h.1
  have h8 : nd.length ≤ 8 := by rw [hnd]; exact lims.2.2.2.2.2.2.1
  have hr : x0 ≤ 60000 := by rw [e0]; exact lims.2.1
  have hu : usedTo nd nd.length ≤ x0 := by rw [hnd, e0]; exact h.2.2.2.2.2.2
  have h1 := used_sum nd nd.length (Nat.le_refl _)
  rw [List.take_length] at h1
  have h2 := sum_two nd
  have h3 : Sh.sz (.sl shNode) nd = nd.length + (List.map shNode.sz nd).sum := rfl
  refine ⟨by omega, h8, ?_⟩
  omega

theorem keep_sum (kl : List LinkD) (l : List NodeD) : ((keepN kl l).map bodyLen).sum ≤ (l.map bodyLen).sum := by
  unfold keepN
  induction l with
  | nil => simp
  | cons x l ih =>
    rw [List.filter_cons]
    split
    · simp only [List.map_cons, List.sum_cons]; omega
    · simp only [List.map_cons, List.sum_cons]; omega

theorem calm_sz {d : shDisk.D} (h : specOkP d) : shDisk.sz (calmD d) ≤ 1048576 := by
  obtain ⟨nd, hnd⟩ : ∃ l : List NodeD, l = d.2.2.2.1 := ⟨_, rfl⟩
  obtain ⟨hb, h8, _⟩ := body_sum h hnd
  have hall : List.take (α := TurnD) (List.length (α := TurnD) d.2.2.2.2.2.1) d.2.2.2.2.2.1 = d.2.2.2.2.2.1 := List.take_length
  have hn := names_disk h (List.length (α := TurnD) d.2.2.2.2.2.1)
  have hl := dirL_len d.2.2.2.2.1 d.2.2.2.2.2.1
  rw [hall] at hn
  have lims := h.1
  have l4 : List.length (α := LinkD) d.2.2.2.2.1 ≤ 8 := lims.2.2.2.2.2.2.2.1
  have l5 : List.length (α := TurnD) d.2.2.2.2.2.1 ≤ 40 := lims.2.2.2.2.2.2.2.2
  obtain ⟨DL, hDL⟩ : ∃ l : List LinkD, l = dirL d.2.2.2.2.1 d.2.2.2.2.2.1 := ⟨_, rfl⟩
  obtain ⟨K, hK⟩ : ∃ l : List NodeD, l = keepN DL nd := ⟨_, rfl⟩
  have hk := keep_sum DL nd
  have hkl : K.length ≤ 8 := by rw [hK]; exact Nat.le_trans (List.length_filter_le _ _) h8
  rw [← hDL] at hn hl
  rw [← hK] at hk
  have hL := bulkL_le DL hn
  have hz := bulkL_sz DL
  have e1 : (calmD d).2.2.2.1 = K.map calmN := by rw [hK, hDL, hnd]; rfl
  have e2 : (calmD d).2.2.2.2.1 = DL := by rw [hDL]; rfl
  have e3 : Sh.sz (.sl shTurn) (calmD d).2.2.2.2.2.1 = 0 := rfl
  have hcalm : ∀ m : List NodeD, (List.map shNode.sz (m.map calmN)).sum = 2 * (m.map bodyLen).sum := by
    intro m
    induction m with
    | nil => rfl
    | cons x m ih =>
      have h9 := node_szN (calmN x)
      have h10 : bodyLen (calmN x) = bodyLen x := rfl
      have h11 : safeLen (calmN x) = bodyLen x := rfl
      have e : (List.map shNode.sz ((x :: m).map calmN)).sum = shNode.sz (calmN x) + (List.map shNode.sz (m.map calmN)).sum := rfl
      rw [e, ih, h9]
      simp only [List.map_cons, List.sum_cons]
      omega
  have hN : Sh.sz (.sl shNode) (K.map calmN) ≤ 200000 := by
    show List.length (α := NodeD) (K.map calmN) + (List.map shNode.sz (K.map calmN)).sum ≤ _
    have := hcalm K
    rw [List.length_map]
    omega
  rw [sz_Disk, e3]
  have hA : Sh.sz (.sl shNode) (calmD d).2.2.2.1 ≤ 200000 := by rw [e1]; exact hN
  have hB : Sh.sz (.sl shLink) (calmD d).2.2.2.2.1 ≤ 1000 := by
    rw [e2]
    refine Nat.le_trans (Nat.le_of_eq hz) ?_
    omega
  omega

/-- A disk read off its parts. -/
theorem reads_Disk {w : World} {d : shDisk.D} {v3 v4 v5 : Value} (r3 : Reads (.sl shNode) w [v3] d.2.2.2.1) (r4 : Reads (.sl shLink) w [v4] d.2.2.2.2.1) (r5 : Reads (.sl shTurn) w [v5] d.2.2.2.2.2.1) :
    Reads shDisk w [.int .i64 d.1, .int .i64 d.2.1, .int .i64 d.2.2.1, v3, v4, v5] d :=
  ⟨[_], _, rfl, rfl, [_], _, rfl, rfl, [_], _, rfl, rfl, [_], _, rfl, r3, [_], _, rfl, r4, [_], _, rfl, r5, rfl⟩

/-- A row whose elements read as nodes. -/
theorem rows_reads {w : World} {B m : Nat} {v : Value} {Cs : List (List Value)} {ds : List NodeD} (h : w.ownsRow B 93 3 v m Cs.flatten) (h3 : ∀ x ∈ Cs, x.length = 3) (hC : Cs.length = m) (hD : ds.length = m)
    (he : ∀ (i : Nat) (c : List Value) (x : NodeD), Cs[i]? = some c → ds[i]? = some x → Reads shNode w c x) : Reads (.sl shNode) w [v] ds := by
  rcases h.2 with ⟨h1, h2⟩ | ⟨g, cap, cur, hv, hg, hh, hc1, hc2, hc3, hc4⟩
  · have : ds = [] := List.eq_nil_of_length_eq_zero (by omega)
    subst this
    rw [h1]
    exact ⟨none, 0, rfl, Nat.le_refl _, Nat.zero_le _, .inl rfl⟩
  · subst hv
    refine ⟨some ⟨g, 0, none⟩, cap, by show _ = [Value.slice _ ds.length cap]; rw [hD], by show ds.length ≤ cap; omega, hc2, .inr ⟨g, 0, rfl, (Array.getElem?_eq_some_iff.1 hh).1, fun i x hi => ?_⟩⟩
    have hx : ds[i]? = some x := hi
    have hil : i < ds.length := (List.getElem?_eq_some_iff.1 hx).1
    have hc : Cs[i]? = some Cs[i] := List.getElem?_eq_getElem (by omega)
    refine ⟨Cs[i], h3 _ (List.getElem_mem (by omega)), fun j hj => ?_, he i _ x hc hx⟩
    rw [Nat.zero_add]
    exact (row_cells h h3 hc hC j hj).1

/-- The nodes of a disk of the call's own, with their cells. -/
theorem rowP_own {w : World} {B : Nat} {a : Option Addr} {n c : Nat} {nd : List NodeD} {F : List Nat} (h : Own (.sl shNode) w B [.slice a n c] nd F) : ∃ P : List (List Value × NodeD), P.map Prod.snd = nd ∧ RowP w a P ∧ ∀ p ∈ P, ∃ f, Own shNode w B p.1 p.2 f := by
  have hl : List.length (α := NodeD) nd = n := (reads_len h.reads).1
  have key : ∀ k (hk : k < nd.length), ∃ c, (∃ f, Own shNode w B c nd[k] f) ∧ ∃ b off p1 m1 k1 p2 m2 k2, a = some ⟨b, off, none⟩ ∧ b < w.heap.size ∧ c = [.int .i64 (nd[k]).1, .slice p1 m1 k1, .slice p2 m2 k2] ∧
      w.cell? ⟨b, off + k * 3, none⟩ = some (.int .i64 (nd[k]).1) ∧ w.cell? ⟨b, off + k * 3 + 1, none⟩ = some (.slice p1 m1 k1) ∧ w.cell? ⟨b, off + k * 3 + 2, none⟩ = some (.slice p2 m2 k2) := by
    intro k hk
    obtain ⟨g, cc, x, f, rfl, hg, hx, hox, _, hcell⟩ := own_get h k (by omega)
    obtain ⟨hkd, hxe⟩ := at_some' hx
    obtain rfl : nd[k] = x := hxe
    obtain ⟨p1, m1, k1, F1, p2, m2, k2, F2, e, _, o1, o2⟩ := openO_Node hox
    subst e
    refine ⟨_, ⟨f, hox⟩, g, 0, p1, m1, k1, p2, m2, k2, rfl, hg, rfl, ?_, ?_, ?_⟩
    · rw [Nat.zero_add]; exact hcell 0 (by decide)
    · rw [Nat.zero_add]; exact hcell 1 (by decide)
    · rw [Nat.zero_add]; exact hcell 2 (by decide)
  refine ⟨(List.finRange nd.length).map fun i => (Classical.choose (key i.1 i.2), nd[i.1]), ?_, ?_, ?_⟩
  · rw [List.map_map]
    apply List.ext_getElem
    · simp
    · intro i h1 h2; simp
  · intro k hk
    have hk' : k < nd.length := by simpa using hk
    have hs := Classical.choose_spec (key k hk')
    obtain ⟨_, b, off, p1, m1, k1, p2, m2, k2, ha, hb, hc, c0, c1, c2⟩ := hs
    refine ⟨b, off, p1, m1, k1, p2, m2, k2, ha, hb, ?_, ?_, c1, c2⟩
    · simpa using hc
    · simpa using c0
  · intro p hp
    obtain ⟨i, _, rfl⟩ := List.mem_map.1 hp
    exact (Classical.choose_spec (key i.1 i.2)).1

/-- What the model's loop has done when k nodes are made calm: their bodies are those of w2, their safe contents rows of the call's own. -/
structure CalmR (w w2 : World) (R1 RB RT : Nat) (v : Value) (m k : Nat) (Cs : List (List Value)) (Q : List (List Value × NodeD)) : Prop where
  row : w.ownsRow RB 93 3 v m Cs.flatten
  len3 : ∀ x ∈ Cs, x.length = 3
  lenC : Cs.length = m
  el : ∀ (i : Nat) (c : List Value) (p : List Value × NodeD), i < k → Cs[i]? = some c → Q[i]? = some p → ∃ a1 n1 c1 v2 f1 f, c = [.int .i64 p.2.1, .slice a1 n1 c1, v2] ∧ Own (.sl .u8) w2 R1 [.slice a1 n1 c1] p.2.2.1 f1 ∧ Own (.sl .u8) w RT [v2] p.2.2.1 f
  old : ∀ i, k ≤ i → Cs[i]? = (Q.map Prod.fst)[i]?

theorem CalmR.later {w w' w2 : World} {R1 RB RT m k : Nat} {v : Value} {Cs : List (List Value)} {Q : List (List Value × NodeD)} (h : CalmR w w2 R1 RB RT v m k Cs Q) (hb : Below w.heap.size w w') : CalmR w' w2 R1 RB RT v m k Cs Q :=
  ⟨own_later h.row hb, h.len3, h.lenC, fun i c p hi hc hp => by
    obtain ⟨a1, n1, c1, v2, f1, f, e, r, o⟩ := h.el i c p hi hc hp
    exact ⟨a1, n1, c1, v2, f1, f, e, r, o.later hb⟩, h.old⟩

theorem CalmR.step {w w2 : World} {R1 RB RT g cap m k : Nat} {Cs : List (List Value)} {Q : List (List Value × NodeD)} (h : CalmR w w2 R1 RB RT (.slice (some ⟨g, 0, none⟩) m cap) m k Cs Q) (hk : k < m) (hg : g < RT)
    {p : List Value × NodeD} {a1 : Option Addr} {n1 c1 : Nat} {v2 : Value} {f1 f : List Nat} (hp : Q[k]? = some p) (hr : Own (.sl .u8) w2 R1 [.slice a1 n1 c1] p.2.2.1 f1) (ho : Own (.sl .u8) w RT [v2] p.2.2.1 f) :
    CalmR (((w.setCell ⟨g, k * 3, none⟩ (.int .i64 p.2.1)).setCell ⟨g, k * 3 + 1, none⟩ (.slice a1 n1 c1)).setCell ⟨g, k * 3 + 2, none⟩ v2) w2 R1 RB RT (.slice (some ⟨g, 0, none⟩) m cap) m (k + 1) (Cs.set k [.int .i64 p.2.1, .slice a1 n1 c1, v2]) Q := by
  have hC := h.lenC
  have keep : ∀ y, y ≠ g → (((w.setCell ⟨g, k * 3, none⟩ (.int .i64 p.2.1)).setCell ⟨g, k * 3 + 1, none⟩ (.slice a1 n1 c1)).setCell ⟨g, k * 3 + 2, none⟩ v2).heap[y]? = w.heap[y]? := fun y hy => (box_other _ hy).trans ((box_other _ hy).trans (box_other _ hy))
  refine ⟨row_set3 h.row h.len3 (by omega) _ _ _, fun y hy => ?_, by rw [List.length_set]; exact hC, fun i c q hi hc hq => ?_, fun i hi => ?_⟩
  · rcases List.mem_or_eq_of_mem_set hy with h1 | h1
    · exact h.len3 y h1
    · rw [h1]; rfl
  · by_cases e : i = k
    · subst e
      rw [List.getElem?_set_self (by omega)] at hc
      rw [hp] at hq
      obtain rfl := Option.some.inj hc
      obtain rfl := Option.some.inj hq
      exact ⟨a1, n1, c1, v2, f1, f, rfl, hr, ho.keep fun y hy => keep y (fun e9 => by have := (ho.lt y hy).1; omega)⟩
    · rw [List.getElem?_set_ne (fun e9 => e e9.symm)] at hc
      obtain ⟨b1, m1, d1, u2, f3, f2, e2, r2, o2⟩ := h.el i c q (by omega) hc hq
      exact ⟨b1, m1, d1, u2, f3, f2, e2, r2, o2.keep fun y hy => keep y (fun e9 => by have := (o2.lt y hy).1; omega)⟩
  · rw [List.getElem?_set_ne (by omega)]
    exact h.old i (by omega)

theorem CalmR.reads {w w2 : World} {R1 RB RT m : Nat} {v : Value} {Cs : List (List Value)} {Q : List (List Value × NodeD)} (h : CalmR w w2 R1 RB RT v m m Cs Q) (hm : Q.length = m) (hb : ∀ q, R1 ≤ q → q < w2.heap.size → w.heap[q]? = w2.heap[q]?) : Reads (.sl shNode) w [v] (Q.map fun p => calmN p.2) := by
  have hlen : (Q.map fun p => calmN p.2).length = Q.length := List.length_map _
  refine rows_reads h.row h.len3 h.lenC (hlen.trans hm) (fun i c x hc hx => ?_)
  have hx' : (Q.map fun p => calmN p.2)[i]? = some x := hx
  rw [List.getElem?_map] at hx'
  obtain ⟨p, hp, rfl⟩ := Option.map_eq_some_iff.1 hx'
  obtain ⟨a1, n1, c1, v2, f1, f, rfl, r, o⟩ := h.el i c p (by have := (List.getElem?_eq_some_iff.1 hp).1; omega) hc hp
  exact ⟨[_], _, rfl, rfl, [_], _, rfl, (r.keep fun q hq => hb q (r.lt q hq).1 (r.lt q hq).2).reads, [_], _, rfl, o.reads, rfl⟩

end Go.Proofs.YtkjnbjohicgooaaGreat

/- OnlyS: l04Only of the model. By program (onlygen.py). -/
namespace Go.Proofs.YtkjnbjohicgooaaGreat
open Go.RowKit
set_option linter.unusedVariables false
set_option maxRecDepth 100000
set_option linter.unusedSimpArgs false

set_option maxRecDepth 100000 in
set_option maxHeartbeats 8000000 in
theorem specOnly_ok (x0 x1 x2 : Int) (a3 : Option Addr) (n3 c3 : Nat) (a4 : Option Addr) (n4 c4 : Nat) (a5 : Option Addr) (n5 c5 : Nat) (dd : shDisk.D) (kl : List LinkD) (P : List (List Value × NodeD)) (w : World)
    (hl : P.length = n3) (hn3 : n3 ≤ 1048576) (hP : RowP w a3 P) (hd : Reads shDisk w [.int .i64 x0, .int .i64 x1, .int .i64 x2, .slice a3 n3 c3, .slice a4 n4 c4, .slice a5 n5 c5] dd) (hs : shDisk.sz dd ≤ 1048576) (hI : idsL dd.2.2.2.2.1 dd.2.2.2.2.2.1 = idsK kl) :
    Calls Tryz.prog 73 #[.agg #[.int .i64 x0, .int .i64 x1, .int .i64 x2, .slice a3 n3 c3, .slice a4 n4 c4, .slice a5 n5 c5]] w fun e w' => ∃ va vc, e = .returned (.agg #[.int .i64 x0, .int .i64 x1, .int .i64 x2, .slice va (keepP kl P).length vc, .slice a4 n4 c4, .slice a5 n5 c5]) ∧ w'.ownsRow w.heap.size 93 3 (.slice va (keepP kl P).length vc) (keepP kl P).length (keepC kl P) ∧ Below w.heap.size w w' := by
  obtain ⟨i0, hi, hz0, hz1, hz2⟩ := info_parts infoNode
  have HL : Hid (P.length = n3) := hl
  have HP : Hid (RowP w a3 P) := hP
  have qids : Hid (∀ w', Below w.heap.size w w' → Calls Tryz.prog 63 #[.agg #[.int .i64 x0, .int .i64 x1, .int .i64 x2, .slice a3 n3 c3, .slice a4 n4 c4, .slice a5 n5 c5]] w' fun e w'' => ∃ ia nn ic, e = .returned (.slice ia nn ic) ∧ Reads (.sl .int) w'' [.slice ia nn ic] (idsK kl) ∧ Below w'.heap.size w' w'') := fun w' h' => by
    refine (specIds_ok _ dd w' (hd.later h') hs).mono ?_
    rintro e w'' ⟨g, c, rfl, ho, hb⟩
    exact ⟨_, _, _, rfl, hI ▸ ho.reads, hb⟩
  clear hl hP hd hs hI
  obtain ⟨W0, hW0⟩ : ∃ W0, W0 = ((w.alloc (.cells #[.int .i64 x0, .int .i64 x1, .int .i64 x2, .slice a3 n3 c3, .slice a4 n4 c4, .slice a5 n5 c5] 33)).alloc (.cells #[.int .i64 0, .int .i64 0, .int .i64 0, .slice none 0 0, .slice none 0 0, .slice none 0 0] 33)).alloc (.cells #[] 93) := ⟨_, rfl⟩
  obtain ⟨j0, j1, j2, isz⟩ := alloc3_heap w (.cells #[.int .i64 x0, .int .i64 x1, .int .i64 x2, .slice a3 n3 c3, .slice a4 n4 c4, .slice a5 n5 c5] 33) (.cells #[.int .i64 0, .int .i64 0, .int .i64 0, .slice none 0 0, .slice none 0 0, .slice none 0 0] 33) (.cells #[] 93)
  rw [← hW0] at j0 j1 j2 isz
  have bW0 : Below w.heap.size w W0 := by rw [hW0]; exact (((Below.refl _ _).alloc (Nat.le_refl _) _).alloc (by simp) _).alloc (by simp; omega) _
  have hrow0 : W0.ownsRow (w.heap.size + 1 + 1) 93 3 (.slice (some ⟨w.heap.size + 1 + 1, 0, none⟩) 0 0) 0 [] := by
    rw [hW0]
    have := World.ownsRow_lit (base := w.heap.size + 1 + 1) (e := 93) (size := 3) ((w.alloc (.cells #[.int .i64 x0, .int .i64 x1, .int .i64 x2, .slice a3 n3 c3, .slice a4 n4 c4, .slice a5 n5 c5] 33)).alloc (.cells #[.int .i64 0, .int .i64 0, .int .i64 0, .slice none 0 0, .slice none 0 0, .slice none 0 0] 33)) #[] 0 (by simp) (Nat.zero_le _) rfl
    simpa using this
  have HW0 : Hid (W0 = _) := hW0
  have HR0 : Hid (_ ∧ _ ∧ _) := ⟨j0, j1, hrow0⟩
  have c3' : W0.cell? ⟨w.heap.size, 3, none⟩ = some (.slice a3 n3 c3) := box_cell j0 rfl
  clear hW0 j0 j1 j2 hrow0
  go_enter Tryz.func73, Tryz.ntmps73
  go_wp2
  rw [← HW0.out]
  go_loopw [3, 10] (fun u i wr => ∃ (k : Nat) (v : Value), v = u ∧ k ≤ n3 ∧ i = .int .i64 k ∧ wr.heap[w.heap.size]? = some (.cells #[.int .i64 x0, .int .i64 x1, .int .i64 x2, .slice a3 n3 c3, .slice a4 n4 c4, .slice a5 n5 c5] 33 (0, 0)) ∧ wr.heap[w.heap.size + 1]? = some (.cells #[.int .i64 0, .int .i64 0, .int .i64 0, .slice none 0 0, .slice none 0 0, .slice none 0 0] 33 (0, 0)) ∧ wr.ownsRow (w.heap.size + 1 + 1) 93 3 v (keepP kl (P.take k)).length (keepC kl (P.take k)) ∧ w.heap.size + 1 + 1 + 1 ≤ wr.heap.size ∧ Below w.heap.size w wr) (fun _ i _ => n3 - (intOf i).toNat)
  case atStart => exact ⟨0, _, rfl, Nat.zero_le _, rfl, HR0.out.1, HR0.out.2.1, HR0.out.2.2, by omega, bW0⟩
  case round =>
    obtain ⟨k, v, rfl, hk, rfl, iA, iB, hown, hsz, hbel⟩ := hrel
    have hbs := hbel.size
    obtain ⟨m, hm⟩ : ∃ m, m = (keepP kl (P.take k)).length := ⟨_, rfl⟩
    rw [← hm] at hown
    obtain ⟨va, vc, rfl⟩ : ∃ a c, v = .slice a m c := by
      rcases hown.2 with ⟨h1, h2⟩ | ⟨g, cap, cur, hv, _⟩
      · exact ⟨none, 0, by rw [h1, h2]⟩
      · exact ⟨_, _, hv⟩
    have HM : Hid (m = (keepP kl (P.take k)).length) := hm
    by_cases hlt : k < n3
    · obtain ⟨b, off, p1, m1, k1, p2, m2, k2, rfl, hb, hpc, g0', g1', g2'⟩ := HP.out k (by rw [HL.out]; exact hlt)
      obtain ⟨p, hp⟩ : ∃ p, p = P[k]'(by rw [HL.out]; exact hlt) := ⟨_, rfl⟩
      rw [← hp] at hpc g0'
      have htk : P.take (k + 1) = P.take k ++ [p] := by rw [hp]; exact List.take_succ_eq_append_getElem (by rw [HL.out]; exact hlt)
      obtain ⟨y, hy⟩ : ∃ y, y = p.2.1 := ⟨_, rfl⟩
      rw [← hy] at hpc g0'
      have g0 : wr.cell? ⟨b, off + k * 3, none⟩ = some (.int .i64 y) := (hbel.cell (p := ⟨b, off + k * 3, none⟩) hb).trans g0'
      have g1 : wr.cell? ⟨b, off + k * 3 + 1, none⟩ = some (.slice p1 m1 k1) := (hbel.cell (p := ⟨b, off + k * 3 + 1, none⟩) hb).trans g1'
      have g2 : wr.cell? ⟨b, off + k * 3 + 2, none⟩ = some (.slice p2 m2 k2) := (hbel.cell (p := ⟨b, off + k * 3 + 2, none⟩) hb).trans g2'
      have hkn : (k : Int) < (n3 : Int) := by omega
      have hln : m ≤ k := by rw [hm]; exact Nat.le_trans (keepP_len _ _) (by rw [List.length_take]; omega)
      obtain ⟨W1, hW1⟩ : ∃ W1, W1 = wr.alloc (.cells #[.int .i64 y, .slice p1 m1 k1, .slice p2 m2 k2] 93) := ⟨_, rfl⟩
      have bW1 : Below wr.heap.size wr W1 := by rw [hW1]; exact (Below.refl _ _).alloc (Nat.le_refl _) _
      have hnb : W1.heap[wr.heap.size]? = some (.cells #[.int .i64 y, .slice p1 m1 k1, .slice p2 m2 k2] 93 (0, 0)) := by rw [hW1]; exact heap_alloc_new wr _
      have z1 : W1.heap.size = wr.heap.size + 1 := by rw [hW1]; simp
      have HW1 : Hid (W1 = _) := hW1
      have BX : Hid (∀ w', Below W1.heap.size W1 w' → w'.heap[w.heap.size]? = some (.cells #[.int .i64 x0, .int .i64 x1, .int .i64 x2, .slice (some ⟨b, off, none⟩) n3 c3, .slice a4 n4 c4, .slice a5 n5 c5] 33 (0, 0)) ∧ w'.heap[w.heap.size + 1]? = some (.cells #[.int .i64 0, .int .i64 0, .int .i64 0, .slice none 0 0, .slice none 0 0, .slice none 0 0] 33 (0, 0)) ∧ w'.heap[wr.heap.size]? = some (.cells #[.int .i64 y, .slice p1 m1 k1, .slice p2 m2 k2] 93 (0, 0))) := fun w' h' => ⟨(h'.block _ (by omega)).trans ((bW1.block _ (by omega)).trans iA), (h'.block _ (by omega)).trans ((bW1.block _ (by omega)).trans iB), (h'.block _ (by omega)).trans hnb⟩
      have BS : Hid (∀ w', Below W1.heap.size W1 w' → w'.cell? ⟨w.heap.size, 0, none⟩ = some (.int .i64 x0) ∧ w'.cell? ⟨w.heap.size, 1, none⟩ = some (.int .i64 x1) ∧ w'.cell? ⟨w.heap.size, 2, none⟩ = some (.int .i64 x2) ∧ w'.cell? ⟨w.heap.size, 3, none⟩ = some (.slice (some ⟨b, off, none⟩) n3 c3) ∧ w'.cell? ⟨w.heap.size, 4, none⟩ = some (.slice a4 n4 c4) ∧ w'.cell? ⟨w.heap.size, 5, none⟩ = some (.slice a5 n5 c5) ∧ w'.cell? ⟨wr.heap.size, 0, none⟩ = some (.int .i64 y)) := fun w' h' => by
        obtain ⟨h1, h2, h3⟩ := BX.out w' h'
        exact ⟨box_cell h1 rfl, box_cell h1 rfl, box_cell h1 rfl, box_cell h1 rfl, box_cell h1 rfl, box_cell h1 rfl, box_cell h3 rfl⟩
      have HOW : Hid (wr.ownsRow (w.heap.size + 1 + 1) 93 3 (.slice va m vc) m (keepC kl (P.take k))) := hown
      have bD : Below W1.heap.size W1 W1.drew := (Below.refl _ _).drew
      have bw1 := hbel.trans (bW1.mono hbs)
      have HPC : Hid (hasN (idsK kl) y = true → (keepP kl (P.take (k + 1))).length = m + 1 ∧ keepC kl (P.take (k + 1)) = keepC kl (P.take k) ++ [.int .i64 y, .slice p1 m1 k1, .slice p2 m2 k2]) := fun hq => by
        rw [htk, ← hpc, keepP_yes kl _ p (by rw [← hy]; exact hq), List.length_append, ← hm]
        exact ⟨rfl, keepC_yes kl _ p (by rw [← hy]; exact hq)⟩
      have HPN : Hid (hasN (idsK kl) y = false → (keepP kl (P.take (k + 1))).length = m ∧ keepC kl (P.take (k + 1)) = keepC kl (P.take k)) := fun hq => by
        rw [htk, keepP_no kl _ p (by rw [← hy]; exact hq), ← hm]
        exact ⟨rfl, keepC_no kl _ p (by rw [← hy]; exact hq)⟩
      obtain ⟨hq, ehq⟩ : ∃ q, q = hasN (idsK kl) y := ⟨_, rfl⟩
      rw [← ehq] at HPC HPN
      have qhas : Hid (∀ w' ia nn ic, Reads (.sl .int) w' [.slice ia nn ic] (idsK kl) → Calls Tryz.prog 62 #[.slice ia nn ic, .int .i64 y] w' fun e w'' => e = .returned (.bool hq) ∧ w'' = w') := fun w' ia nn ic hr' => by rw [ehq]; exact specHasInt_ok ia nn ic _ y w' hr'
      obtain ⟨s0, s1, s2, s3, s4, s5, s6⟩ := BS.out W1 (Below.refl _ _)
      clear hW1 hnb hp hy hpc g0' g1' g2' htk iA iB hown hm ehq
      go_wp2_with fail
      rw [← HW1.out]
      refine wp_region_held_drew (S := fun w' => w'.cell? ⟨w.heap.size, 0, none⟩ = some (.int .i64 x0) ∧ w'.cell? ⟨w.heap.size, 1, none⟩ = some (.int .i64 x1) ∧ w'.cell? ⟨w.heap.size, 2, none⟩ = some (.int .i64 x2) ∧ w'.cell? ⟨w.heap.size, 3, none⟩ = some (.slice (some ⟨b, off, none⟩) n3 c3) ∧ w'.cell? ⟨w.heap.size, 4, none⟩ = some (.slice a4 n4 c4) ∧ w'.cell? ⟨w.heap.size, 5, none⟩ = some (.slice a5 n5 c5) ∧ w'.cell? ⟨wr.heap.size, 0, none⟩ = some (.int .i64 y)) (by kernel_rfl) (BS.out _ bD) (fun hHeld => ?_)
      refine wpAnyH_take (i := 0) (v := .agg #[.int .i64 x0, .int .i64 x1, .int .i64 x2, .slice (some ⟨b, off, none⟩) n3 c3, .slice a4 n4 c4, .slice a5 n5 c5]) rfl (by kernel_rfl) (by kernel_rfl) (by kernel_rfl) (fun _ _ _ h => h) (Or.inl ⟨by kernel_rfl, ?_⟩) (by assumption) ?_
      · intro w9 hSw; (try dsimp only at hSw); go_simp
      simp only [Act.put, List.getElem_toArray, List.getElem_cons_succ, List.getElem_cons_zero, List.setIfInBounds_toArray, List.set_cons_zero, List.set_cons_succ]
      refine wpAnyH_take (i := 2) (v := .pointer (some ⟨wr.heap.size, 0, none⟩)) rfl (by kernel_rfl) (by kernel_rfl) (by kernel_rfl) (fun _ _ _ h => h) (Or.inl ⟨by kernel_rfl, ?_⟩) (by assumption) ?_
      · intro w9 hSw; (try dsimp only at hSw); go_simp
      simp only [Act.put, List.getElem_toArray, List.getElem_cons_succ, List.getElem_cons_zero, List.setIfInBounds_toArray, List.set_cons_zero, List.set_cons_succ]
      refine wpAnyH_take (i := 3) (v := .int .i64 y) rfl (by kernel_rfl) (by kernel_rfl) (by kernel_rfl) (fun _ _ _ h => h) (Or.inl ⟨by kernel_rfl, ?_⟩) (by assumption) ?_
      · intro w9 hSw; (try dsimp only at hSw); go_simp
      simp only [Act.put, List.getElem_toArray, List.getElem_cons_succ, List.getElem_cons_zero, List.setIfInBounds_toArray, List.set_cons_zero, List.set_cons_succ]
      refine wpAnyH_ready (rs := [1]) (by kernel_rfl) (by simp) ?_
      refine AllReadyH.cons rfl (fun K hK => ?_) AllReadyH.nil
      go_simp
      refine (qids.out _ (bw1.trans (bD.mono bw1.size))).mono ?_
      rintro e w2 ⟨ia, nn, ic, rfl, hr2, hb2⟩
      have d2 : Below W1.heap.size W1 w2 := bD.trans (hb2.mono bD.size)
      have HR2 : Hid (Reads (.sl .int) w2 [.slice ia nn ic] (idsK kl)) := hr2
      clear hr2 hb2
      go_wp2_with fail
      refine hK.out _ _ (BS.out w2 d2) (fun hHeld1 => ?_)
      clear hK
      refine wpAnyH_ready (rs := [4]) (by kernel_rfl) (by simp) ?_
      refine AllReadyH.cons rfl (fun K hK => ?_) AllReadyH.nil
      go_simp
      refine (qhas.out _ ia nn ic HR2.out).mono ?_
      rintro e w3 ⟨rfl, rfl⟩
      go_wp2_with fail
      refine hK.out _ _ (BS.out _ d2) (fun hHeld4 => ?_)
      clear hK
      refine wpAnyH_done (by kernel_rfl) ?_ _
      have br := bW1.trans (d2.mono bW1.size)
      have b2 := hbel.trans (br.mono hbs)
      have zr := br.size
      have HB2 : Hid _ := BX.out w3 d2
      have o2 := own_later HOW.out br
      have n0 : w3.cell? ⟨wr.heap.size, 0, none⟩ = some (.int .i64 y) := box_cell HB2.out.2.2 rfl
      have n1 : w3.cell? ⟨wr.heap.size, 1, none⟩ = some (.slice p1 m1 k1) := box_cell HB2.out.2.2 rfl
      have n2 : w3.cell? ⟨wr.heap.size, 2, none⟩ = some (.slice p2 m2 k2) := box_cell HB2.out.2.2 rfl
      cases hq with
      | false =>
        have e9 := HPN.out rfl
        have HE : Hid _ := e9
        clear e9 g0 g1 g2 s0 s1 s2 s3 s4 s5 s6
        go_wp2
        go_roundw
        case rel => exact ⟨k + 1, _, rfl, by omega, by go_num, HB2.out.1, HB2.out.2.1, by rw [HE.out.1, HE.out.2]; exact o2, by omega, b2⟩
        case measure => simp [intOf]; omega
      | true =>
        have e9 := HPC.out rfl
        have HE : Hid _ := e9
        clear e9 g0 g1 g2 s0 s1 s2 s3 s4 s5 s6
        go_wp2_with (at_builtin; refine wpList_append_src rfl _ _ 30 rfl (w.heap.size + 1 + 1) 93 i0 (.agg #[.int .i64 0, .slice none 0 0, .slice none 0 0]) 3 56 Tryz.underlying30 hi hz0 hz1 hz2 rfl (by decide) (.slice va m vc) m (keepC kl (P.take k)) rfl (o2.alloc _) (.slice (some ⟨w3.heap.size, 0, none⟩) 1 1) 1 [.int .i64 y, .slice p1 m1 k1, .slice p2 m2 k2] rfl rfl (.inr ⟨_, 1, rfl, cells_new w3 [.int .i64 y, .slice p1 m1 k1, .slice p2 m2 k2] 93⟩) ?c2 ?c3 ?c4 ?c5 ?_)
        case c2 => first | exact ⟨rfl, rfl, rfl⟩ | (intro u hu; simp at hu; rcases hu with rfl | rfl | rfl <;> rfl)
        case c3 => unfold maxLen; omega
        case c4 => omega
        case c5 => first | omega | (simp; omega)
        intro v4 w4 o4 gr4
        have b4 : Below w.heap.size w w4 := (b2.alloc b2.size _).grown gr4 (by have h9 := b2.size; simp; omega) (fun y h => by have := (o2.lt y h).1; omega)
        have gz := gr4.size
        have bl : ∀ q, q < w3.heap.size → q < w.heap.size + 1 + 1 → w4.heap[q]? = w3.heap[q]? := fun q h1 h2 => by
          rw [gr4.block q (by simp; omega) (fun e9 => by have h7 := (o2.lt q e9.symm).1; omega)]
          exact heap_alloc_old _ _ h1
        rw [← HE.out.2] at o4
        have HR4 : Hid (_ ∧ _ ∧ _ ∧ _) := ⟨(bl w.heap.size (by omega) (by omega)).trans HB2.out.1, (bl (w.heap.size + 1) (by omega) (by omega)).trans HB2.out.2.1, o4, b4⟩
        have HZ4 : Hid (w.heap.size + 1 + 1 + 1 ≤ w4.heap.size) := by show _ ≤ _; simp at gz; omega
        clear gr4 o2 bl o4 b4 n0 n1 n2 gz
        go_wp2
        go_roundw
        case rel => exact ⟨k + 1, _, rfl, by omega, by go_num, HR4.out.1, HR4.out.2.1, by rw [HE.out.1]; exact HR4.out.2.2.1, HZ4.out, HR4.out.2.2.2⟩
        case measure => simp [intOf]; omega
    · have e : k = n3 := by omega
      subst e
      have eT : P.take k = P := List.take_of_length_le (by rw [HL.out]; exact Nat.le_refl _)
      rw [eT] at hown HM
      clear hm
      have yb0 : wr.cell? ⟨w.heap.size, 0, none⟩ = some (.int .i64 x0) := box_cell iA rfl
      have yf0 : wr.frozen? ⟨w.heap.size, 0, none⟩ = false := box_frozen iA
      have yr0 : wr.cell? ⟨w.heap.size + 1, 0, none⟩ = some (.int .i64 0) := box_cell iB rfl
      have yg0 : wr.frozen? ⟨w.heap.size + 1, 0, none⟩ = false := box_frozen iB
      have yb1 : wr.cell? ⟨w.heap.size, 1, none⟩ = some (.int .i64 x1) := box_cell iA rfl
      have yf1 : wr.frozen? ⟨w.heap.size, 1, none⟩ = false := box_frozen iA
      have yr1 : wr.cell? ⟨w.heap.size + 1, 1, none⟩ = some (.int .i64 0) := box_cell iB rfl
      have yg1 : wr.frozen? ⟨w.heap.size + 1, 1, none⟩ = false := box_frozen iB
      have yb2 : wr.cell? ⟨w.heap.size, 2, none⟩ = some (.int .i64 x2) := box_cell iA rfl
      have yf2 : wr.frozen? ⟨w.heap.size, 2, none⟩ = false := box_frozen iA
      have yr2 : wr.cell? ⟨w.heap.size + 1, 2, none⟩ = some (.int .i64 0) := box_cell iB rfl
      have yg2 : wr.frozen? ⟨w.heap.size + 1, 2, none⟩ = false := box_frozen iB
      have yb3 : wr.cell? ⟨w.heap.size, 3, none⟩ = some (.slice a3 k c3) := box_cell iA rfl
      have yf3 : wr.frozen? ⟨w.heap.size, 3, none⟩ = false := box_frozen iA
      have yr3 : wr.cell? ⟨w.heap.size + 1, 3, none⟩ = some (.slice none 0 0) := box_cell iB rfl
      have yg3 : wr.frozen? ⟨w.heap.size + 1, 3, none⟩ = false := box_frozen iB
      have yb4 : wr.cell? ⟨w.heap.size, 4, none⟩ = some (.slice a4 n4 c4) := box_cell iA rfl
      have yf4 : wr.frozen? ⟨w.heap.size, 4, none⟩ = false := box_frozen iA
      have yr4 : wr.cell? ⟨w.heap.size + 1, 4, none⟩ = some (.slice none 0 0) := box_cell iB rfl
      have yg4 : wr.frozen? ⟨w.heap.size + 1, 4, none⟩ = false := box_frozen iB
      have yb5 : wr.cell? ⟨w.heap.size, 5, none⟩ = some (.slice a5 n5 c5) := box_cell iA rfl
      have yf5 : wr.frozen? ⟨w.heap.size, 5, none⟩ = false := box_frozen iA
      have yr5 : wr.cell? ⟨w.heap.size + 1, 5, none⟩ = some (.slice none 0 0) := box_cell iB rfl
      have yg5 : wr.frozen? ⟨w.heap.size + 1, 5, none⟩ = false := box_frozen iB
      have yz0 : ((wr.setCell ⟨w.heap.size, 3, none⟩ (.slice va m vc)).setCell ⟨w.heap.size + 1, 0, none⟩ (.int .i64 x0)).cell? ⟨w.heap.size + 1, 0, none⟩ = some (.int .i64 x0) := World.cell?_setCell_same _ _ _ (by rw [World.cell?_setCell_other _ _ _ _ (by simp)]; exact yr0)
      have yz1 : (((wr.setCell ⟨w.heap.size, 3, none⟩ (.slice va m vc)).setCell ⟨w.heap.size + 1, 0, none⟩ (.int .i64 x0)).setCell ⟨w.heap.size + 1, 1, none⟩ (.int .i64 x1)).cell? ⟨w.heap.size + 1, 1, none⟩ = some (.int .i64 x1) := World.cell?_setCell_same _ _ _ (by rw [World.cell?_setCell_other _ _ _ _ (by simp), World.cell?_setCell_other _ _ _ _ (by simp)]; exact yr1)
      have yz2 : ((((wr.setCell ⟨w.heap.size, 3, none⟩ (.slice va m vc)).setCell ⟨w.heap.size + 1, 0, none⟩ (.int .i64 x0)).setCell ⟨w.heap.size + 1, 1, none⟩ (.int .i64 x1)).setCell ⟨w.heap.size + 1, 2, none⟩ (.int .i64 x2)).cell? ⟨w.heap.size + 1, 2, none⟩ = some (.int .i64 x2) := World.cell?_setCell_same _ _ _ (by rw [World.cell?_setCell_other _ _ _ _ (by simp), World.cell?_setCell_other _ _ _ _ (by simp), World.cell?_setCell_other _ _ _ _ (by simp)]; exact yr2)
      have yz3 : (((((wr.setCell ⟨w.heap.size, 3, none⟩ (.slice va m vc)).setCell ⟨w.heap.size + 1, 0, none⟩ (.int .i64 x0)).setCell ⟨w.heap.size + 1, 1, none⟩ (.int .i64 x1)).setCell ⟨w.heap.size + 1, 2, none⟩ (.int .i64 x2)).setCell ⟨w.heap.size + 1, 3, none⟩ (.slice va m vc)).cell? ⟨w.heap.size + 1, 3, none⟩ = some (.slice va m vc) := World.cell?_setCell_same _ _ _ (by rw [World.cell?_setCell_other _ _ _ _ (by simp), World.cell?_setCell_other _ _ _ _ (by simp), World.cell?_setCell_other _ _ _ _ (by simp), World.cell?_setCell_other _ _ _ _ (by simp)]; exact yr3)
      have yz4 : ((((((wr.setCell ⟨w.heap.size, 3, none⟩ (.slice va m vc)).setCell ⟨w.heap.size + 1, 0, none⟩ (.int .i64 x0)).setCell ⟨w.heap.size + 1, 1, none⟩ (.int .i64 x1)).setCell ⟨w.heap.size + 1, 2, none⟩ (.int .i64 x2)).setCell ⟨w.heap.size + 1, 3, none⟩ (.slice va m vc)).setCell ⟨w.heap.size + 1, 4, none⟩ (.slice a4 n4 c4)).cell? ⟨w.heap.size + 1, 4, none⟩ = some (.slice a4 n4 c4) := World.cell?_setCell_same _ _ _ (by rw [World.cell?_setCell_other _ _ _ _ (by simp), World.cell?_setCell_other _ _ _ _ (by simp), World.cell?_setCell_other _ _ _ _ (by simp), World.cell?_setCell_other _ _ _ _ (by simp), World.cell?_setCell_other _ _ _ _ (by simp)]; exact yr4)
      have yz5 : (((((((wr.setCell ⟨w.heap.size, 3, none⟩ (.slice va m vc)).setCell ⟨w.heap.size + 1, 0, none⟩ (.int .i64 x0)).setCell ⟨w.heap.size + 1, 1, none⟩ (.int .i64 x1)).setCell ⟨w.heap.size + 1, 2, none⟩ (.int .i64 x2)).setCell ⟨w.heap.size + 1, 3, none⟩ (.slice va m vc)).setCell ⟨w.heap.size + 1, 4, none⟩ (.slice a4 n4 c4)).setCell ⟨w.heap.size + 1, 5, none⟩ (.slice a5 n5 c5)).cell? ⟨w.heap.size + 1, 5, none⟩ = some (.slice a5 n5 c5) := World.cell?_setCell_same _ _ _ (by rw [World.cell?_setCell_other _ _ _ _ (by simp), World.cell?_setCell_other _ _ _ _ (by simp), World.cell?_setCell_other _ _ _ _ (by simp), World.cell?_setCell_other _ _ _ _ (by simp), World.cell?_setCell_other _ _ _ _ (by simp), World.cell?_setCell_other _ _ _ _ (by simp)]; exact yr5)
      have HF : Hid (_ ∧ _) := ⟨own_lower (own_other (own_other (own_other (own_other (own_other (own_other (own_other hown w.heap.size 3 (.slice va m vc) (by omega)) (w.heap.size + 1) 0 (.int .i64 x0) (by omega)) (w.heap.size + 1) 1 (.int .i64 x1) (by omega)) (w.heap.size + 1) 2 (.int .i64 x2) (by omega)) (w.heap.size + 1) 3 (.slice va m vc) (by omega)) (w.heap.size + 1) 4 (.slice a4 n4 c4) (by omega)) (w.heap.size + 1) 5 (.slice a5 n5 c5) (by omega)) (B' := w.heap.size) (by omega), (((((((hbel.setCell (p := ⟨w.heap.size, 3, none⟩) (by simp) (.slice va m vc)).setCell (p := ⟨w.heap.size + 1, 0, none⟩) (by simp <;> omega) (.int .i64 x0)).setCell (p := ⟨w.heap.size + 1, 1, none⟩) (by simp <;> omega) (.int .i64 x1)).setCell (p := ⟨w.heap.size + 1, 2, none⟩) (by simp <;> omega) (.int .i64 x2)).setCell (p := ⟨w.heap.size + 1, 3, none⟩) (by simp <;> omega) (.slice va m vc)).setCell (p := ⟨w.heap.size + 1, 4, none⟩) (by simp <;> omega) (.slice a4 n4 c4)).setCell (p := ⟨w.heap.size + 1, 5, none⟩) (by simp <;> omega) (.slice a5 n5 c5))⟩
      clear hown iA iB
      go_wp2
      (try simp only [Exit.inBlock, Exit.then])
      refine bodyPost_ret (by simp [results, Tryz.results73, go_sem, yz0, yz1, yz2, yz3, yz4, yz5]; try rfl) rfl ?_
      exact ⟨va, vc, by rw [← HM.out], by rw [← HM.out]; exact HF.out.1, HF.out.2⟩

end Go.Proofs.YtkjnbjohicgooaaGreat

/- FlatT: Rows of turns: their cells, as the source of an append and as a row of the call's own. -/
namespace Go.Proofs.YtkjnbjohicgooaaGreat
open Go.RowKit
set_option linter.unusedVariables false
set_option maxRecDepth 100000

def cellsT (l : List TurnD) : List Value := l.flatMap fun x => [.int .i64 x.1, .string x.2.1, .string x.2.2.1, .int .i64 x.2.2.2.1]
def SmallT (l : List TurnD) : Prop := ∀ t ∈ l, t.2.1.size ≤ maxLen ∧ t.2.2.1.size ≤ maxLen

theorem reads_smallT {w : World} {a : Option Addr} {n cap : Nat} {l : List TurnD} (h : Reads (.sl shTurn) w [.slice a n cap] l) : SmallT l := by
  intro t ht
  obtain ⟨i, hi, rfl⟩ := List.mem_iff_getElem.1 ht
  have hl : List.length (α := TurnD) l = n := (reads_len h).1
  obtain ⟨b, off, c, x, _, _, hx, hr, _⟩ := reads_elem h i (by omega)
  obtain ⟨_, hxe⟩ := at_some' hx
  obtain ⟨_, h1, h2⟩ := open_Turn hr
  subst hxe
  exact ⟨h1, h2⟩

theorem cellsT_len (l : List TurnD) : (cellsT l).length = l.length * 4 := by
  unfold cellsT
  induction l with
  | nil => rfl
  | cons a l ih => rw [List.flatMap_cons, List.length_append, ih, List.length_cons]; simp; omega

theorem cellsT_one (l : List TurnD) : ∀ u ∈ cellsT l, u.oneCell' = true := by
  intro u hu
  unfold cellsT at hu
  obtain ⟨x, _, hx⟩ := List.mem_flatMap.1 hu
  simp at hx
  rcases hx with rfl | rfl | rfl | rfl <;> rfl

theorem src_turns {w : World} {B : Nat} {v : Value} {l : List TurnD} {F : List Nat} (h : Own (.sl shTurn) w B [v] l F) : Src w v l.length (cellsT l) := by
  obtain ⟨a, c, hv, h1, h2, h3⟩ := own_val h
  subst hv
  cases a with
  | none =>
    obtain ⟨k1, k2, k3⟩ := own_nil h
    have k4 : l = [] := k3
    subst k4
    subst k2
    exact .inl ⟨rfl, rfl, rfl⟩
  | some ad => exact .inr ⟨ad, c, rfl, reads_flat shTurn (fun x => [.int .i64 x.1, .string x.2.1, .string x.2.2.1, .int .i64 x.2.2.2.1]) (by decide) (fun w c x hr => (open_Turn hr).1) h.reads⟩

theorem own_turnsV {w : World} {B n : Nat} {v : Value} {t : TypeId} {l : List TurnD} (hl : l.length = n) (hs : SmallT l) (h : w.ownsRow B t 4 v n (cellsT l)) : ∃ F, Own (.sl shTurn) w B [v] l F ∧ F.Nodup ∧ (∀ y ∈ F, v.ownBlock = some y) ∧ ∃ a c, v = .slice a n c := by
  rcases h.2 with ⟨h1, h2⟩ | ⟨g, cap, cur, hv, _⟩
  · refine ⟨[], .inl ⟨by rw [h1], ?_, rfl⟩, by simp, by simp, none, 0, by rw [h1, h2]⟩
    show l.length = 0; omega
  · subst hv
    exact ⟨[g], own_flat shTurn (fun x => [.int .i64 x.1, .string x.2.1, .string x.2.2.1, .int .i64 x.2.2.2.1]) hl (fun x hx => own_Turn (hs x hx).1 (hs x hx).2) h, by simp, by simp [Value.ownBlock], _, _, rfl⟩

theorem own_linksW {w : World} {B n : Nat} {v : Value} {t : TypeId} {l : List LinkD} (hl : l.length = n) (hs : SmallS l) (h : w.ownsRow B t 2 v n (cellsL l)) : ∃ F, Own (.sl shLink) w B [v] l F ∧ F.Nodup ∧ (∀ y ∈ F, v.ownBlock = some y) ∧ ∃ a c, v = .slice a n c := by
  rcases h.2 with ⟨h1, h2⟩ | ⟨g, cap, cur, hv, _⟩
  · refine ⟨[], .inl ⟨by rw [h1], ?_, rfl⟩, by simp, by simp, none, 0, by rw [h1, h2]⟩
    show l.length = 0; omega
  · subst hv
    exact ⟨[g], own_links hl hs h, by simp, by simp [Value.ownBlock], _, _, rfl⟩

end Go.Proofs.YtkjnbjohicgooaaGreat

/- AppD: append of bytes to a new empty row ('append([]byte{}, b...)') as a step of a region that draws its order: what comes of it and where it lies. -/
namespace Go.Proofs.YtkjnbjohicgooaaGreat
open Go.RowKit
set_option linter.unusedVariables false
set_option maxRecDepth 100000

theorem wp_append_srcAt {P : Program} {w : World} {o : Oper} {a : Act} {K : Act → World → Prop} {Q : Exit → Act → World → Prop} (s x : Operand) (t : TypeId)
    (ho : o.op = .call { callee := .builtin .append, args := #[s, x], argTypes := #[t, t] })
    (base : Nat) (e : TypeId) (i : TypeInfo) (z : Value) (size bytes : Nat) (ht : P.underlying t = some (.slice e)) (hi : P.info? e = some i) (hz : i.zero = some z)
    (hsize : i.size = size) (hby : i.bytes = bytes) (hzs : z.cells.size = size) (hsz : 0 < size)
    (v : Value) (n : Nat) (xs : List Value) (hs : a.eval s = v) (hown : w.ownsRow base e size v n xs)
    (xv : Value) (m : Nat) (news : List Value) (hx : a.eval x = xv) (hl : news.length = m * size) (hsrc : Src w xv m news) (h1 : ∀ u ∈ news, u.oneCell' = true)
    (h63 : n + m ≤ maxLen) (hbytes : (n + m) * bytes ≤ 140737488355328) (hbase : base ≤ w.heap.size)
    (h : ∀ v' w', w'.ownsRow base e size v' (n + m) (xs ++ news) → w.grownBy w' v.ownBlock → (v'.ownBlock = v.ownBlock ∨ v'.ownBlock = some w.heap.size) → K (a.put o.dst v') w') : o.wp P a w K Q := by
  rcases hsrc with ⟨h2, rfl, rfl⟩ | ⟨ad, c, h2, h3⟩
  · have hrun := run_append_owned_none (P := P) (w := w) base t o.type e i size ht hi v n xs hown
    unfold Oper.wp execOp
    simp only [ho, resolve, invoke, builtin, Sem.run_bind, Sem.run_pure, Result.andThen_ok, List.map_toArray, List.map_cons, List.map_nil, hs, hx, h2, hrun]
    exact h v w (by simpa using hown) (World.grownBy.refl _ _) (.inl rfl)
  · obtain ⟨v', w', hr, k2, k3, _, k5⟩ := run_append_own_at (P := P) w base t o.type e i z size bytes ht hi hz hsize hby hzs hsz v n xs hown ad m c news hl h3 h1 h63 hbytes hbase
    unfold Oper.wp execOp
    simp only [ho, resolve, invoke, builtin, Sem.run_bind, Sem.run_pure, Result.andThen_ok, List.map_toArray, List.map_cons, List.map_nil, hs, hx, h2, hr]
    exact h v' w' k2 k3 k5

/-- 'append([]byte{}, b...)' where the empty row v lies in block g: the answer holds the bytes, in block g or in a new one. -/
theorem step_clone {w : World} {ops : Array Oper} {o : Oper} {a : Act} {K : Act → World → Prop} {Q : Exit → Act → World → Prop} {E : Prop} (hgd : o.guard = none) (s x : Operand)
    (ho : o.op = .call { callee := .builtin .append, args := #[s, x], argTypes := #[40, 40] })
    (base g : Nat) (hs : a.eval s = .slice (some ⟨g, 0, none⟩) 0 0) (hown : w.ownsRow base 5 1 (.slice (some ⟨g, 0, none⟩) 0 0) 0 [])
    (xv : Value) (zs : List Int) (hx : a.eval x = xv) (hsrc : Src w xv zs.length (zs.map (Value.int .u8))) (hz : ∀ i : Nat, 0 ≤ zs[i]?.getD 0 ∧ zs[i]?.getD 0 ≤ 255) (hlen : zs.length ≤ 1048576)
    (hbase : base ≤ w.heap.size)
    (h : ∀ v' w' F, Own (.sl .u8) w' base [v'] zs F → F.Nodup → (∀ y ∈ F, y = g ∨ y = w.heap.size) → w.grownBy w' (some g) → K (a.put o.dst v') w') :
    if Region.wanted o (yielded ops a.tmps) = true then Oper.wp Tryz.prog o a w K Q else E := by
  have hw : Region.wanted o (yielded ops a.tmps) = true := by simp [Region.wanted, hgd]
  rw [if_pos hw]
  obtain ⟨i0, hi, hz0, hz1, hz2⟩ := info_parts Tryz.infoB
  refine wp_append_srcAt s x 40 ho base 5 i0 (.int .u8 0) 1 1 Tryz.underlying40 hi hz0 hz1 hz2 rfl (by decide) _ 0 [] hs hown xv zs.length (zs.map (Value.int .u8)) hx (by simp) hsrc (bytes_one _) (by unfold maxLen; omega) (by omega) hbase ?_
  intro v' w' hown' hgr hat
  have hown2 : w'.ownsRow base 5 1 v' zs.length (zs.map (Value.int .u8)) := by simpa using hown'
  obtain ⟨F, hF, hnd⟩ := own_row rfl hz hown2
  have hFv : ∀ y ∈ F, v'.ownBlock = some y := by
    intro y hy
    rcases hown2.2 with ⟨hv, _⟩ | ⟨g', cap, cur, hv, _⟩
    · subst hv
      rcases hF with ⟨_, _, h3⟩ | ⟨g2, _, _, _, _, _, h3, _⟩
      · rw [h3] at hy; cases hy
      · simp at h3
    · subst hv
      rcases hF with ⟨h3, _⟩ | ⟨g2, cp, t, cur2, Cs, Fs, h3, _, _, _, _, _, _, _, h6, h7, he⟩
      · simp at h3
      · simp only [List.cons.injEq, Value.slice.injEq, Option.some.injEq, Addr.mk.injEq, and_true] at h3
        rw [h7] at hy
        rcases List.mem_cons.1 hy with rfl | hm
        · rw [h3.1]; rfl
        · obtain ⟨i, f, hi', hyf⟩ := mem_flatten_get hm
          exfalso
          have hil : i < Fs.length := (List.getElem?_eq_some_iff.1 hi').1
          have hil2 : i < zs.length := by have : Fs.length = zs.length := h6; omega
          have hC : ∃ c, Cs[i]? = some c := by
            rcases hc : Cs[i]? with _ | c
            · exfalso
              rename_i h5 _ _ _ _
              have : Cs.length ≤ i := by simpa using hc
              have h8 : Cs.length = zs.length := by assumption
              omega
            · exact ⟨c, rfl⟩
          obtain ⟨c, hc⟩ := hC
          have h9 : Own .u8 w' base c zs[i] f := he i c zs[i] f hc (List.getElem?_eq_getElem hil2) hi'
          have h10 : f = [] := h9.2
          rw [h10] at hyf; cases hyf
  refine h v' w' F hF hnd ?_ hgr
  intro y hy
  have h1 := hFv y hy
  rcases hat with h2 | h2
  · rw [h1] at h2; left; simpa [Value.ownBlock] using h2
  · rw [h1] at h2; right; simpa using h2

end Go.Proofs.YtkjnbjohicgooaaGreat

/- CopyS: The model's copy of a disk (l03Copy): all of it in memory of its own. -/
namespace Go.Proofs.YtkjnbjohicgooaaGreat
open Go.RowKit
set_option linter.unusedVariables false
set_option maxRecDepth 100000

theorem take_snocN (l : List NodeD) (k : Nat) (hk : k < l.length) (x : NodeD) (hx : l[k] = x) : l.take (k + 1) = l.take k ++ [x] := by
  rw [List.take_succ_eq_append_getElem hk, hx]

theorem node_bd {w : World} {B : Nat} {v : Value} {zs : List Int} {F : List Nat} (h : Own (.sl .u8) w B [v] zs F) : ∀ i : Nat, 0 ≤ zs[i]?.getD 0 ∧ zs[i]?.getD 0 ≤ 255 := by
  obtain ⟨a, c, hv, _⟩ := own_val h
  subst hv
  exact (reads_bytes h.reads).2.1.1

set_option maxRecDepth 100000 in
set_option maxHeartbeats 8000000 in
theorem specCopy_ok (cs : List Value) (d : shDisk.D) (B0 : Nat) (G : List Nat) (w : World) (ho : Own shDisk w B0 cs d G) (hs : shDisk.sz d ≤ 1048576) :
    Calls Tryz.prog 56 #[.agg cs.toArray] w fun e w' => ∃ cs' F, e = .returned (.agg cs'.toArray) ∧ Own shDisk w' w.heap.size cs' d F ∧ F.Nodup ∧ Below w.heap.size w w' := by
  obtain ⟨i0, hi, hz0, hz1, hz2⟩ := info_parts infoNode
  obtain ⟨a3, n3, c3, F3, a4, n4, c4, F4, a5, n5, c5, F5, rfl, _, o3, o4, o5⟩ := openO_Disk ho
  obtain ⟨x0, e0⟩ : ∃ x : Int, x = d.1 := ⟨_, rfl⟩
  obtain ⟨x1, e1⟩ : ∃ x : Int, x = d.2.1 := ⟨_, rfl⟩
  obtain ⟨x2, e2⟩ : ∃ x : Int, x = d.2.2.1 := ⟨_, rfl⟩
  have hs' := hs
  rw [sz_Disk] at hs'
  obtain ⟨nd, hnd⟩ : ∃ l : List NodeD, l = d.2.2.2.1 := ⟨_, rfl⟩
  obtain ⟨kp, hkp⟩ : ∃ l : List LinkD, l = d.2.2.2.2.1 := ⟨_, rfl⟩
  obtain ⟨tn, htn⟩ : ∃ l : List TurnD, l = d.2.2.2.2.2.1 := ⟨_, rfl⟩
  have l3 : nd.length = n3 := by rw [hnd]; exact (reads_len o3.reads).1
  have l4 : kp.length = n4 := by rw [hkp]; exact (reads_len o4.reads).1
  have l5 : tn.length = n5 := by rw [htn]; exact (reads_len o5.reads).1
  have s3 : n3 + (List.map shNode.sz nd).sum = Sh.sz (.sl shNode) d.2.2.2.1 := by rw [← l3, hnd]; rfl
  have s4 : n4 ≤ Sh.sz (.sl shLink) d.2.2.2.2.1 := by rw [← l4, hkp]; exact Nat.le_add_right _ _
  have s5 : n5 ≤ Sh.sz (.sl shTurn) d.2.2.2.2.2.1 := by rw [← l5, htn]; exact Nat.le_add_right _ _
  have hn3 : n3 + (List.map shNode.sz nd).sum ≤ 1048576 := by omega
  have hn45 : n4 + n5 ≤ 1048576 := by omega
  have hn3' : n3 ≤ 1048576 := by omega
  have HSN : Hid (n3 + (List.map shNode.sz nd).sum ≤ 1048576) := hn3
  rw [← hnd] at o3
  rw [← hkp] at o4
  rw [← htn] at o5
  have l3m : n3 ≤ c3 ∧ c3 ≤ maxLen := (reads_len o3.reads).2
  unfold maxLen at l3m
  have HR : Hid (Own (.sl shNode) w B0 [.slice a3 n3 c3] nd F3 ∧ Own (.sl shLink) w B0 [.slice a4 n4 c4] kp F4 ∧ Own (.sl shTurn) w B0 [.slice a5 n5 c5] tn F5) := ⟨o3, o4, o5⟩
  have HL : Hid (nd.length = n3 ∧ kp.length = n4 ∧ tn.length = n5 ∧ SmallS kp ∧ SmallT tn) := ⟨l3, l4, l5, reads_small o4.reads, reads_smallT o5.reads⟩
  have HD : Hid (x0 = d.1 ∧ x1 = d.2.1 ∧ x2 = d.2.2.1 ∧ nd = d.2.2.2.1 ∧ kp = d.2.2.2.2.1 ∧ tn = d.2.2.2.2.2.1) := ⟨e0, e1, e2, hnd, hkp, htn⟩
  rw [← e0, ← e1, ← e2]
  obtain ⟨W1, hW1⟩ : ∃ W, W = (w.alloc (.cells #[.int .i64 x0, .int .i64 x1, .int .i64 x2, .slice a3 n3 c3, .slice a4 n4 c4, .slice a5 n5 c5] 33)).alloc (.cells #[.int .i64 0, .int .i64 0, .int .i64 0, .slice none 0 0, .slice none 0 0, .slice none 0 0] 33) := ⟨_, rfl⟩
  have bW1 : Below w.heap.size w W1 := by rw [hW1]; exact ((Below.refl _ _).alloc (Nat.le_refl _) _).alloc (by simp) _
  have zW1 : W1.heap.size = w.heap.size + 2 := by rw [hW1]; simp
  have hbd : W1.heap[w.heap.size]? = some (.cells #[.int .i64 x0, .int .i64 x1, .int .i64 x2, .slice a3 n3 c3, .slice a4 n4 c4, .slice a5 n5 c5] 33 (0, 0)) := by
    rw [hW1]; exact (heap_alloc_old _ _ (by simp)).trans (heap_alloc_new w _)
  have hbr : W1.heap[w.heap.size + 1]? = some (.cells #[.int .i64 0, .int .i64 0, .int .i64 0, .slice none 0 0, .slice none 0 0, .slice none 0 0] 33 (0, 0)) := by
    rw [hW1]
    have := heap_alloc_new (w.alloc (.cells #[.int .i64 x0, .int .i64 x1, .int .i64 x2, .slice a3 n3 c3, .slice a4 n4 c4, .slice a5 n5 c5] 33)) (.cells #[.int .i64 0, .int .i64 0, .int .i64 0, .slice none 0 0, .slice none 0 0, .slice none 0 0] 33)
    simpa using this
  have HW1 : Hid (W1 = (w.alloc (.cells #[.int .i64 x0, .int .i64 x1, .int .i64 x2, .slice a3 n3 c3, .slice a4 n4 c4, .slice a5 n5 c5] 33)).alloc (.cells #[.int .i64 0, .int .i64 0, .int .i64 0, .slice none 0 0, .slice none 0 0, .slice none 0 0] 33)) := hW1
  have g00 := Gath.lit shNode 93 W1 (w.heap.size + 2) (by omega)
  rw [zW1] at g00
  have H0 : Hid (Gath shNode 93 (W1.alloc (.cells #[] 93)) (w.heap.size + 2) (.slice (some ⟨w.heap.size + 2, 0, none⟩) 0 0) 0 [] [] [] ∧ Below w.heap.size w (W1.alloc (.cells #[] 93)) ∧
      (W1.alloc (.cells #[] 93)).heap[w.heap.size]? = some (.cells #[.int .i64 x0, .int .i64 x1, .int .i64 x2, .slice a3 n3 c3, .slice a4 n4 c4, .slice a5 n5 c5] 33 (0, 0)) ∧ (W1.alloc (.cells #[] 93)).heap[w.heap.size + 1]? = some (.cells #[.int .i64 0, .int .i64 0, .int .i64 0, .slice none 0 0, .slice none 0 0, .slice none 0 0] 33 (0, 0))) :=
    ⟨g00, bW1.alloc bW1.size _, (heap_alloc_old _ _ (by omega)).trans hbd, (heap_alloc_old _ _ (by omega)).trans hbr⟩
  have hm0 : (0 : Nat) ≤ maxLen := Nat.zero_le _
  clear ho hs hs' o3 o4 o5 e0 e1 e2 hnd hkp htn l3 l4 l5 s3 s4 s5 hn3 hW1 hbd hbr g00
  go_enter Tryz.func56, Tryz.ntmps56
  go_wp2
  rw [← HW1.out]
  go_loopw [3, 10] (fun v i wr => ∃ (k : Nat) (vv : Value) (Cs : List (List Value)) (Fs : List (List Nat)), k ≤ n3 ∧ vv = v ∧ i = .int .i64 k ∧ Hid (Gath shNode 93 wr (w.heap.size + 2) vv k (nd.take k) Cs Fs) ∧ Below w.heap.size w wr ∧ w.heap.size + 2 ≤ wr.heap.size ∧
      Hid (wr.heap[w.heap.size]? = some (.cells #[.int .i64 x0, .int .i64 x1, .int .i64 x2, .slice a3 n3 c3, .slice a4 n4 c4, .slice a5 n5 c5] 33 (0, 0)) ∧ wr.heap[w.heap.size + 1]? = some (.cells #[.int .i64 0, .int .i64 0, .int .i64 0, .slice none 0 0, .slice none 0 0, .slice none 0 0] 33 (0, 0)))) (fun _ i _ => n3 - (intOf i).toNat)
  case atStart => exact ⟨0, _, [], [], Nat.zero_le _, rfl, rfl, H0.out.1, H0.out.2.1, by simp; omega, H0.out.2.2⟩
  case round =>
    obtain ⟨k, vv, Cs, Fs, hk, rfl, rfl, HG, hbel, hsz2, HBX⟩ := hrel
    have hbs := hbel.size
    by_cases hlt : k < n3
    · obtain ⟨g3, cc, x, fx, ha3, hg3, hx, hox, _, hcell⟩ := own_get HR.out.1 k hlt
      subst ha3
      obtain ⟨hkd, hxe⟩ := at_some' hx
      have hsx : shNode.sz x ≤ (List.map shNode.sz nd).sum := sz_elem shNode nd k x hx
      obtain ⟨p1, m1, k1, f1, p2, m2, k2, f2, rfl, _, ob, os⟩ := openO_Node hox
      obtain ⟨y0, ey0⟩ : ∃ y : Int, y = x.1 := ⟨_, rfl⟩
      obtain ⟨zb, ezb⟩ : ∃ z : List Int, z = x.2.1 := ⟨_, rfl⟩
      obtain ⟨zf, ezf⟩ : ∃ z : List Int, z = x.2.2.1 := ⟨_, rfl⟩
      rw [← ezb] at ob
      rw [← ezf] at os
      have hlb : zb.length ≤ 1048576 := by
        have h3 : List.length (α := Int) x.2.1 ≤ shNode.sz x := (sz_len x).1
        rw [← ezb] at h3; have := HSN.out; omega
      have hlf : zf.length ≤ 1048576 := by
        have h3 : List.length (α := Int) x.2.2.1 ≤ shNode.sz x := (sz_len x).2
        rw [← ezf] at h3; have := HSN.out; omega
      have hzb : Hid (∀ i : Nat, 0 ≤ zb[i]?.getD 0 ∧ zb[i]?.getD 0 ≤ 255) := node_bd ob
      have hzf : Hid (∀ i : Nat, 0 ≤ zf[i]?.getD 0 ∧ zf[i]?.getD 0 ≤ 255) := node_bd os
      have QB : Hid (∀ w', Below w.heap.size w w' → Src w' (.slice p1 m1 k1) zb.length (zb.map (Value.int .u8))) := fun w' h' => src_bytes (ob.later h')
      have QF : Hid (∀ w', Below w.heap.size w w' → Src w' (.slice p2 m2 k2) zf.length (zf.map (Value.int .u8))) := fun w' h' => src_bytes (os.later h')
      have g0 : wr.cell? ⟨g3, k * 3, none⟩ = some (.int .i64 y0) := by rw [ey0]; exact (hbel.cell (p := ⟨g3, k * 3 + 0, none⟩) hg3).trans (hcell 0 (by decide))
      have g1 : wr.cell? ⟨g3, k * 3 + 1, none⟩ = some (.slice p1 m1 k1) := (hbel.cell (p := ⟨g3, k * 3 + 1, none⟩) hg3).trans (hcell 1 (by decide))
      have g2 : wr.cell? ⟨g3, k * 3 + 2, none⟩ = some (.slice p2 m2 k2) := (hbel.cell (p := ⟨g3, k * 3 + 2, none⟩) hg3).trans (hcell 2 (by decide))
      have HX : Hid (nd.take (k + 1) = nd.take k ++ [(y0, zb, zf, ())]) := take_snocN nd k hkd _ (by rw [ey0, ezb, ezf]; exact hxe)
      have hkn : (k : Int) < (n3 : Int) := by omega
      obtain ⟨W3, hW3⟩ : ∃ W, W = wr.alloc (.cells #[.int .i64 y0, .slice p1 m1 k1, .slice p2 m2 k2] 93) := ⟨_, rfl⟩
      have bwr3 : Below wr.heap.size wr W3 := by rw [hW3]; exact (Below.refl _ _).alloc (Nat.le_refl _) _
      have zW3 : wr.heap.size < W3.heap.size := by rw [hW3]; simp
      have bW3 : Below w.heap.size w W3 := hbel.trans (bwr3.mono hbs)
      have hb3 : Below W3.heap.size W3 W3 := Below.refl _ _
      have hbn : W3.heap[wr.heap.size]? = some (.cells #[.int .i64 y0, .slice p1 m1 k1, .slice p2 m2 k2] 93 (0, 0)) := by rw [hW3]; exact heap_alloc_new wr _
      have yy0 : W3.cell? ⟨wr.heap.size, 0, none⟩ = some (.int .i64 y0) := box_cell hbn rfl
      have yy1 : W3.cell? ⟨wr.heap.size, 1, none⟩ = some (.slice p1 m1 k1) := box_cell hbn rfl
      have yy2 : W3.cell? ⟨wr.heap.size, 2, none⟩ = some (.slice p2 m2 k2) := box_cell hbn rfl
      have HW3 : Hid (W3 = wr.alloc (.cells #[.int .i64 y0, .slice p1 m1 k1, .slice p2 m2 k2] 93)) := hW3
      have HA1 : Hid ((W3.alloc (.cells #[] 5)).ownsRow W3.heap.size 5 1 (.slice (some ⟨W3.heap.size, 0, none⟩) 0 0) 0 []) := World.ownsRow_lit (base := W3.heap.size) (e := 5) (size := 1) W3 #[] 0 (Nat.le_refl _) hm0 rfl
      have HA2 : Hid (((W3.alloc (.cells #[] 5)).alloc (.cells #[] 5)).ownsRow W3.heap.size 5 1 (.slice (some ⟨W3.heap.size, 0, none⟩) 0 0) 0 []) := HA1.out.alloc _
      have HA3 : Hid (((W3.alloc (.cells #[] 5)).alloc (.cells #[] 5)).ownsRow W3.heap.size 5 1 (.slice (some ⟨W3.heap.size + 1, 0, none⟩) 0 0) 0 []) := by
        show World.ownsRow _ _ _ _ _ _ _
        have := World.ownsRow_lit (base := W3.heap.size) (e := 5) (size := 1) (W3.alloc (.cells #[] 5)) #[] 0 (by simp) hm0 rfl
        simpa using this
      have HB2 : Hid ((((W3.alloc (.cells #[] 5)).alloc (.cells #[] 5)).drew).ownsRow W3.heap.size 5 1 (.slice (some ⟨W3.heap.size, 0, none⟩) 0 0) 0 []) := HA2.out
      have HB3 : Hid ((((W3.alloc (.cells #[] 5)).alloc (.cells #[] 5)).drew).ownsRow W3.heap.size 5 1 (.slice (some ⟨W3.heap.size + 1, 0, none⟩) 0 0) 0 []) := HA3.out
      have NB : Hid (some wr.heap.size ≠ vv.ownBlock) := fun h => by have := (HG.out.row.lt _ h.symm).2; omega
      clear hcell hox hx hxe ey0 ezb ezf ob os hW3 hbn hsx
      go_wp2_with fail
      rw [← HW3.out]
      go_region_held3 (fun w' => w'.cell? ⟨wr.heap.size, 0, none⟩ = some (.int .i64 y0) ∧ w'.cell? ⟨wr.heap.size, 1, none⟩ = some (.slice p1 m1 k1) ∧ w'.cell? ⟨wr.heap.size, 2, none⟩ = some (.slice p2 m2 k2))
        (first | go_keep | (refine ⟨?_, ?_, ?_⟩ <;> first | assumption | (refine (hbB.cell ?_).trans ?_; (simp; omega); assumption) | (refine (hbA.cell ?_).trans ?_; (simp; omega); assumption)))
        (first | ((refine step_clone rfl _ _ (by rfl) W3.heap.size W3.heap.size (by rfl) HA1.out (.slice p1 m1 k1) zb (by rfl) (QB.out _ (bW3.trans ((((hb3).alloc (Nat.le_refl _) (.cells #[] 5)).drew).mono bW3.size))) hzb.out hlb (((hb3).alloc (Nat.le_refl _) (.cells #[] 5)).drew).size ?_; intro v6 wA FA oA ndA atA grA; have hbA : Below W3.heap.size W3 wA := (((hb3).alloc (Nat.le_refl _) (.cells #[] 5)).drew).grown grA (((hb3).alloc (Nat.le_refl _) (.cells #[] 5)).drew).size (fun y h => by cases h; omega); obtain ⟨a6, c6, rfl, _⟩ := own_val oA; have zA := grA.size)) | ((refine step_clone rfl _ _ (by rfl) W3.heap.size W3.heap.size (by rfl) HA2.out (.slice p1 m1 k1) zb (by rfl) (QB.out _ (bW3.trans (((((hb3).alloc (Nat.le_refl _) (.cells #[] 5)).alloc (by simp) (.cells #[] 5)).drew).mono bW3.size))) hzb.out hlb ((((hb3).alloc (Nat.le_refl _) (.cells #[] 5)).alloc (by simp) (.cells #[] 5)).drew).size ?_; intro v6 wA FA oA ndA atA grA; have hbA : Below W3.heap.size W3 wA := ((((hb3).alloc (Nat.le_refl _) (.cells #[] 5)).alloc (by simp) (.cells #[] 5)).drew).grown grA ((((hb3).alloc (Nat.le_refl _) (.cells #[] 5)).alloc (by simp) (.cells #[] 5)).drew).size (fun y h => by cases h; omega); obtain ⟨a6, c6, rfl, _⟩ := own_val oA; have zA := grA.size)) | ((refine step_clone rfl _ _ (by rfl) W3.heap.size (W3.heap.size + 1) (by rfl) HA3.out (.slice p1 m1 k1) zb (by rfl) (QB.out _ (bW3.trans (((((hb3).alloc (Nat.le_refl _) (.cells #[] 5)).alloc (by simp) (.cells #[] 5)).drew).mono bW3.size))) hzb.out hlb ((((hb3).alloc (Nat.le_refl _) (.cells #[] 5)).alloc (by simp) (.cells #[] 5)).drew).size ?_; intro v6 wA FA oA ndA atA grA; have hbA : Below W3.heap.size W3 wA := ((((hb3).alloc (Nat.le_refl _) (.cells #[] 5)).alloc (by simp) (.cells #[] 5)).drew).grown grA ((((hb3).alloc (Nat.le_refl _) (.cells #[] 5)).alloc (by simp) (.cells #[] 5)).drew).size (fun y h => by cases h; omega); obtain ⟨a6, c6, rfl, _⟩ := own_val oA; have zA := grA.size)) | ((refine step_clone rfl _ _ (by rfl) W3.heap.size wA.heap.size (by rfl) (World.ownsRow_lit (base := W3.heap.size) (e := 5) (size := 1) wA #[] 0 hbA.size hm0 rfl) (.slice p2 m2 k2) zf (by rfl) (QF.out _ (bW3.trans ((hbA.alloc hbA.size (.cells #[] 5)).mono bW3.size))) hzf.out hlf (hbA.alloc hbA.size (.cells #[] 5)).size ?_; intro v7 wB FB oB ndB atB grB; have hbB : Below W3.heap.size W3 wB := (hbA.alloc hbA.size (.cells #[] 5)).grown grB (hbA.alloc hbA.size (.cells #[] 5)).size (fun y h => by cases h; first | omega | exact hbA.size); obtain ⟨a7, c7, rfl, _⟩ := own_val oB; have zB := grB.size; have oA7 : Own (.sl .u8) wB W3.heap.size [.slice a6 zb.length c6] zb FA := oA.keep (fun y hy => by (have h1 := atA y hy; have h2 := (oA.lt y hy).2; simp at h1 zA; refine (grB.block y (by first | omega | (simp; omega)) (by first | (simp; omega) | (intro h9; cases h9; omega))).trans ?_; first | rfl | exact heap_alloc_old _ _ h2)); have dAB : ∀ y ∈ FB, y ∉ FA := (fun y hy hy2 => by have h1 := atA y hy2; have h2 := atB y hy; have h3 := (oA.lt y hy2).2; simp at h1 h2 zA; omega))) | ((refine step_clone rfl _ _ (by rfl) W3.heap.size (W3.heap.size + 1) (by rfl) (HB3.out.kept grA (.inr (by simp [Value.ownBlock]))) (.slice p2 m2 k2) zf (by rfl) (QF.out _ (bW3.trans ((hbA).mono bW3.size))) hzf.out hlf (hbA).size ?_; intro v7 wB FB oB ndB atB grB; have hbB : Below W3.heap.size W3 wB := (hbA).grown grB (hbA).size (fun y h => by cases h; first | omega | exact hbA.size); obtain ⟨a7, c7, rfl, _⟩ := own_val oB; have zB := grB.size; have oA7 : Own (.sl .u8) wB W3.heap.size [.slice a6 zb.length c6] zb FA := oA.keep (fun y hy => by (have h1 := atA y hy; have h2 := (oA.lt y hy).2; simp at h1 zA; refine (grB.block y (by first | omega | (simp; omega)) (by first | (simp; omega) | (intro h9; cases h9; omega))).trans ?_; first | rfl | exact heap_alloc_old _ _ h2)); have dAB : ∀ y ∈ FB, y ∉ FA := (fun y hy hy2 => by have h1 := atA y hy2; have h2 := atB y hy; have h3 := (oA.lt y hy2).2; simp at h1 h2 zA; omega))) | ((refine step_clone rfl _ _ (by rfl) W3.heap.size W3.heap.size (by rfl) (HB2.out.kept grA (.inr (by simp [Value.ownBlock]))) (.slice p2 m2 k2) zf (by rfl) (QF.out _ (bW3.trans ((hbA).mono bW3.size))) hzf.out hlf (hbA).size ?_; intro v7 wB FB oB ndB atB grB; have hbB : Below W3.heap.size W3 wB := (hbA).grown grB (hbA).size (fun y h => by cases h; first | omega | exact hbA.size); obtain ⟨a7, c7, rfl, _⟩ := own_val oB; have zB := grB.size; have oA7 : Own (.sl .u8) wB W3.heap.size [.slice a6 zb.length c6] zb FA := oA.keep (fun y hy => by (have h1 := atA y hy; have h2 := (oA.lt y hy).2; simp at h1 zA; refine (grB.block y (by first | omega | (simp; omega)) (by first | (simp; omega) | (intro h9; cases h9; omega))).trans ?_; first | rfl | exact heap_alloc_old _ _ h2)); have dAB : ∀ y ∈ FB, y ∉ FA := (fun y hy hy2 => by have h1 := atA y hy2; have h2 := atB y hy; have h3 := (oA.lt y hy2).2; simp at h1 h2 zA; omega))) | ((refine step_append_lies _ (by rfl) _ _ 30 (by rfl) (w.heap.size + 2) 93 i0 (.agg #[.int .i64 0, .slice none 0 0, .slice none 0 0]) 3 56 Tryz.underlying30 hi hz0 hz1 hz2 rfl (by decide) vv k Cs.flatten (by rfl) ((((HG.out.later bwr3).later hbB).row).alloc _) ⟨wB.heap.size, 0, none⟩ 1 _ [.int .i64 y0, .slice a6 zb.length c6, .slice a7 zf.length c7] (by rfl) rfl (cells_new wB _ _) (by intro u hu; simp at hu; rcases hu with rfl | rfl | rfl <;> rfl) (by omega) (by unfold maxLen; omega) (by omega) (by have := hbB.size; simp; omega) (wB.heap.size + 1) (by simp) ?_; intro g8 cap8 w8 hrow8 grow8 at8 lt8; have t0 : w8.cell? ⟨wr.heap.size, 0, none⟩ = some (.int .i64 y0) := grow8.cell ((World.cell?_alloc_lt (a := ⟨wr.heap.size, 0, none⟩) (h := by have := hbB.size; show wr.heap.size < _; omega) ..).trans ((hbB.cell (p := ⟨wr.heap.size, 0, none⟩) (by omega)).trans yy0)) NB.out; have t1 : w8.cell? ⟨wr.heap.size, 1, none⟩ = some (.slice p1 m1 k1) := grow8.cell ((World.cell?_alloc_lt (a := ⟨wr.heap.size, 1, none⟩) (h := by have := hbB.size; show wr.heap.size < _; omega) ..).trans ((hbB.cell (p := ⟨wr.heap.size, 1, none⟩) (by omega)).trans yy1)) NB.out; have t2 : w8.cell? ⟨wr.heap.size, 2, none⟩ = some (.slice p2 m2 k2) := grow8.cell ((World.cell?_alloc_lt (a := ⟨wr.heap.size, 2, none⟩) (h := by have := hbB.size; show wr.heap.size < _; omega) ..).trans ((hbB.cell (p := ⟨wr.heap.size, 2, none⟩) (by omega)).trans yy2)) NB.out)))
      all_goals
        have bB := bW3.trans (hbB.mono bW3.size)
        have bBs := bB.size
        have hbBs := hbB.size
        have b8 : Below w.heap.size w w8 := (bB.alloc bBs _).grown grow8 (by simp; omega) (fun y h => by have := (HG.out.row.lt y h).1; omega)
        have hvl : ∀ y ∈ vv.ownBlock.toList ++ Fs.flatten, w.heap.size + 2 ≤ y ∧ y < wr.heap.size := HG.out.lt
        have oN : Own shNode (wB.alloc (.cells #[.int .i64 y0, .slice a6 zb.length c6, .slice a7 zf.length c7] 93)) (w.heap.size + 2) [.int .i64 y0, .slice a6 zb.length c6, .slice a7 zf.length c7] (y0, zb, zf, ()) (FA ++ (FB ++ [])) :=
          (own_Node (d := (y0, zb, zf, ())) (oA7.base (by omega)) (oB.base (by omega))).later ((Below.refl _ _).alloc (Nat.le_refl _) _)
        have hnF : (FA ++ (FB ++ [])).Nodup := by
          rw [List.append_nil, List.nodup_append]
          exact ⟨ndA, ndB, fun a ha b hb e => dAB b hb (e ▸ ha)⟩
        have hdF : ∀ y ∈ FA ++ (FB ++ []), y ∉ vv.ownBlock.toList ++ Fs.flatten := by
          intro y hy hm
          have h1 := (hvl y hm).2
          rw [List.append_nil] at hy
          rcases List.mem_append.1 hy with h2 | h2
          · have := (oA7.lt y h2).1; omega
          · have := (oB.lt y h2).1; omega
        have hG8 := (((HG.out.later bwr3).later hbB).later ((Below.refl _ _).alloc (Nat.le_refl _) (.cells #[.int .i64 y0, .slice a6 zb.length c6, .slice a7 zf.length c7] 93))).push oN hnF hdF hrow8 grow8 (by
          rcases at8 with h | h
          · exact .inl h
          · right; simp; omega)
        have HG8 : Hid (Gath shNode 93 w8 (w.heap.size + 2) (.slice (some ⟨g8, 0, none⟩) (k + 1) cap8) (k + 1) (nd.take (k + 1)) (Cs ++ [[.int .i64 y0, .slice a6 zb.length c6, .slice a7 zf.length c7]]) (Fs ++ [FA ++ (FB ++ [])])) :=
          hG8.cast HX.out.symm
        have hold : ∀ y, y < w.heap.size + 2 → w8.heap[y]? = wr.heap[y]? := by
          intro y hy
          refine (grow8.block y (by simp; omega) (fun e => by have := (HG.out.row.lt y e.symm).1; omega)).trans ?_
          refine (heap_alloc_old _ _ (by omega)).trans ?_
          exact (hbB.block y (by omega)).trans (bwr3.block y (by omega))
        have HBX8 : Hid (w8.heap[w.heap.size]? = some (.cells #[.int .i64 x0, .int .i64 x1, .int .i64 x2, .slice (some ⟨g3, 0, none⟩) n3 c3, .slice a4 n4 c4, .slice a5 n5 c5] 33 (0, 0)) ∧ w8.heap[w.heap.size + 1]? = some (.cells #[.int .i64 0, .int .i64 0, .int .i64 0, .slice none 0 0, .slice none 0 0, .slice none 0 0] 33 (0, 0))) := ⟨(hold _ (by omega)).trans HBX.out.1, (hold _ (by omega)).trans HBX.out.2⟩
        have hsz8 : w.heap.size + 2 ≤ w8.heap.size := by have := grow8.size; simp at this; omega
        clear HG HBX hG8 oN hnF hdF hvl hold hrow8 grow8 at8 lt8 oA7 oA oB atA atB dAB grA grB hbA hbB t0 t1 t2 yy0 yy1 yy2 g0 g1 g2 HA1 HA2 HA3 HB2 HB3 NB
        go_wp2
        go_roundw
        case rel => exact ⟨k + 1, _, _, _, by omega, rfl, by go_num, HG8, b8, hsz8, HBX8⟩
        case measure => simp [intOf]; omega
    · have e : k = n3 := by omega
      subst e
      have hGa : Hid (Gath shNode 93 wr (w.heap.size + 2) vv k nd Cs Fs) := by
        have e9 : nd.take k = nd := List.take_of_length_le (by have := HL.out.1; omega)
        exact HG.out.cast e9
      clear HG
      obtain ⟨av, cv, rfl⟩ := hGa.out.form
      have zlt : w.heap.size < wr.heap.size := by omega
      have HLN : Hid (∀ y ∈ (Value.slice av k cv).ownBlock.toList ++ Fs.flatten, w.heap.size + 2 ≤ y ∧ y < wr.heap.size) := hGa.out.lt
      have q3 : wr.cell? ⟨w.heap.size, 3, none⟩ = some (.slice a3 k c3) := box_cell HBX.out.1 rfl
      have r3 : wr.frozen? ⟨w.heap.size, 3, none⟩ = false := box_frozen HBX.out.1
      have q4 : wr.cell? ⟨w.heap.size, 4, none⟩ = some (.slice a4 n4 c4) := box_cell HBX.out.1 rfl
      obtain ⟨U0, hU0⟩ : ∃ U, U = wr.setCell ⟨w.heap.size, 3, none⟩ (.slice av k cv) := ⟨_, rfl⟩
      have zU0 : U0.heap.size = wr.heap.size := by rw [hU0]; simp
      have bU0 : Below w.heap.size w U0 := by rw [hU0]; exact hbel.setCell (Nat.le_refl _) _
      have hd0 : U0.heap[w.heap.size]? = some (.cells #[.int .i64 x0, .int .i64 x1, .int .i64 x2, .slice av k cv, .slice a4 n4 c4, .slice a5 n5 c5] 33 (0, 0)) := by rw [hU0, box_set _ HBX.out.1]; rfl
      have hr0 : U0.heap[w.heap.size + 1]? = some (.cells #[.int .i64 0, .int .i64 0, .int .i64 0, .slice none 0 0, .slice none 0 0, .slice none 0 0] 33 (0, 0)) := by rw [hU0]; exact (box_other _ (by omega)).trans HBX.out.2
      have G0 : Gath shNode 93 U0 (w.heap.size + 2) (.slice av k cv) k nd Cs Fs := by rw [hU0]; exact hGa.out.other _ _ _ (by omega)
      have HU0 : Hid (U0 = wr.setCell ⟨w.heap.size, 3, none⟩ (.slice av k cv)) := hU0
      have aU0 : Below w.heap.size w (U0.alloc (.cells #[] 81)) := bU0.alloc bU0.size _
      have KL : Hid ((cellsL kp).length = n4 * 2 ∧ Src (U0.alloc (.cells #[] 81)) (.slice a4 n4 c4) n4 (cellsL kp) ∧ 0 + n4 ≤ maxLen ∧ wr.heap.size ≤ (U0.alloc (.cells #[] 81)).heap.size ∧ (0 + n4) * 24 ≤ 140737488355328) := by
        refine ⟨by rw [cellsL_len, HL.out.2.1], ?_, by unfold maxLen; omega, by simp; omega, by omega⟩
        have h2 := src_links (HR.out.2.1.later aU0)
        rw [HL.out.2.1] at h2; exact h2
      have KO : Hid ((U0.alloc (.cells #[] 81)).ownsRow wr.heap.size 81 2 (.slice (some ⟨wr.heap.size, 0, none⟩) 0 0) 0 []) := by
        show World.ownsRow _ _ _ _ _ _ _
        have := World.ownsRow_lit (base := wr.heap.size) (e := 81) (size := 2) U0 #[] 0 (by omega) hm0 rfl
        rw [zU0] at this; exact this
      have H0' : Hid (Below w.heap.size w U0 ∧ U0.heap[w.heap.size]? = some (.cells #[.int .i64 x0, .int .i64 x1, .int .i64 x2, .slice av k cv, .slice a4 n4 c4, .slice a5 n5 c5] 33 (0, 0)) ∧ U0.heap[w.heap.size + 1]? = some (.cells #[.int .i64 0, .int .i64 0, .int .i64 0, .slice none 0 0, .slice none 0 0, .slice none 0 0] 33 (0, 0)) ∧ Gath shNode 93 U0 (w.heap.size + 2) (.slice av k cv) k nd Cs Fs ∧ U0.heap.size = wr.heap.size) := ⟨bU0, hd0, hr0, G0, zU0⟩
      clear hU0 zU0 bU0 hd0 hr0 G0 aU0 HBX hGa H0
      obtain ⟨j0, hj, hy0, hy1, hy2⟩ := info_parts infoLink
      obtain ⟨t0, ht, hx0, hx1, hx2⟩ := info_parts infoTurn
      go_wp2_with (at_builtin; rw [← HU0.out]; refine wpList_append_src rfl _ _ 28 rfl wr.heap.size 81 j0 (.agg #[.string ByteArray.empty, .int .i64 0]) 2 24 Tryz.underlying28 hj hy0 hy1 hy2 rfl (by decide) _ 0 [] rfl KO.out (.slice a4 n4 c4) n4 (cellsL kp) rfl KL.out.1 KL.out.2.1 (cellsL_one _) KL.out.2.2.1 KL.out.2.2.2.2 KL.out.2.2.2.1 ?_)
      intro v1 w1 hown1 grow1
      have hown1' : w1.ownsRow wr.heap.size 81 2 v1 n4 (cellsL kp) := by simpa using hown1
      obtain ⟨FK, oK, ndK, atK, av1, cv1, rfl⟩ := own_linksW HL.out.2.1 HL.out.2.2.2.1 hown1'
      obtain ⟨bU0, hd0, hr0, G0, zU0⟩ := H0'.out
      have aU0 : Below U0.heap.size U0 (U0.alloc (.cells #[] 81)) := (Below.refl _ _).alloc (Nat.le_refl _) _
      have hold1 : ∀ y, y < wr.heap.size → w1.heap[y]? = U0.heap[y]? := fun y hy => (grow1.block y (by simp; omega) (by simp [Value.ownBlock]; omega)).trans (heap_alloc_old _ _ (by omega))
      have b1 : Below w.heap.size w w1 := (bU0.alloc bU0.size _).grown grow1 (by simp; omega) (fun y h => by simp [Value.ownBlock] at h; omega)
      have G1 : Gath shNode 93 w1 (w.heap.size + 2) (.slice av k cv) k nd Cs Fs := G0.keep fun y hy => hold1 y (by have := (G0.lt y hy).2; omega)
      have zl1 : wr.heap.size < w1.heap.size := by have := grow1.size; simp at this; omega
      have hlt1 : ∀ y ∈ FK, wr.heap.size ≤ y ∧ y < w1.heap.size := oK.lt
      obtain ⟨U1, hU1⟩ : ∃ U, U = w1.setCell ⟨w.heap.size, 4, none⟩ (.slice av1 n4 cv1) := ⟨_, rfl⟩
      have hd1 := (hold1 _ (by omega)).trans hd0
      have hr1 := (hold1 _ (by omega)).trans hr0
      have zlt1 : w.heap.size < w1.heap.size := by omega
      have q4' : w1.cell? ⟨w.heap.size, 4, none⟩ = some (.slice a4 n4 c4) := box_cell hd1 rfl
      have r4' : w1.frozen? ⟨w.heap.size, 4, none⟩ = false := box_frozen hd1
      have q5' : w1.cell? ⟨w.heap.size, 5, none⟩ = some (.slice a5 n5 c5) := box_cell hd1 rfl
      have bU1 : Below w.heap.size w U1 := by rw [hU1]; exact b1.setCell (Nat.le_refl _) _
      have zU1 : U1.heap.size = w1.heap.size := by rw [hU1]; simp
      have hd1' : U1.heap[w.heap.size]? = some (.cells #[.int .i64 x0, .int .i64 x1, .int .i64 x2, .slice av k cv, .slice av1 n4 cv1, .slice a5 n5 c5] 33 (0, 0)) := by rw [hU1, box_set _ hd1]; rfl
      have hr1' : U1.heap[w.heap.size + 1]? = some (.cells #[.int .i64 0, .int .i64 0, .int .i64 0, .slice none 0 0, .slice none 0 0, .slice none 0 0] 33 (0, 0)) := by rw [hU1]; exact (box_other _ (by omega)).trans hr1
      have G1' : Gath shNode 93 U1 (w.heap.size + 2) (.slice av k cv) k nd Cs Fs := by rw [hU1]; exact G1.other _ _ _ (by omega)
      have oK' : Own (.sl shLink) U1 wr.heap.size [.slice av1 n4 cv1] kp FK := by rw [hU1]; exact oK.keep fun y hy => box_other _ (by have := (hlt1 y hy).1; omega)
      have HU1 : Hid (U1 = w1.setCell ⟨w.heap.size, 4, none⟩ (.slice av1 n4 cv1)) := hU1
      have KT : Hid ((cellsT tn).length = n5 * 4 ∧ Src (U1.alloc (.cells #[] 95)) (.slice a5 n5 c5) n5 (cellsT tn) ∧ 0 + n5 ≤ maxLen ∧ w1.heap.size ≤ (U1.alloc (.cells #[] 95)).heap.size ∧ (0 + n5) * 48 ≤ 140737488355328) := by
        refine ⟨by rw [cellsT_len, HL.out.2.2.1], ?_, by unfold maxLen; omega, by simp; omega, by omega⟩
        have h2 := src_turns (HR.out.2.2.later (bU1.alloc bU1.size (.cells #[] 95)))
        rw [HL.out.2.2.1] at h2; exact h2
      have KO2 : Hid ((U1.alloc (.cells #[] 95)).ownsRow w1.heap.size 95 4 (.slice (some ⟨w1.heap.size, 0, none⟩) 0 0) 0 []) := by
        show World.ownsRow _ _ _ _ _ _ _
        have := World.ownsRow_lit (base := w1.heap.size) (e := 95) (size := 4) U1 #[] 0 (by omega) hm0 rfl
        rw [zU1] at this; exact this
      have H1' : Hid (Below w.heap.size w U1 ∧ U1.heap[w.heap.size]? = some (.cells #[.int .i64 x0, .int .i64 x1, .int .i64 x2, .slice av k cv, .slice av1 n4 cv1, .slice a5 n5 c5] 33 (0, 0)) ∧ U1.heap[w.heap.size + 1]? = some (.cells #[.int .i64 0, .int .i64 0, .int .i64 0, .slice none 0 0, .slice none 0 0, .slice none 0 0] 33 (0, 0)) ∧ Gath shNode 93 U1 (w.heap.size + 2) (.slice av k cv) k nd Cs Fs ∧ U1.heap.size = w1.heap.size ∧ Own (.sl shLink) U1 wr.heap.size [.slice av1 n4 cv1] kp FK) := ⟨bU1, hd1', hr1', G1', zU1, oK'⟩
      clear hown1 hown1' grow1 bU0 hd0 hr0 G0 zU0 aU0 hold1 b1 G1 hd1 hr1 bU1 zU1 hd1' hr1' G1' oK' oK atK hU1 H0' KL KO q3 r3 q4 HU0
      go_wp2_with (at_builtin; rw [← HU1.out]; refine wpList_append_src rfl _ _ 31 rfl w1.heap.size 95 t0 (.agg #[.int .i64 0, .string ByteArray.empty, .string ByteArray.empty, .int .i64 0]) 4 48 Tryz.underlying31 ht hx0 hx1 hx2 rfl (by decide) _ 0 [] rfl KO2.out (.slice a5 n5 c5) n5 (cellsT tn) rfl KT.out.1 KT.out.2.1 (cellsT_one _) KT.out.2.2.1 KT.out.2.2.2.2 KT.out.2.2.2.1 ?_)
      intro v2 w2 hown2 grow2
      have hown2' : w2.ownsRow w1.heap.size 95 4 v2 n5 (cellsT tn) := by simpa using hown2
      obtain ⟨FT, oT, ndT, atT, av2, cv2, rfl⟩ := own_turnsV HL.out.2.2.1 HL.out.2.2.2.2 hown2'
      obtain ⟨bU1, hd1, hr1, G1, zU1, oK⟩ := H1'.out
      have hold2 : ∀ y, y < w1.heap.size → w2.heap[y]? = U1.heap[y]? := fun y hy => (grow2.block y (by simp; omega) (by simp [Value.ownBlock]; omega)).trans (heap_alloc_old _ _ (by omega))
      have b2 : Below w.heap.size w w2 := (bU1.alloc bU1.size _).grown grow2 (by simp; omega) (fun y h => by simp [Value.ownBlock] at h; omega)
      have G2 : Gath shNode 93 w2 (w.heap.size + 2) (.slice av k cv) k nd Cs Fs := G1.keep fun y hy => hold2 y (by have := (G1.lt y hy).2; omega)
      have oK2 : Own (.sl shLink) w2 wr.heap.size [.slice av1 n4 cv1] kp FK := oK.keep fun y hy => hold2 y (by have := (oK.lt y hy).2; omega)
      have zl2 : w1.heap.size < w2.heap.size := by have := grow2.size; simp at this; omega
      have hltT : ∀ y ∈ FT, w1.heap.size ≤ y ∧ y < w2.heap.size := oT.lt
      have hd2 := (hold2 _ (by omega)).trans hd1
      have hr2 := (hold2 _ (by omega)).trans hr1
      have q0 : w2.cell? ⟨w.heap.size, 0, none⟩ = some (.int .i64 x0) := box_cell hd2 rfl
      have q1 : w2.cell? ⟨w.heap.size, 1, none⟩ = some (.int .i64 x1) := box_cell hd2 rfl
      have q2 : w2.cell? ⟨w.heap.size, 2, none⟩ = some (.int .i64 x2) := box_cell hd2 rfl
      have q3 : w2.cell? ⟨w.heap.size, 3, none⟩ = some (.slice av k cv) := box_cell hd2 rfl
      have q4 : w2.cell? ⟨w.heap.size, 4, none⟩ = some (.slice av1 n4 cv1) := box_cell hd2 rfl
      have q5 : w2.cell? ⟨w.heap.size, 5, none⟩ = some (.slice a5 n5 c5) := box_cell hd2 rfl
      have r5 : w2.frozen? ⟨w.heap.size, 5, none⟩ = false := box_frozen hd2
      have s0 : w2.cell? ⟨w.heap.size + 1, 0, none⟩ = some (.int .i64 0) := box_cell hr2 rfl
      have u0 : w2.frozen? ⟨w.heap.size + 1, 0, none⟩ = false := box_frozen hr2
      have s1 : w2.cell? ⟨w.heap.size + 1, 1, none⟩ = some (.int .i64 0) := box_cell hr2 rfl
      have u1 : w2.frozen? ⟨w.heap.size + 1, 1, none⟩ = false := box_frozen hr2
      have s2 : w2.cell? ⟨w.heap.size + 1, 2, none⟩ = some (.int .i64 0) := box_cell hr2 rfl
      have u2 : w2.frozen? ⟨w.heap.size + 1, 2, none⟩ = false := box_frozen hr2
      have s3 : w2.cell? ⟨w.heap.size + 1, 3, none⟩ = some (.slice none 0 0) := box_cell hr2 rfl
      have u3 : w2.frozen? ⟨w.heap.size + 1, 3, none⟩ = false := box_frozen hr2
      have s4 : w2.cell? ⟨w.heap.size + 1, 4, none⟩ = some (.slice none 0 0) := box_cell hr2 rfl
      have u4 : w2.frozen? ⟨w.heap.size + 1, 4, none⟩ = false := box_frozen hr2
      have s5 : w2.cell? ⟨w.heap.size + 1, 5, none⟩ = some (.slice none 0 0) := box_cell hr2 rfl
      have u5 : w2.frozen? ⟨w.heap.size + 1, 5, none⟩ = false := box_frozen hr2
      obtain ⟨FN, oN, ndN, inN⟩ := G2.own
      have hfin : ∃ W, W = (((((((w2.setCell ⟨w.heap.size, 5, none⟩ (.slice av2 n5 cv2)).setCell ⟨w.heap.size + 1, 0, none⟩ (.int .i64 x0)).setCell ⟨w.heap.size + 1, 1, none⟩ (.int .i64 x1)).setCell ⟨w.heap.size + 1, 2, none⟩ (.int .i64 x2)).setCell ⟨w.heap.size + 1, 3, none⟩ (.slice av k cv)).setCell ⟨w.heap.size + 1, 4, none⟩ (.slice av1 n4 cv1)).setCell ⟨w.heap.size + 1, 5, none⟩ (.slice av2 n5 cv2)) ∧ Own shDisk W w.heap.size [.int .i64 x0, .int .i64 x1, .int .i64 x2, .slice av k cv, .slice av1 n4 cv1, .slice av2 n5 cv2] d (FN ++ (FK ++ (FT ++ []))) ∧ Below w.heap.size w W ∧ (FN ++ (FK ++ (FT ++ []))).Nodup ∧ W.heap[w.heap.size + 1]? = some (.cells #[.int .i64 x0, .int .i64 x1, .int .i64 x2, .slice av k cv, .slice av1 n4 cv1, .slice av2 n5 cv2] 33 (0, 0)) := by
        refine ⟨_, rfl, ?_, ?_, ?_, ?_⟩
        · have keep : ∀ y, w.heap.size + 2 ≤ y → ((((((((w2.setCell ⟨w.heap.size, 5, none⟩ (.slice av2 n5 cv2)).setCell ⟨w.heap.size + 1, 0, none⟩ (.int .i64 x0)).setCell ⟨w.heap.size + 1, 1, none⟩ (.int .i64 x1)).setCell ⟨w.heap.size + 1, 2, none⟩ (.int .i64 x2)).setCell ⟨w.heap.size + 1, 3, none⟩ (.slice av k cv)).setCell ⟨w.heap.size + 1, 4, none⟩ (.slice av1 n4 cv1)).setCell ⟨w.heap.size + 1, 5, none⟩ (.slice av2 n5 cv2))).heap[y]? = w2.heap[y]? := fun y hy => ((box_other (b := w.heap.size + 1) (j := 5) _ (by omega)).trans ((box_other (b := w.heap.size + 1) (j := 4) _ (by omega)).trans ((box_other (b := w.heap.size + 1) (j := 3) _ (by omega)).trans ((box_other (b := w.heap.size + 1) (j := 2) _ (by omega)).trans ((box_other (b := w.heap.size + 1) (j := 1) _ (by omega)).trans ((box_other (b := w.heap.size + 1) (j := 0) _ (by omega)).trans (box_other (w := w2) (b := w.heap.size) (j := 5) _ (by omega))))))))
          have k1 : Own (.sl shNode) ((((((((w2.setCell ⟨w.heap.size, 5, none⟩ (.slice av2 n5 cv2)).setCell ⟨w.heap.size + 1, 0, none⟩ (.int .i64 x0)).setCell ⟨w.heap.size + 1, 1, none⟩ (.int .i64 x1)).setCell ⟨w.heap.size + 1, 2, none⟩ (.int .i64 x2)).setCell ⟨w.heap.size + 1, 3, none⟩ (.slice av k cv)).setCell ⟨w.heap.size + 1, 4, none⟩ (.slice av1 n4 cv1)).setCell ⟨w.heap.size + 1, 5, none⟩ (.slice av2 n5 cv2))) w.heap.size [.slice av k cv] nd FN := (oN.keep fun y hy => keep y (G2.lt y (inN y hy)).1).base (by omega)
          have k2 : Own (.sl shLink) ((((((((w2.setCell ⟨w.heap.size, 5, none⟩ (.slice av2 n5 cv2)).setCell ⟨w.heap.size + 1, 0, none⟩ (.int .i64 x0)).setCell ⟨w.heap.size + 1, 1, none⟩ (.int .i64 x1)).setCell ⟨w.heap.size + 1, 2, none⟩ (.int .i64 x2)).setCell ⟨w.heap.size + 1, 3, none⟩ (.slice av k cv)).setCell ⟨w.heap.size + 1, 4, none⟩ (.slice av1 n4 cv1)).setCell ⟨w.heap.size + 1, 5, none⟩ (.slice av2 n5 cv2))) w.heap.size [.slice av1 n4 cv1] kp FK := (oK2.keep fun y hy => keep y (by have := (hlt1 y hy).1; omega)).base (by omega)
          have k3 : Own (.sl shTurn) ((((((((w2.setCell ⟨w.heap.size, 5, none⟩ (.slice av2 n5 cv2)).setCell ⟨w.heap.size + 1, 0, none⟩ (.int .i64 x0)).setCell ⟨w.heap.size + 1, 1, none⟩ (.int .i64 x1)).setCell ⟨w.heap.size + 1, 2, none⟩ (.int .i64 x2)).setCell ⟨w.heap.size + 1, 3, none⟩ (.slice av k cv)).setCell ⟨w.heap.size + 1, 4, none⟩ (.slice av1 n4 cv1)).setCell ⟨w.heap.size + 1, 5, none⟩ (.slice av2 n5 cv2))) w.heap.size [.slice av2 n5 cv2] tn FT := (oT.keep fun y hy => keep y (by have := (hltT y hy).1; omega)).base (by omega)
          generalize ((((((((w2.setCell ⟨w.heap.size, 5, none⟩ (.slice av2 n5 cv2)).setCell ⟨w.heap.size + 1, 0, none⟩ (.int .i64 x0)).setCell ⟨w.heap.size + 1, 1, none⟩ (.int .i64 x1)).setCell ⟨w.heap.size + 1, 2, none⟩ (.int .i64 x2)).setCell ⟨w.heap.size + 1, 3, none⟩ (.slice av k cv)).setCell ⟨w.heap.size + 1, 4, none⟩ (.slice av1 n4 cv1)).setCell ⟨w.heap.size + 1, 5, none⟩ (.slice av2 n5 cv2))) = WW at k1 k2 k3 ⊢
          obtain ⟨h0, h1, h2, h3, h4, h5⟩ := HD.out
          subst h0 h1 h2 h3 h4 h5
          exact own_Disk k1 k2 k3
        · exact ((((((b2.setCell (Nat.le_refl _) _).setCell (by simp) _).setCell (by simp) _).setCell (by simp) _).setCell (by simp) _).setCell (by simp) _).setCell (by simp) _
        · rw [List.append_nil, List.nodup_append, List.nodup_append]
          refine ⟨ndN, ⟨ndK, ndT, fun a ha b hb e => by have h1 := (hlt1 a ha).2; have h2 := (hltT b hb).1; omega⟩, fun a ha b hb e => ?_⟩
          have h3 := (HLN.out a (inN a ha)).2
          rcases List.mem_append.1 hb with h | h
          · have h2 := (hlt1 b h).1; omega
          · have h2 := (hltT b h).1; omega
        · have h9 := (box_set (j := 5) (.slice av2 n5 cv2) (box_set (j := 4) (.slice av1 n4 cv1) (box_set (j := 3) (.slice av k cv) (box_set (j := 2) (.int .i64 x2) (box_set (j := 1) (.int .i64 x1) (box_set (j := 0) (.int .i64 x0) ((box_other (w := w2) (b := w.heap.size) (j := 5) (.slice av2 n5 cv2) (k := w.heap.size + 1) (by omega)).trans hr2)))))))
          rw [h9]; rfl
      obtain ⟨WF, hWF, oF, bF, nF, xF⟩ := hfin
      have HF : Hid (WF = (((((((w2.setCell ⟨w.heap.size, 5, none⟩ (.slice av2 n5 cv2)).setCell ⟨w.heap.size + 1, 0, none⟩ (.int .i64 x0)).setCell ⟨w.heap.size + 1, 1, none⟩ (.int .i64 x1)).setCell ⟨w.heap.size + 1, 2, none⟩ (.int .i64 x2)).setCell ⟨w.heap.size + 1, 3, none⟩ (.slice av k cv)).setCell ⟨w.heap.size + 1, 4, none⟩ (.slice av1 n4 cv1)).setCell ⟨w.heap.size + 1, 5, none⟩ (.slice av2 n5 cv2)) ∧ Own shDisk WF w.heap.size [.int .i64 x0, .int .i64 x1, .int .i64 x2, .slice av k cv, .slice av1 n4 cv1, .slice av2 n5 cv2] d (FN ++ (FK ++ (FT ++ []))) ∧ Below w.heap.size w WF ∧ (FN ++ (FK ++ (FT ++ []))).Nodup) := ⟨hWF, oF, bF, nF⟩
      have v0 : WF.cell? ⟨w.heap.size + 1, 0, none⟩ = some (.int .i64 x0) := box_cell xF rfl
      have v1 : WF.cell? ⟨w.heap.size + 1, 1, none⟩ = some (.int .i64 x1) := box_cell xF rfl
      have v2 : WF.cell? ⟨w.heap.size + 1, 2, none⟩ = some (.int .i64 x2) := box_cell xF rfl
      have v3 : WF.cell? ⟨w.heap.size + 1, 3, none⟩ = some (.slice av k cv) := box_cell xF rfl
      have v4 : WF.cell? ⟨w.heap.size + 1, 4, none⟩ = some (.slice av1 n4 cv1) := box_cell xF rfl
      have v5 : WF.cell? ⟨w.heap.size + 1, 5, none⟩ = some (.slice av2 n5 cv2) := box_cell xF rfl
      have zlt2 : w.heap.size < w2.heap.size := by omega
      have zlt3 : w.heap.size + 1 < w2.heap.size := by omega
      clear hWF oF bF nF xF oN ndN inN G2 G1 hd2 hr2 hd1 hr1 oK2 oK oT grow2 hown2 hown2' hold2 b2 bU1 zU1 KT KO2 H1' q4' r4' q5' atT ndK ndT hlt1 hltT
      go_wp2
      rw [← HF.out.1]
      exact bodyPost_ret (v := .agg #[.int .i64 x0, .int .i64 x1, .int .i64 x2, .slice av k cv, .slice av1 n4 cv1, .slice av2 n5 cv2]) (by simp [results, Tryz.results56, go_sem, v0, v1, v2, v3, v4, v5]) rfl ⟨_, _, rfl, HF.out.2.1, HF.out.2.2.2, HF.out.2.2.1⟩

end Go.Proofs.YtkjnbjohicgooaaGreat
