/-
  The helpers of the exact laws over shapes of data: what sz.. answers; slices of bytes in these words; a slice that is being filled.
-/
import Derived.Test.YtndlehogfedfaaaDoorOwnD
namespace Go.Proofs.YtndlehogfedfaaaDoor
open Go.RowKit
set_option linter.unusedVariables false

/-- What a function sz.. answers of data that hold c, where 'left' is left. -/
def szAns (c : Nat) (left : Int) : Int := if (c : Int) ≤ left then left - c else -1

theorem szAns_yes {c : Nat} {left : Int} (h : (c : Int) ≤ left) : szAns c left = left - c := if_pos h
theorem szAns_no {c : Nat} {left : Int} (h : ¬ (c : Int) ≤ left) : szAns c left = -1 := if_neg h

theorem sum_zero {α : Type} (l : List α) : (l.map fun _ => 0).sum = 0 := by
  induction l with
  | nil => rfl
  | cons a l ih => simp [ih]

/-- What the first k elements hold. -/
def szTo (e : Sh) (d : List e.D) (k : Nat) : Nat := ((d.take k).map e.sz).sum

theorem szTo_zero (e : Sh) (d : List e.D) : szTo e d 0 = 0 := by simp [szTo]

theorem szTo_succ (e : Sh) (d : List e.D) (k : Nat) (x : e.D) (h : e.at d k = some x) : szTo e d (k + 1) = szTo e d k + e.sz x := by
  have hk : k < d.length := by
    rcases Nat.lt_or_ge k d.length with h' | h'
    · exact h'
    · rw [show e.at d k = none from List.getElem?_eq_none h'] at h; cases h
  have hx : d[k] = x := by
    have : d[k]? = some x := h
    rw [List.getElem?_eq_getElem hk] at this
    exact Option.some.inj this
  have e2 : d.take (k + 1) = d.take k ++ [x] := by rw [List.take_succ_eq_append_getElem hk, hx]
  unfold szTo
  rw [e2, List.map_append, List.sum_append]
  simp

theorem szTo_le (e : Sh) (d : List e.D) (k : Nat) : szTo e d k ≤ (d.map e.sz).sum := by
  unfold szTo
  conv => rhs; rw [← List.take_append_drop k d, List.map_append, List.sum_append]
  omega

theorem szTo_all (e : Sh) (d : List e.D) (k : Nat) (h : d.length ≤ k) : szTo e d k = (d.map e.sz).sum := by
  unfold szTo; rw [List.take_of_length_le h]

theorem sz_elem (e : Sh) (d : List e.D) (k : Nat) (x : e.D) (h : e.at d k = some x) : e.sz x ≤ (d.map e.sz).sum := by
  have := szTo_succ e d k x h
  have := szTo_le e d (k + 1)
  omega

/-- An element of a slice, in the walk's words. -/
theorem reads_elem {e : Sh} {w : World} {ad : Option Addr} {n cap : Nat} {d : List e.D} (h : Reads (.sl e) w [.slice ad n cap] d) (k : Nat) (hk : k < n) :
    ∃ b off c x, ad = some ⟨b, off, none⟩ ∧ b < w.heap.size ∧ e.at d k = some x ∧ Reads e w c x ∧ ∀ j, j < e.size → w.cell? ⟨b, off + (k * e.size + j), none⟩ = c[j]? := by
  obtain ⟨a, cp, e1, hl, hm, h0⟩ := h
  simp only [List.cons.injEq, Value.slice.injEq, and_true] at e1
  obtain ⟨rfl, hn, rfl⟩ := e1
  rcases h0 with h0 | ⟨b, off, rfl, hlt, hx⟩
  · omega
  · have hk' : k < d.length := by omega
    have hx1 : e.at d k = some d[k] := List.getElem?_eq_getElem hk'
    obtain ⟨c, hc, hcell, hr⟩ := hx k _ hx1
    exact ⟨b, off, c, d[k], rfl, hlt, hx1, hr, hcell⟩

theorem reads_len {e : Sh} {w : World} {ad : Option Addr} {n cap : Nat} {d : List e.D} (h : Reads (.sl e) w [.slice ad n cap] d) : d.length = n ∧ n ≤ cap ∧ cap ≤ maxLen := by
  obtain ⟨a, cp, e1, hl, hm, h0⟩ := h
  simp only [List.cons.injEq, Value.slice.injEq, and_true] at e1
  obtain ⟨rfl, hn, rfl⟩ := e1
  exact ⟨hn.symm, by omega, hm⟩

theorem flatten_single {α β : Type} (f : α → β) (l : List α) : (l.map fun x => [f x]).flatten = l.map f := by
  induction l with
  | nil => rfl
  | cons a l ih => simp [ih]

/-- A row of bytes of the call's own, in these words. -/
theorem own_bytes {w : World} {B g n cap : Nat} {d : List Int} (hl : d.length = n) (hb : ∀ i : Nat, 0 ≤ d[i]?.getD 0 ∧ d[i]?.getD 0 ≤ 255) (h : w.ownsRow B 5 1 (.slice (some ⟨g, 0, none⟩) n cap) n (d.map (Value.int .u8))) :
    Own (.sl .u8) w B [.slice (some ⟨g, 0, none⟩) n cap] d [g] := by
  rcases h.2 with ⟨h1, _⟩ | ⟨g', cap', cur, hv, hg, hh, h1, h2, h3, h4⟩
  · simp at h1
  · simp only [Value.slice.injEq, Option.some.injEq, Addr.mk.injEq, and_true, true_and] at hv
    obtain ⟨rfl, rfl⟩ := hv
    refine .inr ⟨g, cap, 5, cur, d.map (fun x => [Value.int .u8 x]), d.map (fun _ => []), ?_, hg, hh, ?_, h2, h3, ?_, ?_, ?_, ?_, ?_⟩
    · show _ = [Value.slice _ d.length cap]; rw [hl]
    · show d.length ≤ cap; omega
    · show cur.toList.take (d.length * 1) = _
      rw [hl, h4]
      exact (flatten_single (Value.int .u8) d).symm
    · show (d.map _).length = d.length; simp
    · show (d.map _).length = d.length; simp
    · have : ∀ l : List Int, (l.map fun _ => ([] : List Nat)).flatten = [] := by
        intro l; induction l with
        | nil => rfl
        | cons a l ih => simp [ih]
      rw [this]
    · intro i c x f hc hx hf
      have hx' : d[i]? = some x := hx
      rw [List.getElem?_map, hx'] at hc hf
      obtain rfl : [Value.int .u8 x] = c := Option.some.inj hc
      obtain rfl : [] = f := Option.some.inj hf
      have := hb i
      rw [hx'] at this
      exact ⟨⟨rfl, this⟩, rfl⟩

theorem eqByteS_reads (a b : Option Addr) (n ca cb : Nat) (d : List Int) (w : World) (hr1 : Reads (.sl .u8) w [.slice a n ca] d) (hr2 : Reads (.sl .u8) w [.slice b n cb] d) (hn : Sh.sz (.sl .u8) d ≤ 1048576) :
    Calls Tryd.prog 14 #[.slice a n ca, .slice b n cb] w fun e w' => e = .returned (.bool true) ∧ Below w.heap.size w w' := by
  obtain ⟨hl, hrd1, hc1, hc2⟩ := reads_bytes hr1
  obtain ⟨_, hrd2, _, _⟩ := reads_bytes hr2
  have hs : Sh.sz (.sl .u8) d = n := by show List.length d + (List.map (fun _ => 0) d).sum = n; rw [sum_zero, hl]; rfl
  exact eqByteS_true a b n ca cb d w hl hrd1 hrd2 (by omega)

/-- The first k elements of a new row g of n elements are filled. -/
structure Fill (e : Sh) (t : TypeId) (w : World) (B g n k : Nat) (d : List e.D) : Prop where
  len : d.length = n
  le : k ≤ n
  row : ∃ (Cs : List (List Value)) (Fs : List (List Nat)) (zs : List Value), Cs.length = k ∧ Fs.length = k ∧ zs.length = (n - k) * e.size ∧ w.heap[g]? = some (.cells (Cs.flatten ++ zs).toArray t (0, 0)) ∧ (g :: Fs.flatten).Nodup ∧ (∀ x ∈ Fs.flatten, B ≤ x) ∧
    (∀ (i : Nat) (c : List Value) (x : e.D) (f : List Nat), Cs[i]? = some c → e.at d i = some x → Fs[i]? = some f → Own e w B c x f)
  bg : B ≤ g
  small : n ≤ maxLen

theorem Fill.full {e : Sh} {t : TypeId} {w : World} {B g n : Nat} {d : List e.D} (h : Fill e t w B g n n d) : ∃ F, Own (.sl e) w B [.slice (some ⟨g, 0, none⟩) n n] d F ∧ F.Nodup := by
  obtain ⟨Cs, Fs, zs, hC, hF, hz, hh, hnd, hB, ho⟩ := h.row
  have hl := h.len
  have hz0 : zs = [] := List.eq_nil_of_length_eq_zero (by rw [hz]; simp)
  subst hz0
  have hall : ∀ c ∈ Cs, c.length = e.size := by
    intro c hc
    obtain ⟨i, hi, rfl⟩ := List.mem_iff_getElem.1 hc
    have hid : i < d.length := by omega
    exact (ho i Cs[i] d[i] Fs[i] (List.getElem?_eq_getElem hi) (List.getElem?_eq_getElem hid) (List.getElem?_eq_getElem (by omega))).length
  have hfl : Cs.flatten.length = n * e.size := by
    rw [List.length_flatten]
    have : Cs.map List.length = Cs.map fun _ => e.size := List.map_congr_left hall
    rw [this]
    simp [List.map_const', hC]
  refine ⟨g :: Fs.flatten, .inr ⟨g, n, t, (Cs.flatten ++ []).toArray, Cs, Fs, ?_, h.bg, hh, ?_, h.small, ?_, ?_, ?_, ?_, rfl, ho⟩, hnd⟩
  · show _ = [Value.slice _ d.length n]; rw [hl]
  · show d.length ≤ n; omega
  · simp [hfl]
  · show ((Cs.flatten ++ []).toArray.toList).take (d.length * e.size) = Cs.flatten
    rw [hl, List.append_nil]
    exact List.take_of_length_le (by show Cs.flatten.length ≤ _; rw [hfl]; exact Nat.le_refl _)
  · show Cs.length = d.length; omega
  · show Fs.length = d.length; omega

/-- c laid from place p on. -/
def setRow (l : List Value) (p : Nat) : List Value → List Value
  | [] => l
  | v :: vs => setRow (l.set p v) (p + 1) vs

theorem setRow_at : ∀ (c A Z : List Value), c.length ≤ Z.length → setRow (A ++ Z) A.length c = A ++ (c ++ Z.drop c.length)
  | [], A, Z, _ => by simp [setRow]
  | v :: vs, A, [], h => by simp at h
  | v :: vs, A, z :: Z, h => by
    have e : (A ++ z :: Z).set A.length v = (A ++ [v]) ++ Z := by simp
    have := setRow_at vs (A ++ [v]) Z (by simpa using h)
    simp only [setRow]
    rw [e, show A.length + 1 = (A ++ [v]).length by simp, this]
    simp

theorem Fill.zero {e : Sh} {t : TypeId} {w : World} {B g n : Nat} {d : List e.D} {cur : Array Value} (hl : d.length = n) (hm : n ≤ maxLen) (hB : B ≤ g) (hh : w.heap[g]? = some (.cells cur t (0, 0))) (hc : cur.size = n * e.size) : Fill e t w B g n 0 d :=
  ⟨hl, Nat.zero_le _, ⟨[], [], cur.toList, rfl, rfl, by simp [hc], by simpa using hh, by simp, fun x hx => by simp at hx, fun i c x f hc => by simp at hc⟩, hB, hm⟩

theorem Fill.later {e : Sh} {t : TypeId} {w w' : World} {B g n k : Nat} {d : List e.D} (h : Fill e t w B g n k d) (hb : Below w.heap.size w w') : Fill e t w' B g n k d := by
  obtain ⟨Cs, Fs, zs, hC, hF, hz, hh, hnd, hBF, ho⟩ := h.row
  refine ⟨h.len, h.le, ⟨Cs, Fs, zs, hC, hF, hz, ?_, hnd, hBF, fun i c x f hc hx hf => (ho i c x f hc hx hf).later hb⟩, h.bg, h.small⟩
  have hg : g < w.heap.size := by
    rcases Nat.lt_or_ge g w.heap.size with h' | h'
    · exact h'
    · rw [Array.getElem?_eq_none h'] at hh; cases hh
  rw [hb.block g hg]; exact hh

theorem Fill.step {e : Sh} {t : TypeId} {w w1 w2 : World} {B g n k : Nat} {d : List e.D} {c : List Value} {x : e.D} {F : List Nat} (h : Fill e t w B g n k d) (hk : k < n) (hx : e.at d k = some x)
    (hb : Below w.heap.size w w1) (ho : Own e w1 w.heap.size c x F) (hF : F.Nodup) (hB : B ≤ w.heap.size)
    (hset : ∀ l : List Value, w1.heap[g]? = some (.cells l.toArray t (0, 0)) → w2.heap[g]? = some (.cells (setRow l (k * e.size) c).toArray t (0, 0))) (hoth : ∀ i, i ≠ g → w2.heap[i]? = w1.heap[i]?) :
    Fill e t w2 B g n (k + 1) d := by
  obtain ⟨Cs, Fs, zs, hC, hFs, hz, hh0, hnd, hBF, hown0⟩ := h.row
  have hg : g < w.heap.size := by
    rcases Nat.lt_or_ge g w.heap.size with h' | h'
    · exact h'
    · rw [Array.getElem?_eq_none h'] at hh0; cases hh0
  have hlow : ∀ y ∈ Fs.flatten, y < w.heap.size := by
    intro y hy
    obtain ⟨i, f, hi, hyf⟩ := mem_flatten_get hy
    have hil : i < Fs.length := by
      rcases Nat.lt_or_ge i Fs.length with h' | h'
      · exact h'
      · rw [List.getElem?_eq_none h'] at hi; cases hi
    have hid : i < d.length := by have := h.len; omega
    exact ((hown0 i Cs[i] d[i] f (List.getElem?_eq_getElem (by omega)) (List.getElem?_eq_getElem hid) hi).lt y hyf).2
  have hown : ∀ (i : Nat) (c : List Value) (x : e.D) (f : List Nat), Cs[i]? = some c → e.at d i = some x → Fs[i]? = some f → Own e w1 B c x f := fun i c x f h1 h2 h3 => (hown0 i c x f h1 h2 h3).later hb
  have hh : w1.heap[g]? = some (.cells (Cs.flatten ++ zs).toArray t (0, 0)) := (hb.block g hg).trans hh0
  have hcl := ho.length
  have hall : ∀ c ∈ Cs, c.length = e.size := by
    intro c hc
    obtain ⟨i, hi, rfl⟩ := List.mem_iff_getElem.1 hc
    have hid : i < d.length := by have := h.len; omega
    exact (hown i Cs[i] d[i] Fs[i] (List.getElem?_eq_getElem hi) (List.getElem?_eq_getElem hid) (List.getElem?_eq_getElem (by omega))).length
  have hfl : Cs.flatten.length = k * e.size := by
    rw [List.length_flatten]
    have : Cs.map List.length = Cs.map fun _ => e.size := List.map_congr_left hall
    rw [this]
    simp [List.map_const', hC]
  have hzl : c.length ≤ zs.length := by
    rw [hz, hcl]
    exact Nat.le_mul_of_pos_left _ (by omega)
  have hkeep : ∀ {c x f}, Own e w1 B c x f → g ∉ f → Own e w2 B c x f := fun ho' hgf => ho'.keep fun y hy => hoth y (fun e => hgf (e ▸ hy))
  have hgF : g ∉ F := fun hm => by have := (ho.lt g hm).1; omega
  refine ⟨h.len, by omega, ⟨Cs ++ [c], Fs ++ [F], zs.drop c.length, by simp [hC], by simp [hFs], ?_, ?_, ?_, ?_, ?_⟩, h.bg, h.small⟩
  · rw [List.length_drop, hz, hcl]
    have : n - k = (n - (k + 1)) + 1 := by omega
    rw [this, Nat.add_mul]; omega
  · have := hset _ hh
    rw [← hfl, setRow_at c _ zs hzl] at this
    rw [this]
    simp
  · rw [List.flatten_append]
    simp only [List.flatten_cons, List.flatten_nil, List.append_nil]
    rw [List.nodup_cons] at hnd ⊢
    refine ⟨?_, ?_⟩
    · intro hm
      rcases List.mem_append.1 hm with h' | h'
      · exact hnd.1 h'
      · exact hgF h'
    · rw [List.nodup_append]
      exact ⟨hnd.2, hF, fun a ha b hb e => by subst e; have h1 := hlow a ha; have h2 := (ho.lt a hb).1; omega⟩
  · intro y hy
    rw [List.flatten_append] at hy
    simp only [List.flatten_cons, List.flatten_nil, List.append_nil] at hy
    rcases List.mem_append.1 hy with h' | h'
    · exact hBF y h'
    · have := (ho.lt y h').1; omega
  · intro i c' x' f' hc' hx' hf'
    rw [List.getElem?_append] at hc' hf'
    by_cases hi : i < k
    · rw [if_pos (by omega)] at hc' hf'
      refine hkeep (hown i c' x' f' hc' hx' hf') (fun hm => ?_)
      rw [List.nodup_cons] at hnd
      exact hnd.1 (List.mem_flatten.2 ⟨f', List.mem_of_getElem? hf', hm⟩)
    · rw [if_neg (by omega)] at hc' hf'
      have hik : i = k := by
        rcases Nat.lt_or_ge k i with h' | h'
        · rw [List.getElem?_eq_none (by simp; omega)] at hc'; cases hc'
        · omega
      subst hik
      rw [hC, Nat.sub_self] at hc'
      rw [hFs, Nat.sub_self] at hf'
      obtain rfl : c = c' := by simpa using hc'
      obtain rfl : F = f' := by simpa using hf'
      obtain rfl : x = x' := Option.some.inj (hx.symm.trans hx')
      exact hkeep (ho.base hB) hgF

theorem Fill.flat {e : Sh} {t : TypeId} {w : World} {B g n k : Nat} {d : List e.D} (h : Fill e t w B g n k d) : ∃ l : List Value, l.length = n * e.size ∧ w.heap[g]? = some (.cells l.toArray t (0, 0)) := by
  obtain ⟨Cs, Fs, zs, hC, hFs, hz, hh, hnd, hBF, hown⟩ := h.row
  refine ⟨_, ?_, hh⟩
  have hall : ∀ c ∈ Cs, c.length = e.size := by
    intro c hc
    obtain ⟨i, hi, rfl⟩ := List.mem_iff_getElem.1 hc
    have hid : i < d.length := by have := h.len; have := h.le; omega
    exact (hown i Cs[i] d[i] Fs[i] (List.getElem?_eq_getElem hi) (List.getElem?_eq_getElem hid) (List.getElem?_eq_getElem (by omega))).length
  have hfl : Cs.flatten.length = k * e.size := by
    rw [List.length_flatten]
    have : Cs.map List.length = Cs.map fun _ => e.size := List.map_congr_left hall
    rw [this]
    simp [List.map_const', hC]
  have hk := h.le
  rw [List.length_append, hfl, hz, ← Nat.add_mul]
  congr 1; omega

theorem Fill.cell {e : Sh} {t : TypeId} {w : World} {B g n k : Nat} {d : List e.D} (h : Fill e t w B g n k d) (j : Nat) (hj : j < n * e.size) : (∃ u, w.cell? ⟨g, j, none⟩ = some u) ∧ w.frozen? ⟨g, j, none⟩ = false := by
  obtain ⟨l, hl, hh⟩ := h.flat
  exact ⟨⟨l[j], box_cell hh (by simp)⟩, box_frozen hh⟩

theorem Fill.lt {e : Sh} {t : TypeId} {w : World} {B g n k : Nat} {d : List e.D} (h : Fill e t w B g n k d) : g < w.heap.size := by
  obtain ⟨l, _, hh⟩ := h.flat
  rcases Nat.lt_or_ge g w.heap.size with h' | h'
  · exact h'
  · rw [Array.getElem?_eq_none h'] at hh; cases hh

end Go.Proofs.YtndlehogfedfaaaDoor
