/-
  Rows of flat data of the call's own, in the words of 'Own'; cells of a new block; what is behind a slice of the call's own (for every shape).
-/
import Derived.Test.YtkjnbjohicgooaaGreatVB
import Derived.Deep.AppendLies
namespace Go.Proofs.YtkjnbjohicgooaaGreat
open Go.RowKit
set_option linter.unusedVariables false

theorem flatMap_flatten {α : Type} (cf : α → List Value) (l : List α) : (l.map cf).flatten = l.flatMap cf := by
  rw [List.flatMap_def]

theorem nils_flatten {α : Type} (l : List α) : (l.map fun _ => ([] : List Nat)).flatten = [] := by
  induction l with
  | nil => rfl
  | cons a l ih => simp [ih]

/-- A row of flat data. -/
theorem own_flat (e : Sh) (cf : e.D → List Value) {w : World} {B g n cap : Nat} {t : TypeId} {l : List e.D} (hl : l.length = n) (hcf : ∀ x ∈ l, Own e w B (cf x) x [])
    (h : w.ownsRow B t e.size (.slice (some ⟨g, 0, none⟩) n cap) n (l.flatMap cf)) : Own (.sl e) w B [.slice (some ⟨g, 0, none⟩) n cap] l [g] := by
  rcases h.2 with ⟨h1, _⟩ | ⟨g', cap', cur, hv, hg, hh, h1, h2, h3, h4⟩
  · simp at h1
  · simp only [Value.slice.injEq, Option.some.injEq, Addr.mk.injEq, and_true, true_and] at hv
    obtain ⟨rfl, rfl⟩ := hv
    refine .inr ⟨g, cap, t, cur, l.map cf, l.map (fun _ => []), ?_, hg, hh, ?_, h2, h3, ?_, ?_, ?_, ?_, ?_⟩
    · show _ = [Value.slice _ l.length cap]; rw [hl]
    · show l.length ≤ cap; omega
    · show cur.toList.take (l.length * e.size) = _
      rw [hl, h4, flatMap_flatten]
    · show (l.map _).length = l.length; simp
    · show (l.map _).length = l.length; simp
    · rw [nils_flatten]
    · intro i c x f hc hx hf
      have hx' : l[i]? = some x := hx
      rw [List.getElem?_map, hx'] at hc hf
      obtain rfl : cf x = c := Option.some.inj hc
      obtain rfl : [] = f := Option.some.inj hf
      exact hcf x (List.mem_of_getElem? hx')

theorem cells_new (w : World) (cs : List Value) (t : TypeId) : ∀ j u, cs[j]? = some u → (w.alloc (.cells cs.toArray t)).cell? ((⟨w.heap.size, 0, none⟩ : Addr).add j) = some u := by
  intro j u h
  have e : (⟨w.heap.size, 0, none⟩ : Addr).add j = ⟨w.heap.size, j, none⟩ := by cases j <;> simp [Addr.add]
  rw [e]
  exact box_cell (heap_alloc_new w _) (by simpa using h)

theorem cells_new' (w : World) (cs : List Value) (t : TypeId) (b : Nat) (hb : w.heap.size = b) : ∀ j u, cs[j]? = some u → (w.alloc (.cells cs.toArray t)).cell? ((⟨b, 0, none⟩ : Addr).add j) = some u := by
  subst hb; exact cells_new w cs t

theorem own_nil {e : Sh} {w : World} {B : Nat} {n c : Nat} {d : List e.D} {F : List Nat} (h : Own (.sl e) w B [.slice none n c] d F) : n = 0 ∧ c = 0 ∧ d = [] := by
  rcases h with ⟨h1, h2, _⟩ | ⟨g, cp, t, cur, Cs, Fs, h1, _⟩
  · simp only [List.cons.injEq, Value.slice.injEq, and_true, true_and] at h1
    exact ⟨h1.1, h1.2, List.eq_nil_of_length_eq_zero h2⟩
  · simp at h1

theorem own_block {e : Sh} {w : World} {B : Nat} {ad : Addr} {n c : Nat} {d : List e.D} {F : List Nat} (h : Own (.sl e) w B [.slice (some ad) n c] d F) : ∃ g, ad = ⟨g, 0, none⟩ ∧ B ≤ g ∧ g < w.heap.size ∧ g ∈ F := by
  rcases h with ⟨h1, h2, _⟩ | ⟨g, cp, t, cur, Cs, Fs, h1, h2, h3, _, _, _, _, _, _, h4, _⟩
  · simp at h1
  · simp only [List.cons.injEq, Value.slice.injEq, Option.some.injEq, and_true] at h1
    exact ⟨g, h1.1, h2, lt_heap h3, by rw [h4]; exact List.mem_cons_self⟩

/-- An element of a slice of the call's own. -/
theorem own_get {e : Sh} {w : World} {B : Nat} {a : Option Addr} {n cap : Nat} {d : List e.D} {F : List Nat} (h : Own (.sl e) w B [.slice a n cap] d F) (k : Nat) (hk : k < n) :
    ∃ g c x f, a = some ⟨g, 0, none⟩ ∧ g < w.heap.size ∧ e.at d k = some x ∧ Own e w B c x f ∧ (∀ y ∈ f, y ∈ F) ∧ ∀ j, j < e.size → w.cell? ⟨g, k * e.size + j, none⟩ = c[j]? := by
  rcases h with ⟨h1, h2, _⟩ | ⟨g, cp, t, cur, Cs, Fs, h1, hB, hh, hl, hm, hcs, h4, h5, h6, hFF, he⟩
  · simp only [List.cons.injEq, Value.slice.injEq, and_true] at h1
    omega
  · simp only [List.cons.injEq, Value.slice.injEq, and_true] at h1
    obtain ⟨rfl, hn, rfl⟩ := h1
    have hi : k < List.length d := by omega
    have hC : Cs[k]? = some Cs[k] := List.getElem?_eq_getElem (by omega)
    have hF : Fs[k]? = some Fs[k] := List.getElem?_eq_getElem (by omega)
    have hx : d[k]? = some d[k] := List.getElem?_eq_getElem hi
    have ho := he k _ _ _ hC hx hF
    have hall : ∀ (i : Nat) (c : List Value), Cs[i]? = some c → c.length = e.size := by
      intro i c hc
      have hil : i < Cs.length := (List.getElem?_eq_some_iff.1 hc).1
      have hid : i < List.length d := by omega
      exact e.ow_length (he i c (List.get d ⟨i, hid⟩) Fs[i] hc (List.getElem?_eq_getElem hid) (List.getElem?_eq_getElem (by omega)))
    refine ⟨g, Cs[k], d[k], Fs[k], rfl, lt_heap hh, hx, ho, fun y hy => by rw [hFF]; exact List.mem_cons_of_mem _ (List.mem_flatten.2 ⟨Fs[k], List.getElem_mem _, hy⟩), fun j hj => ?_⟩
    have hf := flatten_get hall hC hj
    have hlt : k * e.size + j < List.length d * e.size := by
      have : (k + 1) * e.size ≤ List.length d * e.size := Nat.mul_le_mul_right _ hi
      rw [Nat.add_mul] at this; omega
    rw [← h4, List.getElem?_take_of_lt hlt] at hf
    rw [← hf]
    simp [World.cell?, hh]

/-- The cells of a flat row, one behind the other. -/
theorem reads_flat (e : Sh) (cf : e.D → List Value) (h0 : 0 < e.size) (hcf : ∀ (w : World) (c : List Value) (x : e.D), Reads e w c x → c = cf x) {w : World} {ad : Addr} {n cap : Nat} {l : List e.D} (h : Reads (.sl e) w [.slice (some ad) n cap] l) :
    ∀ (j : Nat) (u : Value), (l.flatMap cf)[j]? = some u → w.cell? (ad.add j) = some u := by
  intro j u hu
  obtain ⟨a, cp, e1, hl, hm, h1⟩ := h
  simp only [List.cons.injEq, Value.slice.injEq, and_true] at e1
  obtain ⟨rfl, hn, rfl⟩ := e1
  rcases h1 with h1 | ⟨b, off, ha, hlt, hx⟩
  · have : l = [] := List.eq_nil_of_length_eq_zero h1
    subst this; simp at hu
  · obtain rfl : ad = ⟨b, off, none⟩ := Option.some.inj ha
    have hlen : ∀ x ∈ l, (cf x).length = e.size := by
      intro x hxm
      obtain ⟨i, hi, rfl⟩ := List.mem_iff_getElem.1 hxm
      obtain ⟨c, hc, _, hr⟩ := hx i l[i] (List.getElem?_eq_getElem hi)
      rw [← hcf _ _ _ hr, hc]
    rw [← flatMap_flatten] at hu
    have hall : ∀ (k : Nat) (d : List Value), (l.map cf)[k]? = some d → d.length = e.size := by
      intro k d hk
      rw [List.getElem?_map] at hk
      cases hlk : l[k]? with
      | none => rw [hlk] at hk; cases hk
      | some x =>
        rw [hlk] at hk
        obtain rfl : cf x = d := Option.some.inj hk
        exact hlen x (List.mem_of_getElem? hlk)
    have hj : j < l.length * e.size := by
      have h2 := (List.getElem?_eq_some_iff.1 hu).1
      rw [List.length_flatten] at h2
      have h3 : (l.map cf).map List.length = (l.map cf).map fun _ => e.size := List.map_congr_left fun d hd => by
        obtain ⟨x, hxm, rfl⟩ := List.mem_map.1 hd
        exact hlen x hxm
      rw [h3] at h2
      have h4 : ((l.map cf).map fun _ => e.size).sum = l.length * e.size := by rw [List.map_map]; clear h2 h3; induction l with
        | nil => simp
        | cons a t _ => simp [Function.comp_def, List.map_const', Nat.add_mul, Nat.add_comm]
      rw [h4] at h2
      exact h2
    have hdiv : j / e.size < l.length := (Nat.div_lt_iff_lt_mul h0).2 hj
    have hmod : j % e.size < e.size := Nat.mod_lt _ h0
    obtain ⟨c, hc, hcell, hr⟩ := hx (j / e.size) l[j / e.size] (List.getElem?_eq_getElem hdiv)
    have h5 : (l.map cf)[j / e.size]? = some c := by rw [List.getElem?_map, List.getElem?_eq_getElem hdiv, hcf _ _ _ hr]; rfl
    have h6 := flatten_get hall h5 hmod
    have h7 : j / e.size * e.size + j % e.size = j := Nat.div_add_mod' j e.size
    rw [h7, hu] at h6
    have h8 := hcell _ hmod
    rw [h7] at h8
    have e2 : (⟨b, off, none⟩ : Addr).add j = ⟨b, off + j, none⟩ := by cases j <;> simp [Addr.add]
    rw [e2, h8, ← h6]

end Go.Proofs.YtkjnbjohicgooaaGreat
