/-
  Data in memory of the call's own: 'Own' (each slice a row in a block of its own, not frozen), with the blocks named; and the slice that is being filled ('Fill').
-/
import Derived.Test.YtpdgjejgjbjamaaShp
namespace Go.Proofs.Ytpdgjejgjbjamaa
open Go.RowKit
set_option linter.unusedVariables false

/-- In w the cells cs hold the data, in rows of the call's own: the blocks F, each from B on. -/
def Own : (s : Sh) → World → Nat → List Value → s.D → List Nat → Prop
  | .int, _, _, cs, d, F => cs = [Value.int .i64 d] ∧ F = []
  | .bool, _, _, cs, d, F => cs = [Value.bool d] ∧ F = []
  | .str, _, _, cs, d, F => (cs = [Value.string d] ∧ ByteArray.size d ≤ maxLen) ∧ F = []
  | .u8, _, _, cs, d, F => (cs = [Value.int .u8 d] ∧ isByte d) ∧ F = []
  | .none, _, _, cs, _, F => cs = [] ∧ F = []
  | .pair a b, w, B, cs, d, F => ∃ c1 c2 F1 F2, cs = c1 ++ c2 ∧ F = F1 ++ F2 ∧ Own a w B c1 d.1 F1 ∧ Own b w B c2 d.2 F2
  | .sl e, w, B, cs, d, F => (cs = [Value.slice Option.none 0 0] ∧ List.length d = 0 ∧ F = []) ∨
      ∃ (g cap : Nat) (t : TypeId) (cur : Array Value) (Cs : List (List Value)) (Fs : List (List Nat)), cs = [Value.slice (some ⟨g, 0, Option.none⟩) (List.length d) cap] ∧ B ≤ g ∧ w.heap[g]? = some (.cells cur t (0, 0)) ∧
        List.length d ≤ cap ∧ cap ≤ maxLen ∧ cur.size = cap * e.size ∧ cur.toList.take (List.length d * e.size) = Cs.flatten ∧ Cs.length = List.length d ∧ Fs.length = List.length d ∧ F = g :: Fs.flatten ∧
        ∀ (i : Nat) (c : List Value) (x : e.D) (f : List Nat), Cs[i]? = some c → e.at d i = some x → Fs[i]? = some f → Own e w B c x f

theorem Own.length : ∀ {s : Sh} {w : World} {B : Nat} {cs : List Value} {d : s.D} {F : List Nat}, Own s w B cs d F → cs.length = s.size
  | .int, _, _, _, _, _, h => by rw [h.1]; rfl
  | .bool, _, _, _, _, _, h => by rw [h.1]; rfl
  | .str, _, _, _, _, _, h => by rw [h.1.1]; rfl
  | .u8, _, _, _, _, _, h => by rw [h.1.1]; rfl
  | .none, _, _, _, _, _, h => by rw [h.1]; rfl
  | .pair a b, _, _, _, _, _, ⟨c1, c2, F1, F2, e, _, h1, h2⟩ => by rw [e, List.length_append, Own.length h1, Own.length h2]; rfl
  | .sl e, _, _, _, _, _, .inl ⟨h, _⟩ => by rw [h]; rfl
  | .sl e, _, _, _, _, _, .inr ⟨g, cap, t, cur, Cs, Fs, h, _⟩ => by rw [h]; rfl

theorem mem_flatten_get {l : List (List Nat)} {x : Nat} (h : x ∈ l.flatten) : ∃ (i : Nat) (f : List Nat), l[i]? = some f ∧ x ∈ f := by
  obtain ⟨f, hf, hx⟩ := List.mem_flatten.1 h
  obtain ⟨i, hi, rfl⟩ := List.mem_iff_getElem.1 hf
  exact ⟨i, l[i], List.getElem?_eq_getElem hi, hx⟩

theorem Own.lt : ∀ {s : Sh} {w : World} {B : Nat} {cs : List Value} {d : s.D} {F : List Nat}, Own s w B cs d F → ∀ g ∈ F, B ≤ g ∧ g < w.heap.size
  | .int, _, _, _, _, _, h => by rw [h.2]; intro g hg; cases hg
  | .bool, _, _, _, _, _, h => by rw [h.2]; intro g hg; cases hg
  | .str, _, _, _, _, _, h => by rw [h.2]; intro g hg; cases hg
  | .u8, _, _, _, _, _, h => by rw [h.2]; intro g hg; cases hg
  | .none, _, _, _, _, _, h => by rw [h.2]; intro g hg; cases hg
  | .pair a b, _, _, _, _, _, ⟨c1, c2, F1, F2, _, e, h1, h2⟩ => by
    rw [e]; intro g hg
    rcases List.mem_append.1 hg with h | h
    · exact h1.lt g h
    · exact h2.lt g h
  | .sl e, _, _, _, _, _, .inl ⟨_, _, h⟩ => by rw [h]; intro g hg; cases hg
  | .sl e, w, _, _, d, _, .inr ⟨g, cap, t, cur, Cs, Fs, _, hB, hh, _, _, _, _, hC, hF, hFF, he⟩ => by
    rw [hFF]; intro x hx
    rcases List.mem_cons.1 hx with rfl | h
    · refine ⟨hB, ?_⟩
      rcases Nat.lt_or_ge x w.heap.size with h | h
      · exact h
      · rw [Array.getElem?_eq_none h] at hh; cases hh
    · obtain ⟨i, f, hi, hxf⟩ := mem_flatten_get h
      have hil : i < Fs.length := by
        rcases Nat.lt_or_ge i Fs.length with h | h
        · exact h
        · rw [List.getElem?_eq_none h] at hi; cases hi
      have hd : i < List.length d := by omega
      exact (he i Cs[i] (List.get d ⟨i, hd⟩) f (List.getElem?_eq_getElem (by omega)) (List.getElem?_eq_getElem hd) hi).lt x hxf

theorem Own.keep : ∀ {s : Sh} {w w' : World} {B : Nat} {cs : List Value} {d : s.D} {F : List Nat}, Own s w B cs d F → (∀ g ∈ F, w'.heap[g]? = w.heap[g]?) → Own s w' B cs d F
  | .int, _, _, _, _, _, _, h, _ => h
  | .bool, _, _, _, _, _, _, h, _ => h
  | .str, _, _, _, _, _, _, h, _ => h
  | .u8, _, _, _, _, _, _, h, _ => h
  | .none, _, _, _, _, _, _, h, _ => h
  | .pair a b, _, _, _, _, _, _, ⟨c1, c2, F1, F2, e, eF, h1, h2⟩, hk => ⟨c1, c2, F1, F2, e, eF, h1.keep fun g hg => hk g (by rw [eF]; exact List.mem_append_left _ hg), h2.keep fun g hg => hk g (by rw [eF]; exact List.mem_append_right _ hg)⟩
  | .sl e, _, _, _, _, _, _, .inl h, _ => .inl h
  | .sl e, _, _, _, _, _, _, .inr ⟨g, cap, t, cur, Cs, Fs, hcs, hB, hh, h1, h2, h3, h4, h5, h6, hFF, he⟩, hk =>
    .inr ⟨g, cap, t, cur, Cs, Fs, hcs, hB, (hk g (by rw [hFF]; exact List.mem_cons_self)).trans hh, h1, h2, h3, h4, h5, h6, hFF, fun i c x f hc hx hf =>
      (he i c x f hc hx hf).keep fun y hy => hk y (by rw [hFF]; exact List.mem_cons_of_mem _ (List.mem_flatten.2 ⟨f, List.mem_of_getElem? hf, hy⟩))⟩

theorem Own.later {s : Sh} {w w' : World} {B : Nat} {cs : List Value} {d : s.D} {F : List Nat} (h : Own s w B cs d F) (hb : Below w.heap.size w w') : Own s w' B cs d F :=
  h.keep fun g hg => hb.block g (h.lt g hg).2

/-- A row from a lower block on. -/
theorem Own.base : ∀ {s : Sh} {w : World} {B B' : Nat} {cs : List Value} {d : s.D} {F : List Nat}, Own s w B cs d F → B' ≤ B → Own s w B' cs d F
  | .int, _, _, _, _, _, _, h, _ => h
  | .bool, _, _, _, _, _, _, h, _ => h
  | .str, _, _, _, _, _, _, h, _ => h
  | .u8, _, _, _, _, _, _, h, _ => h
  | .none, _, _, _, _, _, _, h, _ => h
  | .pair a b, _, _, _, _, _, _, ⟨c1, c2, F1, F2, e, eF, h1, h2⟩, hk => ⟨c1, c2, F1, F2, e, eF, h1.base hk, h2.base hk⟩
  | .sl e, _, _, _, _, _, _, .inl h, _ => .inl h
  | .sl e, _, _, _, _, _, _, .inr ⟨g, cap, t, cur, Cs, Fs, hcs, hB, hh, h1, h2, h3, h4, h5, h6, hFF, he⟩, hk =>
    .inr ⟨g, cap, t, cur, Cs, Fs, hcs, Nat.le_trans hk hB, hh, h1, h2, h3, h4, h5, h6, hFF, fun i c x f hc hx hf => (he i c x f hc hx hf).base hk⟩

theorem flatten_get {n : Nat} : ∀ {l : List (List Value)} {i j : Nat} {c : List Value}, (∀ (k : Nat) (d : List Value), l[k]? = some d → d.length = n) → l[i]? = some c → j < n → l.flatten[i * n + j]? = c[j]?
  | [], i, j, c, _, h, _ => by simp at h
  | d :: l, 0, j, c, hl, h, hj => by
    simp at h; subst h
    have := hl 0 d rfl
    rw [List.flatten_cons, List.getElem?_append_left (by omega)]
    simp
  | d :: l, i + 1, j, c, hl, h, hj => by
    have hd := hl 0 d rfl
    rw [List.flatten_cons, List.getElem?_append_right (by rw [hd, Nat.add_mul]; omega), hd]
    have e : (i + 1) * n + j - n = i * n + j := by rw [Nat.add_mul]; omega
    rw [e]
    exact flatten_get (fun k d hk => hl (k + 1) d (by simpa using hk)) (by simpa using h) hj

/-- What is owned can be read. -/
theorem Own.reads : ∀ {s : Sh} {w : World} {B : Nat} {cs : List Value} {d : s.D} {F : List Nat}, Own s w B cs d F → Reads s w cs d
  | .int, _, _, _, _, _, h => h.1
  | .bool, _, _, _, _, _, h => h.1
  | .str, _, _, _, _, _, h => h.1
  | .u8, _, _, _, _, _, h => h.1
  | .none, _, _, _, _, _, h => h.1
  | .pair a b, _, _, _, _, _, ⟨c1, c2, F1, F2, e, _, h1, h2⟩ => ⟨c1, c2, e, h1.reads, h2.reads⟩
  | .sl e, _, _, _, _, _, .inl ⟨h, h0, _⟩ => ⟨Option.none, 0, by rw [h, h0], by omega, Nat.zero_le _, .inl h0⟩
  | .sl e, w, B, cs, d, F, .inr ⟨g, cap, t, cur, Cs, Fs, hcs, hB, hh, h1, h2, h3, h4, h5, h6, hFF, he⟩ => by
    refine ⟨some ⟨g, 0, Option.none⟩, cap, hcs, h1, h2, .inr ⟨g, 0, rfl, ?_, fun i x hx => ?_⟩⟩
    · rcases Nat.lt_or_ge g w.heap.size with h | h
      · exact h
      · rw [Array.getElem?_eq_none h] at hh; cases hh
    · have hi : i < List.length d := by
        rcases Nat.lt_or_ge i (List.length d) with h | h
        · exact h
        · rw [show e.at d i = Option.none from List.getElem?_eq_none h] at hx; cases hx
      have hC : Cs[i]? = some Cs[i] := List.getElem?_eq_getElem (by omega)
      have hF : Fs[i]? = some Fs[i] := List.getElem?_eq_getElem (by omega)
      have ho := he i _ x _ hC hx hF
      have hall : ∀ (k : Nat) (c : List Value), Cs[k]? = some c → c.length = e.size := by
        intro k c hk
        have hkl : k < Cs.length := by
          rcases Nat.lt_or_ge k Cs.length with h | h
          · exact h
          · rw [List.getElem?_eq_none h] at hk; cases hk
        have hkd : k < List.length d := by omega
        exact (he k c (List.get d ⟨k, hkd⟩) Fs[k] hk (List.getElem?_eq_getElem hkd) (List.getElem?_eq_getElem (by omega))).length
      refine ⟨Cs[i], ho.length, fun j hj => ?_, ho.reads⟩
      have hf := flatten_get hall hC hj
      have hlt : i * e.size + j < List.length d * e.size := by
        have : (i + 1) * e.size ≤ List.length d * e.size := Nat.mul_le_mul_right _ hi
        rw [Nat.add_mul] at this; omega
      rw [← h4, List.getElem?_take_of_lt hlt] at hf
      rw [← hf, Nat.zero_add]
      simp [World.cell?, hh]

theorem alloc3_heap (w : World) (o0 o1 o2 : Obj) : (((w.alloc o0).alloc o1).alloc o2).heap[w.heap.size]? = some o0 ∧ (((w.alloc o0).alloc o1).alloc o2).heap[w.heap.size + 1]? = some o1 ∧
    (((w.alloc o0).alloc o1).alloc o2).heap[w.heap.size + 1 + 1]? = some o2 ∧ (((w.alloc o0).alloc o1).alloc o2).heap.size = w.heap.size + 1 + 1 + 1 := by
  have e1 : (w.alloc o0).heap.size = w.heap.size + 1 := by simp
  have e2 : ((w.alloc o0).alloc o1).heap.size = w.heap.size + 1 + 1 := by simp
  refine ⟨?_, ?_, ?_, by simp⟩
  · rw [heap_alloc_old _ _ (by rw [e2]; omega), heap_alloc_old _ _ (by rw [e1]; omega)]; exact heap_alloc_new w o0
  · rw [heap_alloc_old _ _ (by rw [e2]; omega), ← e1]; exact heap_alloc_new (w.alloc o0) o1
  · rw [← e2]; exact heap_alloc_new ((w.alloc o0).alloc o1) o2

theorem box_cell {w : World} {b j : Nat} {cs : Array Value} {t : TypeId} {v : Value} (h : w.heap[b]? = some (.cells cs t (0, 0))) (hv : cs[j]? = some v) : w.cell? ⟨b, j, none⟩ = some v := by
  simp [World.cell?, h, hv]
theorem box_frozen {w : World} {b j : Nat} {cs : Array Value} {t : TypeId} (h : w.heap[b]? = some (.cells cs t (0, 0))) : w.frozen? ⟨b, j, none⟩ = false := by
  simp [World.frozen?, h]
theorem box_set {w : World} {b j : Nat} {cs : Array Value} {t : TypeId} (v : Value) (h : w.heap[b]? = some (.cells cs t (0, 0))) : (w.setCell ⟨b, j, none⟩ v).heap[b]? = some (.cells (cs.setIfInBounds j v) t (0, 0)) := by
  simp [World.setCell, Array.getElem?_modify, h]
theorem box_other {w : World} {b j : Nat} (v : Value) {k : Nat} (hk : k ≠ b) : (w.setCell ⟨b, j, none⟩ v).heap[k]? = w.heap[k]? := heap_setCell_other w ⟨b, j, none⟩ k v (fun e => hk e)

end Go.Proofs.Ytpdgjejgjbjamaa
