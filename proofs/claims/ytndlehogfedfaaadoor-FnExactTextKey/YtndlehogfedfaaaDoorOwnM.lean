/-
  Data of the call's own that is written into: 'Touch' (only the blocks F turn), one element of a slice opened and shut again.
-/
import Derived.Test.YtndlehogfedfaaaDoorTyBase
namespace Go.Proofs.YtndlehogfedfaaaDoor
open Go.RowKit
set_option linter.unusedVariables false

/-- From w to w' only the blocks F of those that were there have turned. -/
structure Touch (w w' : World) (F : List Nat) : Prop where
  os : w'.os = w.os
  tape : w'.tape = w.tape
  output : w'.output = w.output
  size : w.heap.size ≤ w'.heap.size
  block : ∀ i, i < w.heap.size → i ∉ F → w'.heap[i]? = w.heap[i]?

theorem Touch.refl (w : World) (F : List Nat) : Touch w w F := ⟨rfl, rfl, rfl, Nat.le_refl _, fun _ _ _ => rfl⟩
theorem Touch.trans {a b c : World} {F : List Nat} (h : Touch a b F) (k : Touch b c F) : Touch a c F :=
  ⟨k.os.trans h.os, k.tape.trans h.tape, k.output.trans h.output, Nat.le_trans h.size k.size, fun i hi hf => (k.block i (Nat.lt_of_lt_of_le hi h.size) hf).trans (h.block i hi hf)⟩
theorem Touch.mono {a b : World} {F G : List Nat} (h : Touch a b F) (hs : ∀ x ∈ F, x ∈ G) : Touch a b G :=
  ⟨h.os, h.tape, h.output, h.size, fun i hi hf => h.block i hi fun hm => hf (hs i hm)⟩
theorem Touch.of_below {w w' : World} (h : Below w.heap.size w w') (F : List Nat) : Touch w w' F := ⟨h.os, h.tape, h.output, h.size, fun i hi _ => h.block i hi⟩
theorem Touch.of_grown {w w' : World} {g : Nat} (h : w.grownBy w' (some g)) {F : List Nat} (hg : g ∈ F) : Touch w w' F :=
  ⟨h.os, h.tape, h.output, h.size, fun i hi hf => h.block i hi fun e => hf (by cases e; exact hg)⟩
theorem Touch.set (w : World) (g j : Nat) (v : Value) {F : List Nat} (hg : g ∈ F) : Touch w (w.setCell ⟨g, j, none⟩ v) F :=
  ⟨rfl, rfl, rfl, by simp, fun i _ hf => box_other v fun e => hf (e ▸ hg)⟩
theorem Touch.below {B : Nat} {a w w' : World} {F : List Nat} (h : Touch w w' F) (hb : Below B a w) (hB : B ≤ w.heap.size) (hF : ∀ g ∈ F, B ≤ g) : Below B a w' :=
  ⟨h.os.trans hb.os, h.tape.trans hb.tape, h.output.trans hb.output, Nat.le_trans hb.size h.size, fun i hi => (h.block i (by omega) fun hm => by have := hF i hm; omega).trans (hb.block i hi)⟩
theorem Touch.own {s : Sh} {w w' : World} {B : Nat} {cs : List Value} {d : s.D} {F G : List Nat} (h : Touch w w' F) (ho : Own s w B cs d G) (hd : ∀ g ∈ G, g ∉ F) : Own s w' B cs d G :=
  ho.keep fun g hg => h.block g (ho.lt g hg).2 (hd g hg)

theorem disj_flatten : ∀ {L : List (List Nat)} {i k : Nat} {a b : List Nat}, L.flatten.Nodup → L[i]? = some a → L[k]? = some b → i ≠ k → ∀ x ∈ a, x ∉ b
  | [], i, k, a, b, _, h, _, _ => by simp at h
  | l :: L, 0, 0, a, b, _, _, _, hne => absurd rfl hne
  | l :: L, 0, k + 1, a, b, hn, ha, hb, _ => by
    intro x hx hxb
    simp at ha; subst ha
    rw [List.flatten_cons, List.nodup_append] at hn
    exact hn.2.2 x hx x (List.mem_flatten.2 ⟨b, List.mem_of_getElem? (by simpa using hb), hxb⟩) rfl
  | l :: L, i + 1, 0, a, b, hn, ha, hb, _ => by
    intro x hx hxb
    simp at hb; subst hb
    rw [List.flatten_cons, List.nodup_append] at hn
    exact hn.2.2 x hxb x (List.mem_flatten.2 ⟨a, List.mem_of_getElem? (by simpa using ha), hx⟩) rfl
  | l :: L, i + 1, k + 1, a, b, hn, ha, hb, hne => by
    rw [List.flatten_cons, List.nodup_append] at hn
    exact disj_flatten hn.2.1 (by simpa using ha) (by simpa using hb) (by omega)

theorem nodup_of_flatten : ∀ {L : List (List Nat)} {i : Nat} {a : List Nat}, L.flatten.Nodup → L[i]? = some a → a.Nodup
  | [], i, a, _, h => by simp at h
  | l :: L, 0, a, hn, h => by
    simp at h; subst h
    rw [List.flatten_cons, List.nodup_append] at hn
    exact hn.1
  | l :: L, i + 1, a, hn, h => by
    rw [List.flatten_cons, List.nodup_append] at hn
    exact nodup_of_flatten hn.2.1 (by simpa using h)

theorem take_mid (A c Z : List Value) (m : Nat) (h : A.length + c.length ≤ m) : (A ++ (c ++ Z)).take m = A ++ (c ++ Z.take (m - (A.length + c.length))) := by
  rw [← List.append_assoc, List.take_append, List.take_of_length_le (by simp; omega), List.length_append, List.append_assoc]

theorem flatten_take {n : Nat} : ∀ {l : List (List Value)} (i : Nat), (∀ d ∈ l, d.length = n) → l.flatten.take (i * n) = (l.take i).flatten
  | [], i, _ => by simp
  | d :: l, 0, _ => by simp
  | d :: l, i + 1, h => by
    have hd := h d (by simp)
    rw [List.flatten_cons, List.take_succ_cons, List.flatten_cons, Nat.add_mul, Nat.one_mul, Nat.add_comm, ← hd, List.take_length_add_append, hd, flatten_take i (fun x hx => h x (by simp [hx]))]

theorem flatten_drop {n : Nat} : ∀ {l : List (List Value)} (i : Nat), (∀ d ∈ l, d.length = n) → l.flatten.drop (i * n) = (l.drop i).flatten
  | [], i, _ => by simp
  | d :: l, 0, _ => by simp
  | d :: l, i + 1, h => by
    have hd := h d (by simp)
    rw [List.flatten_cons, List.drop_succ_cons, Nat.add_mul, Nat.one_mul, Nat.add_comm, ← hd, List.drop_length_add_append, hd, flatten_drop i (fun x hx => h x (by simp [hx]))]

theorem setRow_eq (l c : List Value) (p : Nat) (h : p + c.length ≤ l.length) : setRow l p c = l.take p ++ (c ++ l.drop (p + c.length)) := by
  have e : l = l.take p ++ l.drop p := (List.take_append_drop p l).symm
  have hl : (l.take p).length = p := by rw [List.length_take]; omega
  have := setRow_at c (l.take p) (l.drop p) (by rw [List.length_drop]; omega)
  rw [hl, ← e] at this
  rw [this, List.drop_drop]

theorem set_flatten {l : List (List Value)} {i : Nat} {c : List Value} (hi : i < l.length) : (l.set i c).flatten = (l.take i).flatten ++ (c ++ (l.drop (i + 1)).flatten) := by
  rw [List.set_eq_take_append_cons_drop, if_pos hi, List.flatten_append, List.flatten_cons]

/-- One element opened; and what shuts it again. -/
theorem own_elem {e : Sh} {w : World} {B g n cap : Nat} {d : List e.D} {F : List Nat} (h : Own (.sl e) w B [.slice (some ⟨g, 0, none⟩) n cap] d F) (hnd : F.Nodup) (i : Nat) (hi : i < n) :
    ∃ (t : TypeId) (cur : Array Value) (c : List Value) (x : e.D) (f : List Nat), w.heap[g]? = some (.cells cur t (0, 0)) ∧ e.at d i = some x ∧ Own e w B c x f ∧ f.Nodup ∧ g ∉ f ∧ (∀ y ∈ f, y ∈ F) ∧ g ∈ F ∧ B ≤ g ∧
      (∀ j, j < e.size → cur[i * e.size + j]? = c[j]?) ∧
      ∀ (w2 : World) (c' : List Value) (x' : e.D), Own e w2 B c' x' f → w2.heap[g]? = some (.cells (setRow cur.toList (i * e.size) c').toArray t (0, 0)) → (∀ y ∈ F, y ≠ g → y ∉ f → w2.heap[y]? = w.heap[y]?) →
        Own (.sl e) w2 B [.slice (some ⟨g, 0, none⟩) n cap] (List.set d i x') F := by
  rcases h with ⟨h1, _⟩ | ⟨g', cap', t, cur, Cs, Fs, hcs, hB, hh, h1, h2, h3, h4, h5, h6, hFF, he⟩
  · simp at h1
  · simp only [List.cons.injEq, Value.slice.injEq, Option.some.injEq, Addr.mk.injEq, and_true] at hcs
    obtain ⟨rfl, hn, rfl⟩ := hcs
    have h1 : d.length ≤ cap := h1
    have h4 : cur.toList.take (d.length * e.size) = Cs.flatten := h4
    have h5 : Cs.length = d.length := h5
    have h6 : Fs.length = d.length := h6
    have hid : i < d.length := by omega
    have hCi : Cs[i]? = some Cs[i] := List.getElem?_eq_getElem (by omega)
    have hFi : Fs[i]? = some Fs[i] := List.getElem?_eq_getElem (by omega)
    have hxi : e.at d i = some d[i] := List.getElem?_eq_getElem hid
    have ho := he i _ _ _ hCi hxi hFi
    have hall : ∀ c ∈ Cs, c.length = e.size := by
      intro c hc
      obtain ⟨k, hk, rfl⟩ := List.mem_iff_getElem.1 hc
      have hkd : k < d.length := by omega
      exact e.ow_length (he k Cs[k] d[k] Fs[k] (List.getElem?_eq_getElem hk) (List.getElem?_eq_getElem hkd) (List.getElem?_eq_getElem (by omega)))
    rw [hFF] at hnd
    have hnd2 := (List.nodup_cons.1 hnd)
    have hfl : Cs.flatten.length = d.length * e.size := by
      rw [List.length_flatten]
      have : Cs.map List.length = Cs.map fun _ => e.size := List.map_congr_left hall
      rw [this]
      simp [List.map_const', h5]
    have hmul : (i + 1) * e.size ≤ d.length * e.size := Nat.mul_le_mul_right _ hid
    rw [Nat.add_mul, Nat.one_mul] at hmul
    have hcap : d.length * e.size ≤ cap * e.size := Nat.mul_le_mul_right _ h1
    refine ⟨t, cur, Cs[i], d[i], Fs[i], hh, hxi, ho, nodup_of_flatten hnd2.2 hFi, fun hm => hnd2.1 (List.mem_flatten.2 ⟨_, List.mem_of_getElem? hFi, hm⟩), fun y hy => ?_, ?_, hB, fun j hj => ?_, ?_⟩
    · rw [hFF]; exact List.mem_cons_of_mem _ (List.mem_flatten.2 ⟨_, List.mem_of_getElem? hFi, hy⟩)
    · rw [hFF]; exact List.mem_cons_self
    · have := flatten_get (l := Cs) (n := e.size) (i := i) (j := j) (c := Cs[i]) (fun k d hk => hall d (List.mem_of_getElem? hk)) hCi hj
      rw [← h4, List.getElem?_take_of_lt (by omega)] at this
      rw [← this]; simp
    · intro w2 c' x' ho' hg' hoth
      have hcl := ho'.length
      have hlen : cur.toList.length = cap * e.size := by simpa using h3
      have hsr : setRow cur.toList (i * e.size) c' = cur.toList.take (i * e.size) ++ (c' ++ cur.toList.drop (i * e.size + e.size)) := by
        rw [setRow_eq _ _ _ (by rw [hlen, hcl]; omega), hcl]
      refine .inr ⟨g, cap, t, _, Cs.set i c', Fs, ?_, hB, hg', ?_, h2, ?_, ?_, ?_, ?_, hFF, ?_⟩
      · show _ = [Value.slice _ (List.length (List.set d i x')) cap]
        rw [List.length_set, hn]
      · show List.length (List.set d i x') ≤ cap
        rw [List.length_set]; exact h1
      · rw [hsr]
        simp only [List.size_toArray, List.length_append, List.length_take, List.length_drop, hlen, hcl]
        omega
      · show (setRow cur.toList (i * e.size) c').toArray.toList.take (List.length (List.set d i x') * e.size) = _
        rw [List.length_set, set_flatten (by omega)]
        show (setRow cur.toList (i * e.size) c').take (d.length * e.size) = _
        have e1 : (cur.toList.take (i * e.size)).length = i * e.size := by rw [List.length_take, hlen]; omega
        rw [hsr, take_mid _ _ _ _ (by rw [e1, hcl]; omega), e1, hcl, ← flatten_take i hall, ← flatten_drop (i + 1) hall, ← h4, List.take_take, List.drop_take, Nat.min_eq_left (by omega), Nat.add_mul, Nat.one_mul]
      · show (Cs.set i c').length = List.length (List.set d i x'); simp [h5]
      · show Fs.length = List.length (List.set d i x'); simp [h6]
      · intro k c2 x2 f2 hc2 hx2 hf2
        have hx2 : (List.set d i x')[k]? = some x2 := hx2
        rw [List.getElem?_set] at hc2 hx2
        by_cases hik : i = k
        · subst hik
          rw [if_pos rfl, if_pos (by omega)] at hc2 hx2
          obtain rfl := Option.some.inj hc2
          obtain rfl := Option.some.inj hx2
          obtain rfl : Fs[i] = f2 := Option.some.inj (hFi.symm.trans hf2)
          exact ho'
        · rw [if_neg hik] at hc2 hx2
          refine e.ow_keep (he k c2 x2 f2 hc2 hx2 hf2) fun y hy => hoth y ?_ ?_ ?_
          · rw [hFF]; exact List.mem_cons_of_mem _ (List.mem_flatten.2 ⟨f2, List.mem_of_getElem? hf2, hy⟩)
          · intro e; exact hnd2.1 (e ▸ List.mem_flatten.2 ⟨f2, List.mem_of_getElem? hf2, hy⟩)
          · exact disj_flatten hnd2.2 hf2 hFi (fun e => hik e.symm) y hy

end Go.Proofs.YtndlehogfedfaaaDoor
