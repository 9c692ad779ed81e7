/-
  A slice of the call's own that is gathered element by element ('append(out, x)'), its elements with memory of their own.
-/
import Derived.Test.YtmhlligmehbehabAppC
namespace Go.Proofs.Ytmhlligmehbehab
open Go.RowKit
set_option linter.unusedVariables false

/-- The row v holds the data d; its cells are Cs, the elements' blocks Fs. -/
structure Gath (e : Sh) (t : TypeId) (w : World) (B : Nat) (v : Value) (n : Nat) (d : List e.D) (Cs : List (List Value)) (Fs : List (List Nat)) : Prop where
  row : w.ownsRow B t e.size v n Cs.flatten
  lenC : Cs.length = n
  lenF : Fs.length = n
  lenD : d.length = n
  el : ∀ (i : Nat) (c : List Value) (x : e.D) (f : List Nat), Cs[i]? = some c → d[i]? = some x → Fs[i]? = some f → Own e w B c x f
  nd : (v.ownBlock.toList ++ Fs.flatten).Nodup

theorem Gath.nil (e : Sh) (t : TypeId) (w : World) (B : Nat) : Gath e t w B (.slice none 0 0) 0 [] [] [] :=
  ⟨⟨by simp, .inl ⟨rfl, rfl⟩⟩, rfl, rfl, rfl, fun i c x f h => by simp at h, by simp [Value.ownBlock]⟩

theorem Gath.lit (e : Sh) (t : TypeId) (w : World) (B : Nat) (hB : B ≤ w.heap.size) : Gath e t (w.alloc (.cells #[] t)) B (.slice (some ⟨w.heap.size, 0, none⟩) 0 0) 0 [] [] [] :=
  ⟨World.ownsRow_lit (base := B) (e := t) (size := e.size) w #[] 0 hB (Nat.zero_le _) (by simp), rfl, rfl, rfl, fun i c x f h => by simp at h, by simp [Value.ownBlock]⟩

theorem Gath.lt {e : Sh} {t : TypeId} {w : World} {B n : Nat} {v : Value} {d : List e.D} {Cs : List (List Value)} {Fs : List (List Nat)} (h : Gath e t w B v n d Cs Fs) :
    ∀ y ∈ v.ownBlock.toList ++ Fs.flatten, B ≤ y ∧ y < w.heap.size := by
  intro y hy
  rcases List.mem_append.1 hy with h1 | h1
  · exact h.row.lt y (by simpa using h1)
  · obtain ⟨i, f, hi, hyf⟩ := mem_flatten_get h1
    have hil : i < Fs.length := (List.getElem?_eq_some_iff.1 hi).1
    have h2 := h.lenF; have h3 := h.lenC; have h4 := h.lenD
    exact (h.el i Cs[i] d[i] f (List.getElem?_eq_getElem (by omega)) (List.getElem?_eq_getElem (by omega)) hi).lt y hyf

theorem Gath.keep {e : Sh} {t : TypeId} {w w' : World} {B n : Nat} {v : Value} {d : List e.D} {Cs : List (List Value)} {Fs : List (List Nat)} (h : Gath e t w B v n d Cs Fs)
    (hk : ∀ y ∈ v.ownBlock.toList ++ Fs.flatten, w'.heap[y]? = w.heap[y]?) : Gath e t w' B v n d Cs Fs := by
  refine ⟨⟨h.row.1, ?_⟩, h.lenC, h.lenF, h.lenD, fun i c x f hc hx hf => ?_, h.nd⟩
  · rcases h.row.2 with h1 | ⟨g, cap, cur, hv, hg, hh, r⟩
    · exact .inl h1
    · exact .inr ⟨g, cap, cur, hv, hg, (hk g (List.mem_append_left _ (by rw [hv]; simp [Value.ownBlock]))).trans hh, r⟩
  · exact (h.el i c x f hc hx hf).keep fun y hy => hk y (List.mem_append_right _ (List.mem_flatten.2 ⟨f, List.mem_of_getElem? hf, hy⟩))

theorem Gath.later {e : Sh} {t : TypeId} {w w' : World} {B n : Nat} {v : Value} {d : List e.D} {Cs : List (List Value)} {Fs : List (List Nat)} (h : Gath e t w B v n d Cs Fs) (hb : Below w.heap.size w w') : Gath e t w' B v n d Cs Fs :=
  h.keep fun y hy => hb.block y (h.lt y hy).2

/-- A cell of another block is written. -/
theorem Gath.other {e : Sh} {t : TypeId} {w : World} {B n : Nat} {v : Value} {d : List e.D} {Cs : List (List Value)} {Fs : List (List Nat)} (h : Gath e t w B v n d Cs Fs) (b j : Nat) (u : Value) (hb : b < B) : Gath e t (w.setCell ⟨b, j, none⟩ u) B v n d Cs Fs :=
  h.keep fun y hy => box_other u (fun e => by have := (h.lt y hy).1; omega)

/-- One element more: behind an append that lies in the old row or in a new block. -/
theorem Gath.push {e : Sh} {t : TypeId} {w w' : World} {B n g cap : Nat} {v : Value} {d : List e.D} {Cs : List (List Value)} {Fs : List (List Nat)} (h : Gath e t w B v n d Cs Fs)
    {c : List Value} {x : e.D} {f : List Nat} (ho : Own e w B c x f) (hf : f.Nodup) (hd : ∀ y ∈ f, y ∉ v.ownBlock.toList ++ Fs.flatten)
    (hrow : w'.ownsRow B t e.size (.slice (some ⟨g, 0, none⟩) (n + 1) cap) (n + 1) (Cs.flatten ++ c)) (hgr : w.grownBy w' v.ownBlock) (hlie : v.ownBlock = some g ∨ w.heap.size ≤ g) :
    Gath e t w' B (.slice (some ⟨g, 0, none⟩) (n + 1) cap) (n + 1) (d ++ [x]) (Cs ++ [c]) (Fs ++ [f]) := by
  have hkeep : ∀ y, y < w.heap.size → some y ≠ v.ownBlock → w'.heap[y]? = w.heap[y]? := fun y h1 h2 => hgr.block y h1 h2
  have hnd := List.nodup_append.1 h.nd
  have hgF : g ∉ Fs.flatten := by
    intro hm
    rcases hlie with h1 | h1
    · exact hnd.2.2 g (by rw [h1]; simp) g hm rfl
    · have := (h.lt g (List.mem_append_right _ hm)).2; omega
  have hgf : g ∉ f := by
    intro hm
    rcases hlie with h1 | h1
    · exact hd g hm (List.mem_append_left _ (by rw [h1]; simp))
    · have := (ho.lt g hm).2; omega
  refine ⟨by simpa using hrow, by simp [h.lenC], by simp [h.lenF], by simp [h.lenD], ?_, ?_⟩
  · intro i c' x' f' hc' hx' hf'
    have h1 := h.lenC; have h2 := h.lenF; have h3 := h.lenD
    rw [List.getElem?_append] at hc' hx' hf'
    by_cases hi : i < n
    · rw [if_pos (by omega)] at hc' hx' hf'
      refine (h.el i c' x' f' hc' hx' hf').keep fun y hy => ?_
      have hyF : y ∈ Fs.flatten := List.mem_flatten.2 ⟨f', List.mem_of_getElem? hf', hy⟩
      refine hkeep y (h.lt y (List.mem_append_right _ hyF)).2 (fun e => ?_)
      exact hnd.2.2 y (by rw [← e]; simp) y hyF rfl
    · rw [if_neg (by omega)] at hc' hx' hf'
      have hin : i = n := by
        rcases Nat.lt_or_ge n i with h' | h'
        · rw [List.getElem?_eq_none (by simp; omega)] at hc'; cases hc'
        · omega
      subst hin
      rw [h1, Nat.sub_self] at hc'
      rw [h2, Nat.sub_self] at hf'
      rw [h3, Nat.sub_self] at hx'
      obtain rfl : c = c' := by simpa using hc'
      obtain rfl : f = f' := by simpa using hf'
      obtain rfl : x = x' := by simpa using hx'
      exact ho.keep fun y hy => hkeep y (ho.lt y hy).2 (fun e => hd y hy (List.mem_append_left _ (by rw [← e]; simp)))
  · simp only [Value.ownBlock, Option.toList_some, List.flatten_append, List.flatten_cons, List.flatten_nil, List.append_nil]
    rw [List.nodup_append]
    refine ⟨by simp, ?_, ?_⟩
    · rw [List.nodup_append]
      exact ⟨hnd.2.1, hf, fun a ha b hb e => hd b hb (List.mem_append_right _ (e ▸ ha))⟩
    · intro a ha b hb e
      simp at ha
      subst ha
      subst e
      rcases List.mem_append.1 hb with h4 | h4
      · exact hgF h4
      · exact hgf h4

theorem Gath.own {e : Sh} {t : TypeId} {w : World} {B n : Nat} {v : Value} {d : List e.D} {Cs : List (List Value)} {Fs : List (List Nat)} (h : Gath e t w B v n d Cs Fs) : ∃ F, Own (.sl e) w B [v] d F ∧ F.Nodup ∧ (∀ y ∈ F, y ∈ v.ownBlock.toList ++ Fs.flatten) := by
  have h1 := h.lenC; have h2 := h.lenF; have h3 := h.lenD
  rcases h.row.2 with ⟨hv, hn⟩ | ⟨g, cap, cur, hv, hg, hh, k1, k2, k3, k4⟩
  · refine ⟨[], .inl ⟨by rw [hv], ?_, rfl⟩, by simp, by simp⟩
    show d.length = 0; omega
  · refine ⟨g :: Fs.flatten, .inr ⟨g, cap, t, cur, Cs, Fs, ?_, hg, hh, ?_, k2, k3, ?_, ?_, ?_, rfl, h.el⟩, ?_, ?_⟩
    · rw [hv, h3]
    · rw [h3]; exact k1
    · rw [h3]; exact k4
    · rw [h3]; exact h1
    · rw [h3]; exact h2
    · have := h.nd; rw [hv] at this; simpa [Value.ownBlock] using this
    · rw [hv]; intro y hy; simpa [Value.ownBlock] using hy

theorem Gath.cast {e : Sh} {t : TypeId} {w : World} {B n : Nat} {v : Value} {d d' : List e.D} {Cs : List (List Value)} {Fs : List (List Nat)} (h : Gath e t w B v n d Cs Fs) (hd : d = d') : Gath e t w B v n d' Cs Fs := hd ▸ h

theorem Gath.form {e : Sh} {t : TypeId} {w : World} {B n : Nat} {v : Value} {d : List e.D} {Cs : List (List Value)} {Fs : List (List Nat)} (h : Gath e t w B v n d Cs Fs) : ∃ a c, v = .slice a n c := by
  rcases h.row.2 with ⟨hv, hn⟩ | ⟨g, cap, cur, hv, _⟩
  · exact ⟨none, 0, by rw [hv, hn]⟩
  · exact ⟨_, _, hv⟩

end Go.Proofs.Ytmhlligmehbehab
