/-
  Rows of entries: their cells; a slice of the last ones.
-/
import Derived.Test.YtbjmjmammpgbmaaFlatG
import Derived.Test.YtbjmjmammpgbmaaAppS
import Derived.Test.YtbjmjmammpgbmaaEnsP
namespace Go.Proofs.Ytbjmjmammpgbmaa
open Go.RowKit
set_option linter.unusedVariables false

def cellsE (l : List EntD) : List Value := l.flatMap fun x => [.int .i64 x.1, .string x.2.1]

theorem cellsE_snoc (l : List EntD) (x : EntD) : cellsE (l ++ [x]) = cellsE l ++ [.int .i64 x.1, .string x.2.1] := by simp [cellsE]

theorem cellsE_len (l : List EntD) : (cellsE l).length = l.length * 2 := by
  unfold cellsE
  induction l with
  | nil => rfl
  | cons a l ih => rw [List.flatMap_cons, List.length_append, ih, List.length_cons]; simp; omega

theorem cellsE_one (l : List EntD) : ∀ u ∈ cellsE l, u.oneCell' = true := by
  intro u hu
  unfold cellsE at hu
  obtain ⟨x, _, hx⟩ := List.mem_flatMap.1 hu
  simp at hx
  rcases hx with rfl | rfl <;> rfl

theorem take_cellsE (d : List EntD) (k : Nat) (x : EntD) (h : d[k]? = some x) : cellsE (d.take (k + 1)) = cellsE (d.take k) ++ [.int .i64 x.1, .string x.2.1] := by
  have hk : k < d.length := (List.getElem?_eq_some_iff.1 h).1
  have hx : d[k] = x := (List.getElem?_eq_some_iff.1 h).2
  rw [List.take_succ_eq_append_getElem hk, hx, cellsE_snoc]

def SmallE (l : List EntD) : Prop := ∀ x ∈ l, ByteArray.size x.2.1 ≤ maxLen

theorem reads_smallE {w : World} {a : Option Addr} {n cap : Nat} {d : List EntD} (h : Reads (.sl shEntry) w [.slice a n cap] d) : SmallE d := by
  intro x hx
  obtain ⟨i, hi, rfl⟩ := List.mem_iff_getElem.1 hx
  have hl := (reads_len h).1
  have hl' : List.length (α := EntD) d = n := hl
  obtain ⟨b, off, c, y, _, _, hy, hr, _⟩ := reads_elem h i (by omega)
  obtain ⟨_, hh⟩ := open_Entry hr
  have : (d : List EntD)[i]? = some y := hy
  rw [List.getElem?_eq_getElem hi] at this
  obtain rfl := Option.some.inj this
  exact hh

/-- A row of entries that the call owns, nil or not. -/
theorem own_entsV {w : World} {B n : Nat} {v : Value} {t : TypeId} {l : List EntD} (hl : l.length = n) (hs : SmallE l) (h : w.ownsRow B t 2 v n (cellsE l)) : ∃ F, Own (.sl shEntry) w B [v] l F ∧ F.Nodup ∧ ∃ a c, v = .slice a n c := by
  rcases h.2 with ⟨h1, h2⟩ | ⟨g, cap, cur, hv, _⟩
  · refine ⟨[], .inl ⟨by rw [h1], ?_, rfl⟩, by simp, none, 0, by rw [h1, h2]⟩
    show l.length = 0; omega
  · subst hv
    exact ⟨[g], own_flat shEntry (fun x => [.int .i64 x.1, .string x.2.1]) hl (fun x hx => own_Entry (d := x) (hs x hx)) h, by simp, _, _, rfl⟩

theorem ents_src {w : World} {ad : Addr} {n cap : Nat} {l : List EntD} (h : Reads (.sl shEntry) w [.slice (some ad) n cap] l) : ∀ (j : Nat) (u : Value), (cellsE l)[j]? = some u → w.cell? (ad.add j) = some u :=
  reads_flat shEntry (fun x => [.int .i64 x.1, .string x.2.1]) (by decide) (fun w c x hr => (open_Entry hr).1) h

/-- The elements from k on. -/
theorem reads_drop {e : Sh} {w : World} {b off n c : Nat} {d : List e.D} (h : Reads (.sl e) w [.slice (some ⟨b, off, none⟩) n c] d) (k : Nat) (hk : k ≤ n) : Reads (.sl e) w [.slice (some ⟨b, off + k * e.size, none⟩) (n - k) (c - k)] (List.drop k d) := by
  obtain ⟨a, cp, e1, hl, hm, h0⟩ := h
  simp only [List.cons.injEq, Value.slice.injEq, and_true] at e1
  obtain ⟨rfl, hn, rfl⟩ := e1
  have hdl : (List.drop k d).length = n - k := by rw [List.length_drop]; omega
  refine ⟨some ⟨b, off + k * e.size, none⟩, c - k, ?_, ?_, by omega, ?_⟩
  · show _ = [Value.slice _ (List.drop k d).length _]; rw [hdl]
  · show (List.drop k d).length ≤ c - k; omega
  · rcases h0 with h0 | ⟨b', off', hb, hlt, hx⟩
    · left
      have h0' : d.length = 0 := h0
      show (List.drop k d).length = 0
      omega
    · simp only [Option.some.injEq, Addr.mk.injEq, and_true] at hb
      obtain ⟨rfl, rfl⟩ := hb
      refine .inr ⟨b, off + k * e.size, rfl, hlt, fun i x hi => ?_⟩
      have hi' : d[k + i]? = some x := by
        have : (List.drop k d)[i]? = some x := hi
        rwa [List.getElem?_drop] at this
      obtain ⟨cc, hc, hcell, hr⟩ := hx (k + i) x hi'
      refine ⟨cc, hc, fun j hj => ?_, hr⟩
      have := hcell j hj
      rw [Nat.add_mul] at this
      rw [← this]
      congr 2
      omega

/-- No elements: whatever the address. -/
theorem reads_none {e : Sh} (w : World) (a : Option Addr) (c : Nat) (hc : c ≤ maxLen) : Reads (.sl e) w [.slice a 0 c] ([] : List e.D) := ⟨a, c, rfl, Nat.zero_le _, hc, .inl rfl⟩

end Go.Proofs.Ytbjmjmammpgbmaa
