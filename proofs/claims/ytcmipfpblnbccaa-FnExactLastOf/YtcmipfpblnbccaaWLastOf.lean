/-
  The law FnExactLastOf over the contracts of its two functions.
-/
import Derived.Test.YtcmipfpblnbccaaLastS
import Derived.Test.YtcmipfpblnbccaaLastI
import Derived.Test.YtcmipfpblnbccaaLLastOf
namespace Go.Proofs.Ytcmipfpblnbccaa
open Go.RowKit
set_option linter.unusedVariables false

theorem ent_sz (d : List EntD) (h : Sh.sz (.sl shEntry) d ≤ 1048576) : List.length (α := EntD) d ≤ 1048576 ∧ ∀ x ∈ d, ByteArray.size x.2.1 ≤ 1048576 := by
  have h1 : List.length (α := EntD) d + (List.map shEntry.sz d).sum ≤ 1048576 := h
  refine ⟨by omega, fun x hx => ?_⟩
  obtain ⟨i, hi, rfl⟩ := List.mem_iff_getElem.1 hx
  have h2 := sz_elem shEntry d i _ (List.getElem?_eq_getElem hi)
  have h3 : ByteArray.size (d[i]).2.1 ≤ (List.map shEntry.sz d).sum := Nat.le_trans (Nat.le_of_eq (sz_Entry (d[i])).symm) h2
  omega

theorem sz_drop (e : Sh) (d : List e.D) (k : Nat) : Sh.sz (.sl e) (List.drop k d) ≤ Sh.sz (.sl e) d := by
  show List.length (List.drop k d) + (List.map e.sz (List.drop k d)).sum ≤ List.length d + (List.map e.sz d).sum
  have h1 : (List.map e.sz d).sum = (List.map e.sz (List.take k d)).sum + (List.map e.sz (List.drop k d)).sum := by
    rw [← List.sum_append, ← List.map_append, List.take_append_drop]
  have h2 : List.length (List.drop k d) ≤ List.length d := by rw [List.length_drop]; omega
  omega

theorem ents_nil_own (w : World) (B : Nat) : Own (.sl shEntry) w B [.slice none 0 0] ([] : List EntD) [] := .inl ⟨rfl, rfl, rfl⟩

set_option maxRecDepth 100000 in
theorem lastOf_law (v : Value) (d : List EntD) (N : Int) (w : World) (hr : Reads (.sl shEntry) w [v] d) (hN1 : -9223372036854775808 ≤ N) (hN2 : N ≤ 9223372036854775807) :
    Calls Try.prog 7 #[v, .int .i64 N] w fun e w' => e = .returned (.bool true) ∧ Below w.heap.size w w' := by
  by_cases hs : Sh.sz (.sl shEntry) d ≤ 1048576
  · obtain ⟨L, hL⟩ : ∃ L, L = lastL d N := ⟨_, rfl⟩
    have hsz := ent_sz d hs
    have hsL : Sh.sz (.sl shEntry) L ≤ 1048576 := by rw [hL]; exact Nat.le_trans (sz_drop shEntry d _) hs
    obtain ⟨m, hm⟩ : ∃ m, m = lastN (List.length (α := EntD) d) N := ⟨_, rfl⟩
    have hmle : m ≤ List.length (α := EntD) d := by rw [hm]; exact lastN_le _ _
    obtain ⟨K, hK⟩ : ∃ K, K + m = List.length (α := EntD) d := ⟨_ - m, Nat.sub_add_cancel hmle⟩
    have hLd : L = List.drop (α := EntD) K d := by rw [hL, lastL, ← hm]; congr 1; omega
    have hLl : List.length (α := EntD) L = m := by rw [hL, hm]; exact lastL_len d N
    have small : SmallE L := fun x hx => by
      have h1 := hsz.2 x (by rw [hLd] at hx; exact List.mem_of_mem_drop hx)
      unfold maxLen; omega
    refine lastOf_over v d N L w hr hsL (cntS_Entry L hsL) (fun _ => cntS_Entry d hs) ?_ ?_
    · intro w' c G h _
      obtain ⟨a, cp, hv, hc1, hc2, hc3⟩ := own_val h
      have hv' : c = .slice a (List.length (α := EntD) d) cp := hv
      clear hv
      subst hv'
      by_cases h0 : N < 1
      · have hL0 : L = [] := by
          refine List.eq_nil_of_length_eq_zero (hLl.trans ?_)
          rw [hm, lastN, if_pos h0]
        refine (specLast_zero _ N w' h0).mono ?_
        rintro e w'' ⟨rfl, hb⟩
        exact ⟨_, rfl, by rw [hL0]; exact (ents_nil_own w'' 0).reads, hb⟩
      · cases a with
        | none =>
          obtain ⟨k1, k2, k3⟩ := own_nil h
          obtain rfl := k2
          have hd0 : List.length (α := EntD) d = 0 := k1
          have hL0 : L = [] := List.eq_nil_of_length_eq_zero (by omega)
          rw [hd0]
          refine (specLast_nil N w' h0).mono ?_
          rintro e w'' ⟨v', rfl, ho, hb⟩
          obtain ⟨F, hF, hn, _⟩ := own_entsV (l := []) rfl (fun x hx => by cases hx) ho
          rw [hL0]
          exact ⟨v', rfl, hF.reads, hb⟩
        | some ad =>
          obtain ⟨g, rfl, _⟩ := own_block h
          refine (specLast_some g 0 (List.length (α := EntD) d) cp K N d w' h.reads hsz.1 h0 ?_).mono ?_
          · by_cases h2 : ((List.length (α := EntD) d : Nat) : Int) < N
            · left
              refine ⟨h2, ?_⟩
              have : m = List.length (α := EntD) d := by rw [hm, lastN, if_neg h0, if_pos h2]
              omega
            · right
              refine ⟨h2, ?_⟩
              have : m = N.toNat := by rw [hm, lastN, if_neg h0, if_neg h2]
              omega
          · rintro e w'' ⟨v', rfl, ho, hb⟩
            rw [← hLd] at ho
            have e1 : List.length (α := EntD) d - K = m := by omega
            obtain ⟨F, hF, _⟩ := own_entsV (n := m) hLl small (e1 ▸ ho)
            exact ⟨v', rfl, hF.reads, hb⟩
    · intro w' c G h _
      obtain ⟨a, cp, hv, hc1, hc2, hc3⟩ := own_val h
      have hv' : c = .slice a (List.length (α := EntD) d) cp := hv
      clear hv
      subst hv'
      cases a with
      | none =>
        obtain ⟨k1, k2, k3⟩ := own_nil h
        obtain rfl := k2
        have hd0 : List.length (α := EntD) d = 0 := k1
        have hL0 : L = [] := List.eq_nil_of_length_eq_zero (by omega)
        rw [hd0]
        refine (implLast_nil N w').mono ?_
        rintro e w'' ⟨v', rfl, ho, hb⟩
        obtain ⟨F, hF, hn, _⟩ := own_entsV (l := []) rfl (fun x hx => by cases hx) ho
        rw [hL0]
        exact ⟨v', F, rfl, hF, hn, hb⟩
      | some ad =>
        obtain ⟨g, rfl, _⟩ := own_block h
        refine (implLast_some g 0 _ cp K m N d w' h.reads hsz.1 hsz.2 hm hK).mono ?_
        rintro e w'' ⟨v', rfl, ho, hb⟩
        rw [← hLd] at ho
        obtain ⟨F, hF, hn, _⟩ := own_entsV hLl small ho
        exact ⟨v', F, rfl, hF, hn, hb⟩
  · exact lastOf_over v d N ([] : List EntD) w hr (by show 0 + 0 ≤ _; omega) (by show 0 ≤ _; omega) (fun h => absurd h hs) (fun _ _ _ _ h => absurd h hs) (fun _ _ _ _ h => absurd h hs)

end Go.Proofs.Ytcmipfpblnbccaa
