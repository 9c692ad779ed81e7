/-
  The law FnExactScan over the contracts of its two functions.
-/
import Derived.Test.YtbjmjmammpgbmaaScS
import Derived.Test.YtbjmjmammpgbmaaScI
import Derived.Test.YtbjmjmammpgbmaaLScan
namespace Go.Proofs.Ytbjmjmammpgbmaa
open Go.RowKit
set_option linter.unusedVariables false

/-- What a list of entries holds. -/
def bulkE (l : List EntD) : Nat := (l.map fun x => 1 + ByteArray.size x.2.1).sum

theorem bulkE_snoc (l : List EntD) (x : EntD) : bulkE (l ++ [x]) = bulkE l + (1 + ByteArray.size x.2.1) := by simp [bulkE]

theorem bulkE_sz (l : List EntD) : Sh.sz (.sl shEntry) l = bulkE l := by
  show List.length (α := EntD) l + (List.map shEntry.sz l).sum = bulkE l
  induction l with
  | nil => rfl
  | cons a l ih =>
    have h3 : shEntry.sz a = ByteArray.size a.2.1 := sz_Entry a
    have e1 : bulkE (a :: l) = 1 + ByteArray.size a.2.1 + bulkE l := by simp [bulkE]
    have e2 : List.length (α := EntD) (a :: l) + (List.map shEntry.sz (a :: l)).sum = (List.length (α := EntD) l + 1) + (shEntry.sz a + (List.map shEntry.sz l).sum) := rfl
    refine e2.trans ?_
    have ih' : List.length (α := EntD) l + (List.map shEntry.sz l).sum = bulkE l := ih
    omega

/-- Where the code is 0 the next place is behind the text. -/
theorem fr_next (zs : List Int) (hz : Byt zs) (p : Nat) (h : (frAns zs (p : Int)).2.2.2 = 0) : (frAns zs (p : Int)).2.2.1 = ((p + 10 + (frAns zs (p : Int)).2.1.size : Nat) : Int) ∧ p + 10 + (frAns zs (p : Int)).2.1.size ≤ zs.length := by
  unfold frAns at h ⊢
  have eP : ((p : Int)).toNat = p := by omega
  rw [eP] at h ⊢
  have hs := gnum2_bd zs hz p
  split at h
  · simp at h
  rename_i h1
  rw [if_neg h1]
  split at h
  · simp at h
  rename_i h2
  rw [if_neg h2]
  split at h
  · simp at h
  rename_i h3
  rw [if_neg h3]
  split at h
  · simp at h
  rename_i h4
  rw [if_neg h4]
  split at h
  · simp at h
  rename_i h5
  rw [if_neg h5]
  split at h
  · rename_i h6
    rw [if_pos h6]
    have e : (strOfNums (cutL zs (p + 10) (gnum zs p 2).toNat)).size = (gnum zs p 2).toNat := by rw [strOfNums_size, cutL_len _ _ _ (by omega)]
    refine ⟨?_, ?_⟩
    · show (p : Int) + 10 + gnum zs p 2 = ((p + 10 + (strOfNums (cutL zs (p + 10) (gnum zs p 2).toNat)).size : Nat) : Int)
      rw [e]; omega
    · show p + 10 + (strOfNums (cutL zs (p + 10) (gnum zs p 2).toNat)).size ≤ _
      rw [e]; omega
  · simp at h

theorem scan_bulk (zs : List Int) (hz : Byt zs) : ∀ (f : Nat) (acc : List EntD) (p : Nat), p ≤ zs.length → bulkE acc ≤ p → bulkE (scanL zs f acc p).1 ≤ zs.length
  | 0, acc, p, h1, h2 => by show bulkE acc ≤ _; omega
  | f + 1, acc, p, h1, h2 => by
    cases hg : goesOn zs acc p with
    | false => rw [scanL_end zs (f + 1) acc p hg]; show bulkE acc ≤ _; omega
    | true =>
      rw [scanL_on zs (f + 1) acc p hg (by omega)]
      have hc : (frAns zs (p : Int)).2.2.2 = 0 := by
        unfold goesOn at hg
        simp only [Bool.and_eq_true, decide_eq_true_eq] at hg
        exact hg.1
      have hn := fr_next zs hz p hc
      have e : ((frAns zs (p : Int)).2.2.1).toNat = p + 10 + (frAns zs (p : Int)).2.1.size := by rw [hn.1]; omega
      refine scan_bulk zs hz f _ _ ?_ ?_
      · omega
      · rw [bulkE_snoc, e]
        show bulkE acc + (1 + (frAns zs (p : Int)).2.1.size) ≤ _
        omega

theorem scan_law (v : Value) (zs : List Int) (w : World) (hr : Reads (.sl .u8) w [v] zs) :
    Calls Try.prog 6 #[v] w fun e w' => e = .returned (.bool true) ∧ Below w.heap.size w w' := by
  by_cases hs : zs.length ≤ 1048576
  · have hz : Byt zs := by
      obtain ⟨a, c, rfl, _, _⟩ := reads_val hr
      exact (reads_bytes hr).2.1.1
    have hb : bulkE (scanA zs).1 ≤ zs.length := scan_bulk zs hz _ [] 0 (Nat.zero_le _) (Nat.zero_le _)
    have hsz : Sh.sz (.sl shEntry) (scanA zs).1 ≤ 1048576 := by rw [bulkE_sz]; omega
    refine scan_over v zs (scanA zs).1 ((scanA zs).2 : Int) w hr hsz (cntS_Entry _ hsz) (fun _ => by rw [cnt_byteS]; omega) ?_ ?_
    · intro w' c G h _
      refine (specScan_any c zs w' h.reads hs).mono ?_
      rintro e w'' ⟨u, rfl, ho, hk, hb⟩
      have small : SmallE (scanA zs).1 := fun x hx => by
        have := (hk.out.1 x hx).2.2
        unfold maxLen; omega
      obtain ⟨F, hF, _⟩ := own_entsV rfl small ho
      exact ⟨u, rfl, hF.reads, hb⟩
    · intro w' c G h _
      refine (implScan_any c zs w' h.reads hs).mono ?_
      rintro e w'' ⟨u, rfl, ho, hk, hb⟩
      have small : SmallE (scanA zs).1 := fun x hx => by
        have := (hk.out.1 x hx).2.2
        unfold maxLen; omega
      obtain ⟨F, hF, hnd, _⟩ := own_entsV rfl small ho
      exact ⟨u, F, rfl, hF, hnd, hb⟩
  · exact scan_over v zs ([] : List EntD) 0 w hr (by show 0 + 0 ≤ _; omega) (by show 0 ≤ _; omega) (fun h => absurd h hs) (fun _ _ _ _ h => absurd h hs) (fun _ _ _ _ h => absurd h hs)

end Go.Proofs.Ytbjmjmammpgbmaa
