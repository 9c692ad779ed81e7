/-
  FrameRead, the model's and the program's: both answer frAns.
-/
import Derived.Test.YtbjmjmammpgbmaaRfS
import Derived.Test.YtbjmjmammpgbmaaRiN
import Derived.Test.YtbjmjmammpgbmaaRiF3
import Derived.Test.YtbjmjmammpgbmaaRiF4
import Derived.Test.YtbjmjmammpgbmaaRiF5
import Derived.Test.YtbjmjmammpgbmaaRiL
import Derived.Test.YtbjmjmammpgbmaaRfI
import Derived.Test.YtbjmjmammpgbmaaVB
namespace Go.Proofs.Ytbjmjmammpgbmaa
open Go.RowKit
set_option linter.unusedVariables false

theorem rf_spec (v : Value) (zs : List Int) (p : Int) (w : World) (h : Reads (.sl .u8) w [v] zs) (hn : zs.length ≤ 1048576) (hp1 : -9223372036854775808 ≤ p) (hp2 : p ≤ 9223372036854775807) :
    Calls Try.prog 16 #[v, .int .i64 p] w fun e w' => e = .returned (.tuple #[.agg #[.int .i64 (frAns zs p).1, .string (frAns zs p).2.1], .int .i64 (frAns zs p).2.2.1, .int .i64 (frAns zs p).2.2.2]) ∧ Below w.heap.size w w' := by
  obtain ⟨a, c, hv, hcn, hcm⟩ := reads_val h
  have hv' : v = .slice a zs.length c := hv
  subst hv'
  obtain ⟨_, hrd, _, _⟩ := reads_bytes h
  by_cases h1 : p < 0
  · have e : frAns zs p = (0, ByteArray.empty, 0, 1) := by unfold frAns; rw [if_pos (by omega)]
    rw [e]; exact specRf_near a _ c p w hn hp1 hp2 1 (.inl ⟨h1, rfl⟩)
  by_cases h2 : (zs.length : Int) < p
  · have e : frAns zs p = (0, ByteArray.empty, 0, 1) := by unfold frAns; rw [if_pos (by omega)]
    rw [e]; exact specRf_near a _ c p w hn hp1 hp2 1 (.inr (.inl ⟨h1, h2, rfl⟩))
  by_cases h3 : (zs.length : Int) - p < 10
  · have e : frAns zs p = (0, ByteArray.empty, 0, 2) := by unfold frAns; rw [if_neg (by omega), if_pos h3]
    rw [e]; exact specRf_near a _ c p w hn hp1 hp2 2 (.inr (.inr ⟨h1, h2, h3, rfl⟩))
  obtain ⟨P, rfl⟩ := Int.eq_ofNat_of_zero_le (show 0 ≤ p by omega)
  have hne : zs ≠ [] := by intro h9; subst h9; simp at h3; omega
  obtain ⟨b, off, rfl, hb, hc⟩ := hrd.2.resolve_left hne
  have hz : Byt zs := hrd.1
  have hs := gnum2_bd zs hz P
  obtain ⟨s, hs'⟩ := Int.eq_ofNat_of_zero_le hs.1
  exact specRf_far b off _ c zs P s _ 0 w rfl hb hc hz hcn hcm hn (by omega) hs' rfl _ rfl

theorem rf_impl (v : Value) (zs : List Int) (p : Int) (w : World) (h : Reads (.sl .u8) w [v] zs) (hn : zs.length ≤ 1048576) (hp1 : -9223372036854775808 ≤ p) (hp2 : p ≤ 9223372036854775807) :
    Calls Try.prog 15 #[v, .int .i64 p] w fun e w' => e = .returned (.tuple #[.agg #[.int .i64 (frAns zs p).1, .string (frAns zs p).2.1], .int .i64 (frAns zs p).2.2.1, .int .i64 (frAns zs p).2.2.2]) ∧ Below w.heap.size w w' := by
  obtain ⟨a, c, hv, hcn, hcm⟩ := reads_val h
  have hv' : v = .slice a zs.length c := hv
  subst hv'
  obtain ⟨_, hrd, _, _⟩ := reads_bytes h
  by_cases h1 : p < 0
  · have e : frAns zs p = (0, ByteArray.empty, 0, 1) := by unfold frAns; rw [if_pos (by omega)]
    rw [e]; exact implRf_pan _ p 1 w fun w' hb' => readRf_near a _ c p w' hn hp1 hp2 1 (.inl ⟨h1, rfl⟩)
  by_cases h2 : (zs.length : Int) < p
  · have e : frAns zs p = (0, ByteArray.empty, 0, 1) := by unfold frAns; rw [if_pos (by omega)]
    rw [e]; exact implRf_pan _ p 1 w fun w' hb' => readRf_near a _ c p w' hn hp1 hp2 1 (.inr (.inl ⟨h1, h2, rfl⟩))
  by_cases h3 : (zs.length : Int) - p < 10
  · have e : frAns zs p = (0, ByteArray.empty, 0, 2) := by unfold frAns; rw [if_neg (by omega), if_pos h3]
    rw [e]; exact implRf_pan _ p 2 w fun w' hb' => readRf_near a _ c p w' hn hp1 hp2 2 (.inr (.inr ⟨h1, h2, h3, rfl⟩))
  obtain ⟨P, rfl⟩ := Int.eq_ofNat_of_zero_le (show 0 ≤ p by omega)
  have hne : zs ≠ [] := by intro h9; subst h9; simp at h3; omega
  obtain ⟨b, off, rfl, hb, hc⟩ := hrd.2.resolve_left hne
  have hz : Byt zs := hrd.1
  have hs := gnum2_bd zs hz P
  obtain ⟨s, hs'⟩ := Int.eq_ofNat_of_zero_le hs.1
  obtain ⟨num, hnum⟩ : ∃ num, gnum zs (P + 2) 4 = num := ⟨_, rfl⟩
  obtain ⟨sm, hsm⟩ : ∃ sm, gnum zs (P + 6) 4 = sm := ⟨_, rfl⟩
  have eP : ((P : Int)).toNat = P := by omega
  have es : ((s : Int)).toNat = s := by omega
  have HC : ∀ w', Below w.heap.size w w' → ∀ i, i < zs.length → w'.cell? ⟨b, off + i, none⟩ = some (.int .u8 (zs[i]?.getD 0)) := fun w' hb' i hi => (hb'.cell (p := ⟨b, off + i, none⟩) hb).trans (hc i hi)
  have HB : ∀ w', Below w.heap.size w w' → b < w'.heap.size := fun w' hb' => Nat.lt_of_lt_of_le hb hb'.size
  have hP : P + 10 ≤ zs.length := by omega
  by_cases h4 : s = 0 ∨ 1000 < s
  · have e : frAns zs (P : Int) = (0, ByteArray.empty, 0, 3) := by
      unfold frAns; rw [eP, hs', if_neg (by omega), if_neg (by omega), if_pos (by omega)]
    rw [e]; exact implRf_pan _ _ 3 w fun w' hb' => readRf_3 b off _ c zs P s num w' rfl (HB w' hb') (HC w' hb') hz hcn hcm hn hP hs' hnum h4
  by_cases h5 : (zs.length : Int) - (P : Int) - 10 < (s : Int)
  · have e : frAns zs (P : Int) = (0, ByteArray.empty, 0, 4) := by
      unfold frAns; rw [eP, hs', if_neg (by omega), if_neg (by omega), if_neg (by omega), if_pos h5]
    rw [e]; exact implRf_pan _ _ 4 w fun w' hb' => readRf_4 b off _ c zs P s num w' rfl (HB w' hb') (HC w' hb') hz hcn hcm hn hP hs' hnum (by omega) (by omega) h5
  by_cases h6 : num = 0 ∨ 1000000000 < num
  · have e : frAns zs (P : Int) = (0, ByteArray.empty, 0, 5) := by
      unfold frAns; rw [eP, hs', hnum, if_neg (by omega), if_neg (by omega), if_neg (by omega), if_neg h5, if_pos h6]
    rw [e]; exact implRf_pan _ _ 5 w fun w' hb' => readRf_5 b off _ c zs P s num w' rfl (HB w' hb') (HC w' hb') hz hcn hcm hn hP hs' hnum (by omega) (by omega) h5 h6
  by_cases h7 : sm = crcI (cutL zs P 6 ++ cutL zs (P + 10) s)
  · have e : frAns zs (P : Int) = (num, strOfNums (cutL zs (P + 10) s), (P : Int) + 10 + (s : Int), 0) := by
      unfold frAns; rw [eP, hs', hnum, hsm, es, if_neg (by omega), if_neg (by omega), if_neg (by omega), if_neg h5, if_neg h6, if_pos h7]
    rw [e]; exact implRf_ret _ _ _ _ _ w fun w' hb' => readRf_0 b off _ c zs P s num w' rfl (HB w' hb') (HC w' hb') hz hcn hcm hn hP hs' hnum sm hsm (by omega) (by omega) h5 (by omega) (by omega) h7
  · have e : frAns zs (P : Int) = (0, ByteArray.empty, 0, 6) := by
      unfold frAns; rw [eP, hs', hnum, hsm, es, if_neg (by omega), if_neg (by omega), if_neg (by omega), if_neg h5, if_neg h6, if_neg h7]
    rw [e]; exact implRf_pan _ _ 6 w fun w' hb' => readRf_6 b off _ c zs P s num w' rfl (HB w' hb') (HC w' hb') hz hcn hcm hn hP hs' hnum sm hsm (by omega) (by omega) h5 (by omega) (by omega) h7

end Go.Proofs.Ytbjmjmammpgbmaa
