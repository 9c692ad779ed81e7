/-
  TextKey as plain mathematics: the runes of a right key's text (kl), and the key out of them (keyL).
-/
import Derived.Test.YtndlehogfedfaaaDoorKt
import Derived.Test.YtndlehogfedfaaaDoorRnBack
namespace Go.Proofs.YtndlehogfedfaaaDoor
open Go.RowKit
set_option linter.unusedVariables false
set_option maxRecDepth 100000

def nmL : List (List Int) := nmT.map fun x => x.1.map fun b => (b.toNat : Int)
def kl (k r : Int) : List Int :=
  if kForm k r = 1 then (if r = 32 then [83, 80, 67] else [r]) else if kForm k r = 2 then [67, 45, r] else
  if kForm k r = 3 then [77, 45, r] else if kForm k r = 4 then nmL[(k - 4).toNat]?.getD [] else []
def keyL (l : List Int) : Int × Int :=
  if l = [83, 80, 67] then (1, 32) else if l.length = 1 then (1, l[0]?.getD 0) else
  if l[1]? = some 45 then (if l[0]? = some 67 then (2, l[2]?.getD 0) else (3, l[2]?.getD 0)) else (4 + (nmL.findIdx (· == l) : Nat), 0)

theorem strOfNums_append (a b : List Int) : strOfNums (a ++ b) = strOfNums a ++ strOfNums b := by
  apply ByteArray.ext
  simp [strOfNums]

theorem txt1 (r : Int) : txt [r] 1 = rb r := by simp [txt]
theorem txt3 (a b r : Int) : txt [a, b, r] 3 = rb a ++ rb b ++ rb r := by simp [txt]

theorem rok_prn {r : Int} (h : prn r = true) : rok r = true := by
  unfold prn at h; simp at h; exact h.1
theorem rok_of {r : Int} (h : 0 ≤ r ∧ r ≤ 127) : rok r = true := by simp [rok]; omega

theorem kl_names (k : Int) (h : 4 ≤ k ∧ k ≤ 16) : ktx k 0 = strOfNums (txt (kl k 0) (kl k 0).length) ∧ (∀ y ∈ kl k 0, rok y = true) ∧ (kl k 0).length ≤ 6 ∧ keyL (kl k 0) = (k, 0) := by
  have : k = 4 ∨ k = 5 ∨ k = 6 ∨ k = 7 ∨ k = 8 ∨ k = 9 ∨ k = 10 ∨ k = 11 ∨ k = 12 ∨ k = 13 ∨ k = 14 ∨ k = 15 ∨ k = 16 := by omega
  rcases this with rfl | rfl | rfl | rfl | rfl | rfl | rfl | rfl | rfl | rfl | rfl | rfl | rfl
  all_goals decide +kernel

theorem ctl_bd {r : Int} (h : ctlB r = true) : 0 ≤ r ∧ r ≤ 127 := by
  have := of_decide_eq_true (show decide _ = true from h)
  omega

theorem ktx_kl {k r : Int} (h : kok k r = true) : ktx k r = strOfNums (txt (kl k r) (kl k r).length) ∧ (∀ y ∈ kl k r, rok y = true) ∧ (kl k r).length ≤ 6 ∧ keyL (kl k r) = (k, r) := by
  have hz : kForm k r ≠ 0 := of_decide_eq_true (show decide _ = true from h)
  rcases kForm_le k r with h1 | h1 | h1 | h1 | h1
  · exact absurd h1 hz
  · obtain rfl := kForm_1 h1
    have hp : prn r = true := by
      rw [kForm1] at h1
      cases e : prn r
      · rw [e] at h1; simp at h1
      · rfl
    by_cases h32 : r = 32
    · subst h32; decide +kernel
    · have e1 : ktx 1 r = sgn r := by unfold ktx; rw [if_pos h1, if_neg h32]
      have e2 : kl 1 r = [r] := by unfold kl; rw [if_pos h1, if_neg h32]
      rw [e1, e2]
      exact ⟨rfl, fun y hy => by rw [List.mem_singleton.1 hy]; exact rok_prn hp, by simp, by simp [keyL]⟩
  · obtain rfl := kForm_2 h1
    have hc : ctlB r = true := by
      rw [kForm2] at h1
      cases e : ctlB r
      · rw [e] at h1; simp at h1
      · rfl
    have e1 : ktx 2 r = ⟨#[67, 45]⟩ ++ sgn r := by unfold ktx; rw [h1]; rfl
    have e2 : kl 2 r = [67, 45, r] := by unfold kl; rw [h1]; rfl
    rw [e1, e2]
    refine ⟨?_, fun y hy => ?_, by simp, by simp [keyL]⟩
    · show _ = strOfNums (txt [67, 45, r] 3)
      rw [txt3, strOfNums_append, sgn, txt1]
      have : strOfNums (rb 67 ++ rb 45) = ⟨#[67, 45]⟩ := by decide +kernel
      rw [this]
    · have hb := ctl_bd hc
      simp at hy
      rcases hy with rfl | rfl | rfl
      · rfl
      · rfl
      · exact rok_of hb
  · obtain rfl := kForm_3 h1
    have hb : 33 ≤ r ∧ r ≤ 126 := by
      rw [kForm3] at h1
      by_cases hb : 33 ≤ r ∧ r ≤ 126
      · exact hb
      · rw [if_neg hb] at h1; omega
    have e1 : ktx 3 r = ⟨#[77, 45]⟩ ++ sgn r := by unfold ktx; rw [h1]; rfl
    have e2 : kl 3 r = [77, 45, r] := by unfold kl; rw [h1]; rfl
    rw [e1, e2]
    refine ⟨?_, fun y hy => ?_, by simp, by simp [keyL]⟩
    · show _ = strOfNums (txt [77, 45, r] 3)
      rw [txt3, strOfNums_append, sgn, txt1]
      have : strOfNums (rb 77 ++ rb 45) = ⟨#[77, 45]⟩ := by decide +kernel
      rw [this]
    · simp at hy
      rcases hy with rfl | rfl | rfl
      · rfl
      · rfl
      · exact rok_of (by omega)
  · obtain ⟨h2, h3, rfl⟩ := kForm_4 h1
    exact kl_names k ⟨h2, h3⟩

theorem ktx_runes {k r : Int} (h : kok k r = true) : rofOk (ktx k r) ∧ runes (ktx k r) = kl k r := by
  obtain ⟨h1, h2, h3, h4⟩ := ktx_kl h
  rw [h1]
  exact text_back (kl k r) h2 (by omega)

theorem ktx_inj {k r k' r' : Int} (h : kok k r = true) (h' : kok k' r' = true) (e : ktx k r = ktx k' r') : k = k' ∧ r = r' := by
  have h1 := (ktx_runes h).2
  have h2 := (ktx_runes h').2
  rw [e, h2] at h1
  have h3 := (ktx_kl h).2.2.2
  have h4 := (ktx_kl h').2.2.2
  rw [← h1, h4] at h3
  exact ⟨(Prod.mk.inj h3).1.symm, (Prod.mk.inj h3).2.symm⟩

theorem ktx_size {k r : Int} : (ktx k r).size ≤ 24 := by
  by_cases h : kok k r = true
  · obtain ⟨h1, h2, h3, h4⟩ := ktx_kl h
    rw [h1, strOfNums_size]
    have := txt_len (kl k r) (kl k r).length
    omega
  · have : kForm k r = 0 := by
      unfold kok at h
      simpa using h
    have e : ktx k r = ⟨#[]⟩ := by unfold ktx; rw [this]; rfl
    rw [e]; decide

theorem ktx_pos {k r : Int} (h : ktx k r ≠ ⟨#[]⟩) : kok k r = true := by
  unfold kok
  by_cases hz : kForm k r = 0
  · exact absurd (by unfold ktx; rw [hz]; rfl) h
  · simp [hz]

end Go.Proofs.YtndlehogfedfaaaDoor
