/-
  Plain facts: what was written is read again: numbers in bytes, digits of bytes, pieces and lines put together.
-/
import Derived.Test.YtmikibekioekmaeDoorGet
import Derived.Test.YtmikibekioekmaeDoorPutI
import Derived.Test.YtmikibekioekmaeDoorWUnhex
import Derived.Test.YtmikibekioekmaeDoorCutI
import Derived.Test.YtmikibekioekmaeDoorDrawB
namespace Go.Proofs.YtmikibekioekmaeDoor
open Go.RowKit
set_option linter.unusedVariables false

theorem get_put (ys : List Int) (n : Nat) (hl : ys.length = n) (X : Int) (h0 : 0 ≤ X) (h1 : X < 4294967296) : gnum (ys ++ pdig X 4 4) n 4 = X := by
  have hd : pdig X 4 4 = [X / 16777216 % 256, X / 65536 % 256, X / 256 % 256, X / 1 % 256] := by
    have : List.range 4 = [0, 1, 2, 3] := by decide
    simp [pdig, this, pw]
  have e : ∀ k : Nat, (ys ++ pdig X 4 4)[n + k]? = (pdig X 4 4)[k]? := by
    intro k
    rw [List.getElem?_append_right (by omega)]
    congr 1; omega
  simp only [gnum]
  rw [e 0, e 1, e 2, e 3, hd]
  simp
  omega

theorem chr_str (l : List Int) (k : Nat) (h : k < l.length) (h0 : 0 ≤ l[k]?.getD 0) (h1 : l[k]?.getD 0 ≤ 255) : chr (strOfNums l) k = l[k]?.getD 0 := by
  have hs : k < (strOfNums l).size := by rw [strOfNums_size]; exact h
  rw [chr_at _ _ hs]
  have e : (strOfNums l)[k] = UInt8.ofNat (l[k]).toNat := by
    show (strOfNums l).data[k] = _
    simp [strOfNums]
  rw [e]
  simp [h] at h0 h1 ⊢
  omega

theorem hexk_at (zs : List Int) : ∀ (n k : Nat), k < n → (hexk zs n)[2 * k]?.getD 0 = hx (zs[k]?.getD 0 / 16) ∧ (hexk zs n)[2 * k + 1]?.getD 0 = hx (zs[k]?.getD 0 % 16)
  | 0, k, h => by omega
  | n + 1, k, h => by
    have hlen := hexk_len zs n
    rw [hexk]
    by_cases e : k < n
    · rw [List.getElem?_append_left (by omega), List.getElem?_append_left (by omega)]
      exact hexk_at zs n k e
    · obtain rfl : k = n := by omega
      rw [List.getElem?_append_right (by omega), List.getElem?_append_right (by omega), hlen]
      have e1 : 2 * k - 2 * k = 0 := by omega
      have e2 : 2 * k + 1 - 2 * k = 1 := by omega
      rw [e1, e2]
      simp

theorem dg_hx (d : Int) (h0 : 0 ≤ d) (h1 : d ≤ 15) : (dg (hx d) : Int) = d := by
  unfold hx dg
  by_cases h : d < 10
  · rw [if_pos h, if_pos (by omega)]; omega
  · rw [if_neg h, if_neg (by omega), if_pos (by omega)]; omega

theorem chr_hex (zs : List Int) (n k : Nat) (hz : isBytes zs) (h : k < n) : (dg (chr (strOfNums (hexk zs n)) (2 * k)) : Int) = zs[k]?.getD 0 / 16 ∧ (dg (chr (strOfNums (hexk zs n)) (2 * k + 1)) : Int) = zs[k]?.getD 0 % 16 := by
  have ha := hexk_at zs n k h
  have hl := hexk_len zs n
  have hb := hz k
  have b1 := hx_bd (zs[k]?.getD 0 / 16) (by omega) (by omega)
  have b2 := hx_bd (zs[k]?.getD 0 % 16) (by omega) (by omega)
  rw [chr_str _ _ (by omega) (by rw [ha.1]; omega) (by rw [ha.1]; omega), chr_str _ _ (by omega) (by rw [ha.2]; omega) (by rw [ha.2]; omega), ha.1, ha.2]
  exact ⟨dg_hx _ (by omega) (by omega), dg_hx _ (by omega) (by omega)⟩

theorem hex_uok (zs : List Int) (n : Nat) (hz : isBytes zs) (hn : n ≤ 65536) : uok (strOfNums (hexk zs n)) := by
  have hs : (strOfNums (hexk zs n)).size = 2 * n := by rw [strOfNums_size, hexk_len]
  refine ⟨by omega, by omega, fun i hi => ?_⟩
  have hc := chr_hex zs n (i / 2) hz (by omega)
  have hb := hz (i / 2)
  by_cases e : i % 2 = 0
  · have e1 : 2 * (i / 2) = i := by omega
    rw [e1] at hc
    omega
  · have e1 : 2 * (i / 2) + 1 = i := by omega
    rw [e1] at hc
    omega

theorem hex_uns (zs : List Int) (n : Nat) (hl : zs.length = n) (hz : isBytes zs) : ∀ k, k ≤ n → uns (strOfNums (hexk zs n)) k = zs.take k
  | 0, _ => by simp [uns]
  | k + 1, h => by
    have hk : k < zs.length := by omega
    have hc := chr_hex zs n k hz (by omega)
    have hb := hz k
    rw [uns, hex_uns zs n hl hz k (by omega), List.take_succ_eq_append_getElem hk, hc.1, hc.2]
    congr 1
    have e : zs[k]?.getD 0 = zs[k] := by simp [hk]
    rw [e] at hb ⊢
    congr 1
    omega

theorem pcs_flat (c : UInt8) : ∀ l, (pcs c l).flatMap (· ++ [c]) = l ++ [c]
  | [] => by simp [pcs]
  | b :: l => by
    have ih := pcs_flat c l
    cases hp : pcs c l with
    | nil => exact absurd hp (pcs_ne c l)
    | cons p q =>
      rw [hp] at ih
      simp only [List.flatMap_cons, List.append_assoc] at ih
      unfold pcs
      split
      · rename_i hb
        subst hb
        rw [hp]
        simp only [List.flatMap_cons, List.append_assoc, List.nil_append]
        rw [ih]; simp
      · rw [hp]
        simp only [List.flatMap_cons, List.headD_cons, List.tail_cons, List.cons_append]
        exact congrArg (b :: ·) (by simpa using ih)

/-- What the law puts together of the first j parts: with the sign behind it, each part and its sign. -/
def Joined (c : UInt8) (xs : List ByteArray) (j : Nat) (t : ByteArray) : Prop :=
  (j = 0 ∧ t = ⟨#[]⟩) ∨ (1 ≤ j ∧ t.data.toList ++ [c] = ((xs.take j).map (·.data.toList)).flatMap (· ++ [c]))

theorem joined_first (c : UInt8) (xs : List ByteArray) (x : ByteArray) (h : xs.take 1 = [x]) : Joined c xs 1 (⟨#[]⟩ ++ x) := by
  refine .inr ⟨Nat.le_refl _, ?_⟩
  rw [h]
  simp

theorem joined_more {c : UInt8} {xs : List ByteArray} {j : Nat} {t x : ByteArray} (h : Joined c xs j t) (hj : 1 ≤ j) (hx : xs.take (j + 1) = xs.take j ++ [x]) : Joined c xs (j + 1) (t ++ ⟨#[c]⟩ ++ x) := by
  rcases h with ⟨h0, _⟩ | ⟨_, h⟩
  · omega
  · refine .inr ⟨by omega, ?_⟩
    rw [hx, List.map_append, List.flatMap_append, ← h]
    simp

theorem pcsB_data (c : UInt8) (s : ByteArray) : (pcsB c s).map (·.data.toList) = pcs c s.data.toList := by
  unfold pcsB
  rw [List.map_map]
  conv => rhs; rw [← List.map_id (pcs c s.data.toList)]
  apply List.map_congr_left
  intro p _
  exact toB_data p

theorem joined_all {c : UInt8} {s t : ByteArray} (h : Joined c (pcsB c s) (pcsB c s).length t) : t = s := by
  have hl := (pcsB_len c s).1
  rcases h with ⟨h0, _⟩ | ⟨_, h⟩
  · omega
  · rw [List.take_length, pcsB_data, pcs_flat] at h
    have := List.append_cancel_right h
    apply ByteArray.ext
    exact Array.toList_inj.1 this

/-- What the law puts together of the first j lines. -/
def Stacked (c : UInt8) (xs : List ByteArray) (j : Nat) (t : ByteArray) : Prop := t.data.toList = ((xs.take j).map (·.data.toList)).flatMap (· ++ [c])

theorem stacked_more {c : UInt8} {xs : List ByteArray} {j : Nat} {t x : ByteArray} (h : Stacked c xs j t) (hx : xs.take (j + 1) = xs.take j ++ [x]) : Stacked c xs (j + 1) (t ++ x ++ ⟨#[c]⟩) := by
  unfold Stacked at *
  rw [hx, List.map_append, List.flatMap_append, ← h]
  simp

theorem stacked_all {c : UInt8} {s t : ByteArray} (h : Stacked c (linB c s) (linB c s).length t) : t = s ∨ t = s ++ ⟨#[c]⟩ := by
  unfold Stacked at h
  rw [List.take_length] at h
  have hf := pcs_flat c s.data.toList
  rw [← pcsB_data] at hf
  unfold linB at h
  split at h
  · left
    rename_i he
    have hne : pcsB c s ≠ [] := by intro e; have := (pcsB_len c s).1; rw [e] at this; simp at this
    have hd : pcsB c s = (pcsB c s).dropLast ++ [(pcsB c s).getLast hne] := (List.dropLast_concat_getLast hne).symm
    have hg : (pcsB c s).getLastD ByteArray.empty = (pcsB c s).getLast hne := by rw [List.getLastD_eq_getLast?, List.getLast?_eq_some_getLast hne]; rfl
    rw [hg] at he
    have hz : ((pcsB c s).getLast hne).data.toList = [] := by
      apply List.eq_nil_of_length_eq_zero
      have : ((pcsB c s).getLast hne).data.toList.length = ((pcsB c s).getLast hne).size := by simp
      omega
    rw [hd, List.map_append, List.flatMap_append, ← h] at hf
    simp only [List.map_cons, List.map_nil, hz, List.flatMap_cons, List.flatMap_nil, List.nil_append, List.append_nil] at hf
    have := List.append_cancel_right hf
    apply ByteArray.ext
    exact Array.toList_inj.1 this
  · right
    rw [hf] at h
    apply ByteArray.ext
    apply Array.toList_inj.1
    rw [h]
    simp

end Go.Proofs.YtmikibekioekmaeDoor
