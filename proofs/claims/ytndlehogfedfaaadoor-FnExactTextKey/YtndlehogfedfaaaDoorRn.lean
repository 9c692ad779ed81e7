/-
  RunesOf, plain: the runes of a string by the decoder's steps; and what RuneRead answers at its bytes.
-/
import Derived.Test.YtndlehogfedfaaaDoorRrdI
import Derived.Lib.ValidLaws
import Derived.Lib.ConvBytes
namespace Go.Proofs.YtndlehogfedfaaaDoor
open Go.RowKit
set_option linter.unusedVariables false

/-- A string's bytes as numbers. -/
def numsS (s : ByteArray) : List Int := s.data.toList.map fun b => (b.toNat : Int)

theorem numsS_len (s : ByteArray) : (numsS s).length = s.size := by simp [numsS]

theorem numsS_bd (s : ByteArray) : ∀ i, 0 ≤ bt (numsS s) i ∧ bt (numsS s) i ≤ 255 := by
  intro i
  by_cases h : i < s.size
  · have h1 : i < s.data.toList.length := by simpa using h
    have h2 := UInt8.toNat_lt s.data.toList[i]
    have e : bt (numsS s) i = (s.data.toList[i].toNat : Int) := by simp [bt, numsS, List.getElem?_map, List.getElem?_eq_getElem h1]
    rw [e]; omega
  · have h1 : s.data.toList.length ≤ i := by simp; omega
    have e : bt (numsS s) i = 0 := by simp [bt, numsS, List.getElem?_map, List.getElem?_eq_none h1]
    rw [e]; omega

theorem strOfNums_numsS (s : ByteArray) : strOfNums (numsS s) = s := by
  have h : (numsS s).map (fun n => UInt8.ofNat n.toNat) = s.data.toList := by
    rw [numsS, List.map_map]
    conv => rhs; rw [← List.map_id s.data.toList]
    apply List.map_congr_left
    intro x _
    simp [Function.comp]
  unfold strOfNums
  rw [h]

theorem rrd_decode (s : ByteArray) (A : Nat) (hA : A < s.size) : rrd (numsS s) A = goAns (Utf8.decode s A) := by
  have g : ∀ j, (s.get! j).toNat = (bt (numsS s) j).toNat := by
    intro j
    have := get_strOfNums (numsS s) j (numsS_bd s)
    rw [strOfNums_numsS] at this
    exact this
  unfold rrd
  rw [Lib.decode_at, g, g, g, g, numsS_len]

/-- The runes from place A on, by at most f steps. -/
def rn (s : ByteArray) : Nat → Nat → List Int
  | 0, _ => []
  | f + 1, A => if A < s.size then ((Utf8.decode s A).1 : Int) :: rn s f (A + (Utf8.decode s A).2) else []

theorem rn_end (s : ByteArray) (f A : Nat) (h : ¬ A < s.size) : rn s f A = [] := by cases f <;> simp [rn, h]

theorem rn_len (s : ByteArray) : ∀ f A, (rn s f A).length ≤ f
  | 0, _ => by simp [rn]
  | f + 1, A => by
    have := rn_len s f (A + (Utf8.decode s A).2)
    unfold rn; split
    · simp; omega
    · simp

def runes (s : ByteArray) : List Int := rn s s.size 0

theorem dec_width (s : ByteArray) (A : Nat) (h : A < s.size) : 1 ≤ (Utf8.decode s A).2 ∧ (Utf8.decode s A).2 ≤ 4 := by
  rw [Lib.decode_at]
  unfold Lib.decodeN
  repeat' split
  all_goals simp

theorem dec_rune (s : ByteArray) (A : Nat) : (Utf8.decode s A).1 ≤ 1114111 := by
  rw [← Lib.decodeL_drop]; exact Lib.decodeL_rune _

theorem valid_step (s : ByteArray) (A : Nat) (h : A < s.size) :
    Lib.validD (s.data.toList.drop A) = if (Utf8.decode s A).1 = 65533 ∧ (Utf8.decode s A).2 = 1 then false else Lib.validD (s.data.toList.drop (A + (Utf8.decode s A).2)) := by
  have hne : s.data.toList.drop A ≠ [] := by
    intro e
    have := congrArg List.length e
    simp at this; omega
  rw [Lib.validD_step _ hne, Lib.decodeL_drop, List.drop_drop]

theorem rn_step (s : ByteArray) (f A : Nat) (h : A < s.size) (hf : s.size ≤ A + f) : ∃ f', rn s f A = ((Utf8.decode s A).1 : Int) :: rn s f' (A + (Utf8.decode s A).2) ∧ s.size ≤ A + (Utf8.decode s A).2 + f' := by
  have hw := dec_width s A h
  obtain ⟨f', rfl⟩ : ∃ f', f = f' + 1 := ⟨f - 1, by omega⟩
  refine ⟨f', ?_, by omega⟩
  simp [rn, h]

end Go.Proofs.YtndlehogfedfaaaDoor
