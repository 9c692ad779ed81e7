/-
  Moving the cursor: the bytes, as plain mathematics; what chooses between texts.
-/
import Derived.Test.YthgbionamelloaaDoorEmG
import Derived.Test.YthgbionamelloaaDoorGrP
namespace Go.Proofs.YthgbionamelloaaDoor
open Go.RowKit
set_option linter.unusedVariables false
set_option linter.unusedSimpArgs false

theorem decT_size (n : Nat) : (decT n).size = Lib.nDigits n := by
  show (Lib.decDigits n).toArray.size = _
  rw [List.size_toArray, Lib.decDigits_length]
theorem nD_pos (n : Nat) : 1 ≤ Lib.nDigits n := by
  by_cases h : n < 10
  · rw [Lib.nDigits_small h]; exact Nat.le_refl _
  · rw [Lib.nDigits_big h]; omega
theorem nD_le3 {n : Nat} (h : n < 1000) : Lib.nDigits n ≤ 3 := by
  by_cases h1 : n < 10
  · rw [Lib.nDigits_small h1]; omega
  · rw [Lib.nDigits_big h1]
    by_cases h2 : n / 10 < 10
    · rw [Lib.nDigits_small h2]; omega
    · rw [Lib.nDigits_big h2, Lib.nDigits_small (by omega)]; omega

/-- 27, '[', the text of a number, and a letter. -/
def colT (n : Nat) (f : ByteArray) : ByteArray := (⟨#[27, 91]⟩ ++ decT n) ++ f
theorem colT_size (n : Nat) (f : ByteArray) (hf : f.size = 1) : (colT n f).size = 3 + Lib.nDigits n := by
  unfold colT
  simp only [ByteArray.size_append, decT_size, hf]
  have e1 : (⟨#[27, 91]⟩ : ByteArray).size = 2 := rfl
  omega
theorem gotoZ_size {x y : Int} (h : 0 ≤ x ∧ x < 200 ∧ 0 ≤ y ∧ y < 200) : (gotoZ x y).length = 4 + Lib.nDigits (y.toNat + 1) + Lib.nDigits (x.toNat + 1) := by
  unfold gotoZ
  rw [if_pos h, bytesZ_len]
  unfold gotoT
  simp only [ByteArray.size_append, decT_size]
  have e1 : (⟨#[27, 91]⟩ : ByteArray).size = 2 := rfl
  have e2 : (⟨#[59]⟩ : ByteArray).size = 1 := rfl
  have e3 : (⟨#[72]⟩ : ByteArray).size = 1 := rfl
  omega

def fC : ByteArray := ⟨#[67]⟩
def fD : ByteArray := ⟨#[68]⟩

/-- What moves the cursor from (X, Y) to (x, y). -/
def stepZ (X Y : Int) (wr : Bool) (x y : Int) : List Int :=
  if y ≠ Y then gotoZ x y
  else if wr = true then (if x = 0 then [13] else gotoZ x y)
  else if x = X then []
  else if x = 0 then [13]
  else if 1 ≤ X - x ∧ X - x ≤ 3 then List.replicate (X - x).toNat 8
  else if X < x then bytesZ (colT (x - X).toNat fC)
  else bytesZ (colT (X - x).toNat fD)

/-- One of several texts: the first of the shortest that are not empty. -/
def shL (cur l : List Int) : List Int := if 0 < l.length ∧ (cur.length = 0 ∨ l.length < cur.length) then l else cur
def pickL (ls : List (List Int)) : List Int := ls.foldl shL []

theorem pickL_take {ls : List (List Int)} {k : Nat} (h : k < ls.length) : pickL (ls.take (k + 1)) = shL (pickL (ls.take k)) (ls[k]?.getD []) := by
  unfold pickL
  rw [List.take_succ_eq_append_getElem h, List.foldl_append]
  simp [h]

def edgeZ (x : Int) : List Int := if x = 0 then [13] else []
def backZ (n : Int) : List Int := if 1 ≤ n ∧ n ≤ 3 then List.replicate n.toNat 8 else []
def colZ (n : Int) (f : ByteArray) : List Int := if 1 ≤ n then bytesZ (colT n.toNat f) else []

theorem edge_pick {x y : Int} (h : 0 ≤ x ∧ x < 200 ∧ 0 ≤ y ∧ y < 200) : pickL [edgeZ x, gotoZ x y] = if x = 0 then [13] else gotoZ x y := by
  have hg := gotoZ_size h
  have h1 := nD_pos (y.toNat + 1)
  have h2 := nD_pos (x.toNat + 1)
  unfold pickL
  simp only [List.foldl]
  unfold edgeZ
  by_cases h0 : x = 0
  · rw [if_pos h0, if_pos h0]
    have e : shL [] [13] = [13] := rfl
    rw [e]
    unfold shL
    rw [if_neg]
    simp only [List.length_cons, List.length_nil]
    omega
  · rw [if_neg h0, if_neg h0]
    have e : shL [] [] = [] := rfl
    rw [e]
    unfold shL
    rw [if_pos]
    simp only [List.length_nil]
    exact ⟨by omega, .inl trivial⟩

theorem shL_nil (l : List Int) : shL [] l = l := by
  unfold shL
  cases l with
  | nil => rfl
  | cons a l => simp
theorem shL_none (l : List Int) : shL l [] = l := by
  unfold shL
  simp
theorem shL_keep {cur l : List Int} (h0 : 0 < cur.length) (h : cur.length ≤ l.length) : shL cur l = cur := by
  unfold shL
  rw [if_neg]
  omega

theorem five_pick {X x y : Int} (h : 0 ≤ x ∧ x < 200 ∧ 0 ≤ y ∧ y < 200) (hX : 0 ≤ X ∧ X < 200) (hne : x ≠ X) :
    pickL [edgeZ x, backZ (-(x - X)), colZ (x - X) fC, colZ (-(x - X)) fD, gotoZ x y] = stepZ X y false x y := by
  have hg := gotoZ_size h
  have p1 := nD_pos (y.toNat + 1)
  have p2 := nD_pos (x.toNat + 1)
  unfold pickL
  simp only [List.foldl]
  rw [shL_nil]
  unfold stepZ
  rw [if_neg (by simp), if_neg (by simp), if_neg hne]
  by_cases h0 : x = 0
  · rw [if_pos h0]
    have e1 : edgeZ x = [13] := by unfold edgeZ; rw [if_pos h0]
    have e3 : colZ (x - X) fC = [] := by unfold colZ; rw [if_neg (by omega)]
    have e2 : shL [13] (backZ (-(x - X))) = [13] := by
      unfold backZ
      split
      · refine shL_keep (by simp) ?_
        rw [List.length_replicate]; simp; omega
      · exact shL_none _
    have e4 : shL [13] (colZ (-(x - X)) fD) = [13] := by
      unfold colZ
      rw [if_pos (by omega)]
      refine shL_keep (by simp) ?_
      rw [bytesZ_len, colT_size _ _ rfl]; simp; omega
    rw [e1, e2, e3, shL_none, e4]
    exact shL_keep (by simp) (by rw [hg]; simp; omega)
  · rw [if_neg h0]
    have e1 : edgeZ x = [] := by unfold edgeZ; rw [if_neg h0]
    rw [e1, shL_nil]
    by_cases hb : 1 ≤ X - x ∧ X - x ≤ 3
    · rw [if_pos hb]
      have e2 : backZ (-(x - X)) = List.replicate (X - x).toNat 8 := by unfold backZ; rw [if_pos (by omega)]; congr 1; omega
      have e3 : colZ (x - X) fC = [] := by unfold colZ; rw [if_neg (by omega)]
      have hl : (List.replicate (X - x).toNat (8 : Int)).length ≤ 3 ∧ 0 < (List.replicate (X - x).toNat (8 : Int)).length := by rw [List.length_replicate]; omega
      have e4 : shL (List.replicate (X - x).toNat 8) (colZ (-(x - X)) fD) = List.replicate (X - x).toNat 8 := by
        unfold colZ
        rw [if_pos (by omega)]
        refine shL_keep hl.2 ?_
        rw [bytesZ_len, colT_size _ _ rfl]; omega
      rw [e2, e3, shL_none, e4]
      exact shL_keep hl.2 (by rw [hg]; omega)
    · rw [if_neg hb]
      have e2 : backZ (-(x - X)) = [] := by unfold backZ; rw [if_neg (by omega)]
      rw [e2, shL_nil]
      have hlt : ∀ k : Nat, k < 1000 → (bytesZ (colT k fC)).length ≤ 6 ∧ (bytesZ (colT k fD)).length ≤ 6 := by
        intro k hk
        rw [bytesZ_len, bytesZ_len, colT_size _ _ rfl, colT_size _ _ rfl]
        have := nD_le3 hk
        omega
      have hl0 : ∀ k : Nat, 0 < (bytesZ (colT k fC)).length ∧ 0 < (bytesZ (colT k fD)).length := by
        intro k
        rw [bytesZ_len, bytesZ_len, colT_size _ _ rfl, colT_size _ _ rfl]
        omega
      by_cases hx : X < x
      · rw [if_pos hx]
        have e3 : colZ (x - X) fC = bytesZ (colT (x - X).toNat fC) := by unfold colZ; rw [if_pos (by omega)]
        have e4 : colZ (-(x - X)) fD = [] := by unfold colZ; rw [if_neg (by omega)]
        rw [e3, e4, shL_none]
        exact shL_keep (hl0 _).1 (by rw [hg]; have := (hlt (x - X).toNat (by omega)).1; omega)
      · rw [if_neg hx]
        have e3 : colZ (x - X) fC = [] := by unfold colZ; rw [if_neg (by omega)]
        have e4 : colZ (-(x - X)) fD = bytesZ (colT (X - x).toNat fD) := by unfold colZ; rw [if_pos (by omega)]; congr 2; omega
        rw [e3, shL_nil, e4]
        exact shL_keep (hl0 _).2 (by rw [hg]; have := (hlt (X - x).toNat (by omega)).2; omega)

/-- What the model chooses: the one named last ahead of the others, where it may be taken and is no longer. -/
def shM (l : List Int) (ok : Bool) (cur : List Int) : List Int := if ok = true ∧ l.length ≤ cur.length then l else cur

end Go.Proofs.YthgbionamelloaaDoor
