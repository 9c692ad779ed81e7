/-
  The text of a row as plain mathematics: halves have no text; what is cut of the text's end is what is cut of the runes.
-/
import Derived.Test.YtadnboknickfkaaDoorGrU
import Derived.Test.YtadnboknickfkaaDoorRmath
import Derived.Test.YtadnboknickfkaaDoorText
import Derived.Lib.TrimByte
namespace Go.Proofs.YtadnboknickfkaaDoor
open Go.RowKit
set_option linter.unusedVariables false
set_option linter.unusedSimpArgs false

/-- The bytes of runes, one behind the other. -/
def tx (l : List Int) : List Int := (l.map rb).flatten
theorem tx_snoc (l : List Int) (x : Int) : tx (l ++ [x]) = tx l ++ rb x := by simp [tx]
theorem txt_take (zs : List Int) : ∀ k, k ≤ zs.length → txt zs k = tx (zs.take k)
  | 0, _ => by simp [txt, tx]
  | k + 1, h => by
    have hk : k < zs.length := by omega
    rw [txt, txt_take zs k (by omega), List.take_succ_eq_append_getElem hk, tx_snoc]
    simp [hk]
theorem txt_all (zs : List Int) : txt zs zs.length = tx zs := by rw [txt_take zs _ (Nat.le_refl _), List.take_length]

def noHalf (l : List Int) : List Int := l.filter (fun r => r != -1)
theorem noHalf_snoc (l : List Int) (x : Int) : noHalf (l ++ [x]) = if x = -1 then noHalf l else noHalf l ++ [x] := by
  unfold noHalf
  rw [List.filter_append]
  by_cases h : x = -1
  · rw [if_pos h]; simp [h]
  · rw [if_neg h]; simp [h]
theorem rb_half : rb (-1) = [] := rfl
theorem tx_noHalf : ∀ l : List Int, tx (noHalf l) = tx l
  | [] => rfl
  | x :: l => by
    have ih := tx_noHalf l
    unfold tx noHalf at *
    by_cases h : x = -1
    · subst h
      simp [rb_half]
      simpa using ih
    · simp [h]
      simpa using ih

def stripI (l : List Int) : List Int := (l.reverse.dropWhile (· == 32)).reverse
theorem stripI_snoc (l : List Int) (x : Int) : stripI (l ++ [x]) = if x = 32 then stripI l else l ++ [x] := by
  unfold stripI
  by_cases h : x = 32
  · rw [if_pos h]; simp [h]
  · rw [if_neg h]; simp [h]
theorem trimR_snoc (L : List UInt8) (b c : UInt8) : Lib.trimRightB (L ++ [b]) c = if b = c then Lib.trimRightB L c else L ++ [b] := by
  unfold Lib.trimRightB
  by_cases h : b = c
  · rw [if_pos h]; simp [h]
  · rw [if_neg h]; simp [h]

theorem rb_space : rb 32 = [32] := by decide
/-- A rune that is no blank ends in no blank. -/
theorem rb_end {x : Int} (h0 : rb x ≠ []) (h : x ≠ 32) : ∃ i b, rb x = i ++ [b] ∧ 0 ≤ b ∧ b < 256 ∧ b ≠ 32 := by
  have hb := rb_byte x
  rcases rb_cases x with ⟨_, e⟩ | ⟨h1, h2, e⟩ | ⟨h1, h2, e⟩ | ⟨h1, e⟩ | ⟨h1, h2, e⟩ | ⟨_, e⟩
  · exact absurd e h0
  · exact ⟨[], x, e, by omega, by omega, h⟩
  · exact ⟨[192 + x / 64], 128 + x % 64, e, by omega, by omega, by omega⟩
  · exact ⟨[224 + x / 4096, 128 + x / 64 % 64], 128 + x % 64, e, by omega, by omega, by omega⟩
  · exact ⟨[240 + x / 262144, 128 + x / 4096 % 64, 128 + x / 64 % 64], 128 + x % 64, e, by omega, by omega, by omega⟩
  · exact absurd e h0

def b8 (l : List Int) : List UInt8 := l.map fun n => UInt8.ofNat n.toNat
theorem b8_app (l m : List Int) : b8 (l ++ m) = b8 l ++ b8 m := by simp [b8]

theorem trim_tx (l : List Int) (h : ∀ x ∈ l, rb x ≠ []) : Lib.trimRightB (b8 (tx l)) 32 = b8 (tx (stripI l)) := by
  obtain ⟨m, hm⟩ : ∃ m, m = l.length := ⟨_, rfl⟩
  induction m generalizing l with
  | zero =>
    have : l = [] := List.eq_nil_of_length_eq_zero hm.symm
    subst this; rfl
  | succ m ih =>
    have hne : l ≠ [] := by intro e; subst e; simp at hm
    obtain ⟨l', x, rfl⟩ : ∃ l' x, l = l' ++ [x] := ⟨l.dropLast, l.getLast hne, (List.dropLast_concat_getLast hne).symm⟩
    have ih' := ih l' (fun y hy => h y (List.mem_append_left _ hy)) (by simp at hm; omega)
    rw [tx_snoc, stripI_snoc]
    by_cases hx : x = 32
    · rw [if_pos hx, hx, rb_space, b8_app]
      rw [show b8 [32] = [(32 : UInt8)] from rfl, trimR_snoc, if_pos rfl]
      exact ih'
    · rw [if_neg hx, tx_snoc]
      obtain ⟨i, b, hb, b0, b1, b2⟩ := rb_end (h x (List.mem_append_right _ (List.mem_singleton.2 rfl))) hx
      rw [hb, ← List.append_assoc, b8_app]
      rw [show b8 [b] = [UInt8.ofNat b.toNat] from rfl, trimR_snoc, if_neg ?_]
      intro e
      apply b2
      have h9 := congrArg UInt8.toNat e
      rw [UInt8.toNat_ofNat_of_lt' (by show b.toNat < 256; omega)] at h9
      have : (32 : UInt8).toNat = 32 := rfl
      omega

/-- The text of a row of cells. -/
def rowTx (l : List Int) : ByteArray := strOfNums (tx (stripI (noHalf l)))
theorem trim_row (l : List Int) (h : ∀ x ∈ l, x = -1 ∨ rb x ≠ []) : (⟨(Lib.trimRightB (strOfNums (tx l)).data.toList 32).toArray⟩ : ByteArray) = rowTx l := by
  have e : (strOfNums (tx l)).data.toList = b8 (tx l) := rfl
  have h2 : ∀ x ∈ noHalf l, rb x ≠ [] := by
    intro x hx
    unfold noHalf at hx
    have h3 := List.mem_filter.1 hx
    rcases h x h3.1 with h4 | h4
    · rw [h4] at h3; simp at h3
    · exact h4
  rw [e, ← tx_noHalf, trim_tx _ h2]
  rfl

/-- The answer of GridRow. -/
def rowA (d : GrD) (y : Int) : ByteArray := if (gokB d && (decide (0 ≤ y) && decide (y < d.2.1))) = true then rowTx (rowAt d.2.2.1 d.1.toNat y.toNat) else ByteArray.empty
theorem rowA_no {d : GrD} {y : Int} (h : gokB d = false ∨ y < 0 ∨ d.2.1 ≤ y) : rowA d y = ByteArray.empty := by
  have e : (gokB d && (decide (0 ≤ y) && decide (y < d.2.1))) = false := by
    rcases h with h | h | h
    · rw [h]; rfl
    · rw [decide_eq_false (p := 0 ≤ y) (by omega)]; simp
    · rw [decide_eq_false (p := y < d.2.1) (by omega)]; simp
  unfold rowA; rw [e]; rfl
theorem rowA_yes {d : GrD} {y : Int} (h1 : gokB d = true) (h2 : 0 ≤ y) (h3 : y < d.2.1) : rowA d y = rowTx (rowAt d.2.2.1 d.1.toNat y.toNat) := by
  unfold rowA; rw [h1, decide_eq_true h2, decide_eq_true h3]; rfl

/-- A right grid's cells are halves or runes with a text. -/
theorem cell_rb {c : List Int} {W i : Nat} (h : cellB c W i = true) : at0 c i = -1 ∨ rb (at0 c i) ≠ [] := by
  unfold cellB at h
  split at h
  · exact .inl ‹_›
  · right
    have hw : wd (at0 c i) ≠ 0 := by
      intro h0; rw [h0] at h; simp at h
    have hr : rok (at0 c i) = true := by
      by_cases hp : rok (at0 c i) = true
      · exact hp
      · exfalso; apply hw
        have hp' : rok (at0 c i) = false := by simpa using hp
        unfold wd prn
        rw [hp']; rfl
    have := rb_pos hr
    intro e; rw [e] at this; simp at this

end Go.Proofs.YtadnboknickfkaaDoor
