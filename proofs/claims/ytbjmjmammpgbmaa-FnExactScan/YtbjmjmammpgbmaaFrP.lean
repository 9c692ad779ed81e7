/-
  A record: its bytes (plain facts).
-/
import Derived.Test.YtbjmjmammpgbmaaPut
import Derived.Test.YtbjmjmammpgbmaaCrc
import Derived.Lib.AppendStr
namespace Go.Proofs.Ytbjmjmammpgbmaa
open Go.RowKit
set_option linter.unusedVariables false

/-- The bytes of a text. -/
def sB (s : ByteArray) : List Int := s.data.toList.map fun b => (b.toNat : Int)

theorem sB_cells (s : ByteArray) : Lib.strCells s = (sB s).map (Value.int .u8) := by simp [Lib.strCells, sB]
theorem sB_len (s : ByteArray) : (sB s).length = s.size := by rw [sB, List.length_map, Array.length_toList]; rfl

def Byt (l : List Int) : Prop := ∀ i : Nat, 0 ≤ l[i]?.getD 0 ∧ l[i]?.getD 0 ≤ 255

theorem byt_iff (l : List Int) : Byt l ↔ ∀ x ∈ l, 0 ≤ x ∧ x ≤ 255 := by
  constructor
  · intro h x hx
    obtain ⟨i, hi, rfl⟩ := List.getElem_of_mem hx
    have := h i
    rw [List.getElem?_eq_getElem hi] at this
    exact this
  · intro h i
    by_cases hi : i < l.length
    · rw [List.getElem?_eq_getElem hi]; exact h _ (List.getElem_mem hi)
    · rw [List.getElem?_eq_none (by omega)]; simp

theorem byt_append {a b : List Int} (ha : Byt a) (hb : Byt b) : Byt (a ++ b) := by
  rw [byt_iff] at *
  intro x hx
  rcases List.mem_append.1 hx with h | h
  · exact ha x h
  · exact hb x h

theorem byt_sB (s : ByteArray) : Byt (sB s) := by
  rw [byt_iff]
  intro x hx
  simp only [sB, List.mem_map] at hx
  obtain ⟨b, _, rfl⟩ := hx
  have := b.toNat_lt
  omega

theorem byt_pdig (N : Int) (S k : Nat) : Byt (pdig N S k) := by
  rw [byt_iff]
  intro x hx
  simp only [pdig, List.mem_map] at hx
  obtain ⟨i, _, rfl⟩ := hx
  have h1 := Int.emod_nonneg (N / pw (S - 1 - i)) (b := 256) (by omega)
  have h2 := Int.emod_lt_of_pos (N / pw (S - 1 - i)) (b := 256) (by omega)
  omega

/-- The sum of bytes. -/
def crcI (zs : List Int) : Int := ((csum zs zs.length ^^^ 4294967295 : Nat) : Int)

theorem crcI_bd (zs : List Int) (h : Byt zs) : 0 ≤ crcI zs ∧ crcI zs < 4294967296 := by
  have h1 := csum_lt zs h zs.length
  have h2 : csum zs zs.length ^^^ 4294967295 < 2 ^ 32 := Nat.xor_lt_two_pow (by omega) (by omega)
  unfold crcI
  omega

def headL (x : Int) (n : Nat) : List Int := pdig n 2 2 ++ pdig x 4 4

def frameL (x : Int) (t : List Int) : List Int := headL x t.length ++ pdig (crcI (headL x t.length ++ t)) 4 4 ++ t

theorem headL_len (x : Int) (n : Nat) : (headL x n).length = 6 := by simp [headL, pdig_len]
theorem byt_headL (x : Int) (n : Nat) : Byt (headL x n) := byt_append (byt_pdig _ _ _) (byt_pdig _ _ _)
theorem frameL_len (x : Int) (t : List Int) : (frameL x t).length = 10 + t.length := by simp [frameL, headL_len, pdig_len]; omega
theorem byt_frameL (x : Int) (t : List Int) (h : Byt t) : Byt (frameL x t) := byt_append (byt_append (byt_headL _ _) (byt_pdig _ _ _)) h

end Go.Proofs.Ytbjmjmammpgbmaa
