/-
  Plain arithmetic: which bytes begin a rune: the library's look (first byte, accepted range) and the model's (fill up with the least and the greatest byte) are one.
-/
import Derived.Test.YtojalheohpkdoaaDoorRmath
namespace Go.Proofs.YtojalheohpkdoaaDoor
open Go.RowKit
set_option linter.unusedVariables false
set_option linter.unusedSimpArgs false

/-- How many bytes a rune has that begins so. -/
def needI (x : Int) : Int := if x < 128 then 0 else if x < 194 then 1 else if x < 224 then 2 else if x < 240 then 3 else if x < 245 then 4 else 1
def loI (x : Int) : Int := if x = 224 then 160 else if x = 240 then 144 else 128
def hiI (x : Int) : Int := if x = 237 then 159 else if x = 244 then 143 else 191
/-- FullRune of so many bytes. -/
def frB (n : Nat) (x y z : Int) : Bool := decide (0 < n) && (decide (needI x ≤ n) || (decide (1 < n) && (decide (y < loI x) || decide (hiI x < y))) || (decide (2 < n) && (decide (z < 128) || decide (191 < z))))
def rbgB (zs : List Int) : Bool := decide (0 < zs.length) && !frB zs.length (bt zs 0) (bt zs 1) (bt zs 2)

def fillB (zs : List Int) (s : Nat) (v : Int) : List Int := zs ++ List.replicate (s - zs.length) v
theorem fillB_len {zs : List Int} {s : Nat} (v : Int) (h : zs.length ≤ s) : (fillB zs s v).length = s := by simp [fillB]; omega
theorem bt_byte {zs : List Int} (h : ∀ x ∈ zs, 0 ≤ x ∧ x ≤ 255) (i : Nat) : 0 ≤ bt zs i ∧ bt zs i ≤ 255 := by
  unfold bt
  by_cases hi : i < zs.length
  · simp [hi]; exact h _ (List.getElem_mem hi)
  · simp [hi]
theorem byte_bt {zs : List Int} (h : ∀ i, 0 ≤ bt zs i ∧ bt zs i ≤ 255) : ∀ x ∈ zs, 0 ≤ x ∧ x ≤ 255 := by
  intro x hx
  obtain ⟨i, hi, rfl⟩ := List.getElem_of_mem hx
  have := h i
  unfold bt at this
  simpa [hi] using this
theorem fillB_bytes {zs : List Int} (s : Nat) {v : Int} (hv : 0 ≤ v ∧ v ≤ 255) (h : ∀ i, 0 ≤ bt zs i ∧ bt zs i ≤ 255) (i : Nat) : 0 ≤ bt (fillB zs s v) i ∧ bt (fillB zs s v) i ≤ 255 := by
  refine bt_byte (fun x hx => ?_) i
  unfold fillB at hx
  rcases List.mem_append.1 hx with hx | hx
  · exact byte_bt h x hx
  · obtain ⟨_, rfl⟩ := List.mem_replicate.1 hx; exact hv

theorem hitX2 {x a : Int} (hx : 0 ≤ x ∧ x ≤ 255) (ha : 0 ≤ a ∧ a ≤ 255) : hit [x, a] 0 2 ↔ (x / 32 = 6 ∧ a / 64 = 2 ∧ 128 ≤ x % 32 * 64 + a % 64) := by
  rw [hit2 _ _ (bt_byte (by simp; omega)) (by simp)]
  simp [bt]
theorem hitX3 {x a b : Int} (hx : 0 ≤ x ∧ x ≤ 255) (ha : 0 ≤ a ∧ a ≤ 255) (hb : 0 ≤ b ∧ b ≤ 255) : hit [x, a, b] 0 3 ↔ (x / 16 = 14 ∧ a / 64 = 2 ∧ b / 64 = 2 ∧ 2048 ≤ x % 16 * 4096 + a % 64 * 64 + b % 64 ∧ (x % 16 * 4096 + a % 64 * 64 + b % 64 < 55296 ∨ 57344 ≤ x % 16 * 4096 + a % 64 * 64 + b % 64)) := by
  rw [hit3 _ _ (bt_byte (by simp; omega)) (by simp)]
  simp [bt]
theorem hitX4 {x a b c : Int} (hx : 0 ≤ x ∧ x ≤ 255) (ha : 0 ≤ a ∧ a ≤ 255) (hb : 0 ≤ b ∧ b ≤ 255) (hc : 0 ≤ c ∧ c ≤ 255) : hit [x, a, b, c] 0 4 ↔ (x / 8 = 30 ∧ a / 64 = 2 ∧ b / 64 = 2 ∧ c / 64 = 2 ∧ 65536 ≤ x % 8 * 262144 + a % 64 * 4096 + b % 64 * 64 + c % 64 ∧ x % 8 * 262144 + a % 64 * 4096 + b % 64 * 64 + c % 64 ≤ 1114111) := by
  rw [hit4 _ _ (bt_byte (by simp; omega)) (by simp)]
  simp [bt]

/-- Bytes that a rune has behind zs, at the size s. -/
def sizeP (zs : List Int) (s : Nat) : Prop := hit (fillB zs s 128) 0 s ∨ hit (fillB zs s 191) 0 s

theorem need_cases {x : Int} (hx : 0 ≤ x ∧ x ≤ 255) : (x < 194 ∧ needI x ≤ 1) ∨ (194 ≤ x ∧ x < 224 ∧ needI x = 2) ∨ (224 ≤ x ∧ x < 240 ∧ needI x = 3) ∨ (240 ≤ x ∧ x < 245 ∧ needI x = 4) ∨ (245 ≤ x ∧ needI x = 1) := by
  unfold needI
  repeat' split
  all_goals omega

theorem rbg_one (x : Int) (hx : 0 ≤ x ∧ x ≤ 255) : rbgB [x] = true ↔ ∃ s, 1 < s ∧ s ≤ 4 ∧ sizeP [x] s := by
  have e : rbgB [x] = true ↔ 1 < needI x := by simp [rbgB, frB, bt]
  rw [e]
  have h8 : (0 : Int) ≤ 128 ∧ (128 : Int) ≤ 255 := by omega
  have h9 : (0 : Int) ≤ 191 ∧ (191 : Int) ≤ 255 := by omega
  have f2 : sizeP [x] 2 ↔ (hit [x, 128] 0 2 ∨ hit [x, 191] 0 2) := Iff.rfl
  have f3 : sizeP [x] 3 ↔ (hit [x, 128, 128] 0 3 ∨ hit [x, 191, 191] 0 3) := Iff.rfl
  have f4 : sizeP [x] 4 ↔ (hit [x, 128, 128, 128] 0 4 ∨ hit [x, 191, 191, 191] 0 4) := Iff.rfl
  rw [hitX2 hx h8, hitX2 hx h9] at f2
  rw [hitX3 hx h8 h8, hitX3 hx h9 h9] at f3
  rw [hitX4 hx h8 h8 h8, hitX4 hx h9 h9 h9] at f4
  constructor
  · intro h
    rcases need_cases hx with h1 | h1 | h1 | h1 | h1
    · omega
    · exact ⟨2, by omega, by omega, f2.2 (by omega)⟩
    · exact ⟨3, by omega, by omega, f3.2 (by omega)⟩
    · exact ⟨4, by omega, by omega, f4.2 (by omega)⟩
    · omega
  · rintro ⟨s, hs1, hs2, h⟩
    have : s = 2 ∨ s = 3 ∨ s = 4 := by omega
    rcases this with rfl | rfl | rfl
    · have := f2.1 h; rcases need_cases hx with h1 | h1 | h1 | h1 | h1 <;> omega
    · have := f3.1 h; rcases need_cases hx with h1 | h1 | h1 | h1 | h1 <;> omega
    · have := f4.1 h; rcases need_cases hx with h1 | h1 | h1 | h1 | h1 <;> omega

theorem lohi {x : Int} : (x = 224 ∧ loI x = 160 ∧ hiI x = 191) ∨ (x = 240 ∧ loI x = 144 ∧ hiI x = 191) ∨ (x = 237 ∧ loI x = 128 ∧ hiI x = 159) ∨ (x = 244 ∧ loI x = 128 ∧ hiI x = 143) ∨ (x ≠ 224 ∧ x ≠ 240 ∧ x ≠ 237 ∧ x ≠ 244 ∧ loI x = 128 ∧ hiI x = 191) := by
  unfold loI hiI
  repeat' split
  all_goals omega

theorem rbg_two (x y : Int) (hx : 0 ≤ x ∧ x ≤ 255) (hy : 0 ≤ y ∧ y ≤ 255) : rbgB [x, y] = true ↔ ∃ s, 2 < s ∧ s ≤ 4 ∧ sizeP [x, y] s := by
  have e : rbgB [x, y] = true ↔ 2 < needI x ∧ loI x ≤ y ∧ y ≤ hiI x := by simp [rbgB, frB, bt]
  rw [e]
  have h8 : (0 : Int) ≤ 128 ∧ (128 : Int) ≤ 255 := by omega
  have h9 : (0 : Int) ≤ 191 ∧ (191 : Int) ≤ 255 := by omega
  have f3 : sizeP [x, y] 3 ↔ (hit [x, y, 128] 0 3 ∨ hit [x, y, 191] 0 3) := Iff.rfl
  have f4 : sizeP [x, y] 4 ↔ (hit [x, y, 128, 128] 0 4 ∨ hit [x, y, 191, 191] 0 4) := Iff.rfl
  rw [hitX3 hx hy h8, hitX3 hx hy h9] at f3
  rw [hitX4 hx hy h8 h8, hitX4 hx hy h9 h9] at f4
  constructor
  · rintro ⟨h, hl, hh⟩
    rcases need_cases hx with h1 | h1 | h1 | h1 | h1
    · omega
    · omega
    · refine ⟨3, by omega, by omega, f3.2 ?_⟩
      rcases lohi (x := x) with h2 | h2 | h2 | h2 | h2 <;> omega
    · refine ⟨4, by omega, by omega, f4.2 ?_⟩
      rcases lohi (x := x) with h2 | h2 | h2 | h2 | h2 <;> omega
    · omega
  · rintro ⟨s, hs1, hs2, h⟩
    have : s = 3 ∨ s = 4 := by omega
    rcases this with rfl | rfl
    · have := f3.1 h; rcases need_cases hx with h1 | h1 | h1 | h1 | h1 <;> first | omega | (rcases lohi (x := x) with h2 | h2 | h2 | h2 | h2 <;> omega)
    · have := f4.1 h; rcases need_cases hx with h1 | h1 | h1 | h1 | h1 <;> first | omega | (rcases lohi (x := x) with h2 | h2 | h2 | h2 | h2 <;> omega)

theorem rbg_three (x y z : Int) (hx : 0 ≤ x ∧ x ≤ 255) (hy : 0 ≤ y ∧ y ≤ 255) (hz : 0 ≤ z ∧ z ≤ 255) : rbgB [x, y, z] = true ↔ ∃ s, 3 < s ∧ s ≤ 4 ∧ sizeP [x, y, z] s := by
  have e : rbgB [x, y, z] = true ↔ (3 < needI x ∧ loI x ≤ y ∧ y ≤ hiI x) ∧ 128 ≤ z ∧ z ≤ 191 := by simp [rbgB, frB, bt]
  rw [e]
  have h8 : (0 : Int) ≤ 128 ∧ (128 : Int) ≤ 255 := by omega
  have h9 : (0 : Int) ≤ 191 ∧ (191 : Int) ≤ 255 := by omega
  have f4 : sizeP [x, y, z] 4 ↔ (hit [x, y, z, 128] 0 4 ∨ hit [x, y, z, 191] 0 4) := Iff.rfl
  rw [hitX4 hx hy hz h8, hitX4 hx hy hz h9] at f4
  constructor
  · rintro ⟨⟨h, hl, hh⟩, hz1, hz2⟩
    rcases need_cases hx with h1 | h1 | h1 | h1 | h1
    · omega
    · omega
    · omega
    · refine ⟨4, by omega, by omega, f4.2 ?_⟩
      rcases lohi (x := x) with h2 | h2 | h2 | h2 | h2 <;> omega
    · omega
  · rintro ⟨s, hs1, hs2, h⟩
    obtain rfl : s = 4 := by omega
    have := f4.1 h
    rcases need_cases hx with h1 | h1 | h1 | h1 | h1 <;> first | omega | (rcases lohi (x := x) with h2 | h2 | h2 | h2 | h2 <;> omega)

theorem rbg_iff (zs : List Int) (hb : ∀ i, 0 ≤ bt zs i ∧ bt zs i ≤ 255) : rbgB zs = true ↔ (0 < zs.length ∧ zs.length ≤ 3 ∧ ∃ s, zs.length < s ∧ s ≤ 4 ∧ sizeP zs s) := by
  have hm := byte_bt hb
  match zs with
  | [] => simp [rbgB]
  | [x] => rw [rbg_one x (hm x (by simp))]; simp
  | [x, y] => rw [rbg_two x y (hm x (by simp)) (hm y (by simp))]; simp
  | [x, y, z] => rw [rbg_three x y z (hm x (by simp)) (hm y (by simp)) (hm z (by simp))]; simp
  | x :: y :: z :: u :: l =>
    constructor
    · intro h
      exfalso
      simp [rbgB, frB] at h
      have hx := hm x (by simp)
      have e : bt (x :: y :: z :: u :: l) 0 = x := rfl
      rw [e] at h
      rcases need_cases hx with h1 | h1 | h1 | h1 | h1 <;> omega
    · rintro ⟨h1, h2, _⟩
      simp at h2

end Go.Proofs.YtojalheohpkdoaaDoor
