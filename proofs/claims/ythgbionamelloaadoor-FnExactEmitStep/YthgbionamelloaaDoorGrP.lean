/-
  What a right grid is, as plain mathematics: sides, cells, cursor; the cells of one row.
-/
import Derived.Test.YthgbionamelloaaDoorWid
namespace Go.Proofs.YthgbionamelloaaDoor
open Go.RowKit
set_option linter.unusedVariables false

def sidesB (x y : Int) : Bool := decide (2 ≤ x) && decide (x ≤ 200) && decide (1 ≤ y) && decide (y ≤ 200) && decide (x * y ≤ 8000)

theorem sidesB_iff {x y : Int} : sidesB x y = true ↔ 2 ≤ x ∧ x ≤ 200 ∧ 1 ≤ y ∧ y ≤ 200 ∧ x * y ≤ 8000 := by
  unfold sidesB
  simp only [Bool.and_eq_true, decide_eq_true_eq, and_assoc]

theorem mul_bd {x y : Int} (h1 : 2 ≤ x) (h2 : x ≤ 200) (h3 : 1 ≤ y) (h4 : y ≤ 200) : 2 ≤ x * y ∧ x * y ≤ 40000 := by
  have a := Int.mul_le_mul (a := x) (b := y) (c := 200) (d := 200) h2 h4 (by omega) (by omega)
  have b := Int.mul_le_mul (a := 2) (b := 1) (c := x) (d := y) h1 h3 (by omega) (by omega)
  omega

theorem wd_half : wd (-1) = 0 := by decide +kernel

def at0 (c : List Int) (i : Nat) : Int := c[i]?.getD 0

def cellB (c : List Int) (W i : Nat) : Bool :=
  if at0 c i = -1 then decide (i % W ≠ 0) && decide (wd (at0 c (i - 1)) = 2)
  else decide (wd (at0 c i) = 1) || (decide (wd (at0 c i) = 2) && decide (i % W ≠ W - 1) && decide (at0 c (i + 1) = -1))

/-- The first k cells are right. -/
def cellsB (c : List Int) (W : Nat) : Nat → Bool
  | 0 => true
  | k + 1 => cellsB c W k && cellB c W k

theorem cellsB_lt {c : List Int} {W : Nat} : ∀ {n k : Nat}, cellsB c W n = true → k < n → cellB c W k = true
  | 0, k, _, h => by omega
  | n + 1, k, h, hk => by
    simp only [cellsB, Bool.and_eq_true] at h
    by_cases e : k = n
    · subst e; exact h.2
    · exact cellsB_lt h.1 (by omega)

theorem cellsB_le {c : List Int} {W : Nat} : ∀ {n k : Nat}, cellsB c W n = true → k ≤ n → cellsB c W k = true
  | 0, k, h, hk => by have : k = 0 := by omega
                      subst this; exact h
  | n + 1, k, h, hk => by
    by_cases e : k = n + 1
    · subst e; exact h
    · simp only [cellsB, Bool.and_eq_true] at h
      exact cellsB_le h.1 (by omega)

theorem cellsB_no {c : List Int} {W n k : Nat} (h : cellB c W k = false) (hk : k < n) : cellsB c W n = false := by
  cases hn : cellsB c W n with
  | false => rfl
  | true => have := cellsB_lt hn hk; rw [h] at this; cases this

def placeB (W H x y : Int) : Bool := decide (0 ≤ x) && decide (x < W) && decide (0 ≤ y) && decide (y < H)
def cursB (W H x y : Int) (wr : Bool) : Bool := placeB W H x y && (!wr || decide (x = W - 1))

theorem placeB_iff {W H x y : Int} : placeB W H x y = true ↔ 0 ≤ x ∧ x < W ∧ 0 ≤ y ∧ y < H := by
  unfold placeB
  simp only [Bool.and_eq_true, decide_eq_true_eq, and_assoc]

theorem cursB_iff {W H x y : Int} {wr : Bool} : cursB W H x y wr = true ↔ 0 ≤ x ∧ x < W ∧ 0 ≤ y ∧ y < H ∧ (wr = true → x = W - 1) := by
  unfold cursB
  rw [Bool.and_eq_true, placeB_iff]
  cases wr <;> simp [and_assoc]

abbrev GrD : Type := Int × Int × List Int × Int × Int × Bool × Unit

def gokB (d : GrD) : Bool := sidesB d.1 d.2.1 && decide ((d.2.2.1.length : Int) = d.1 * d.2.1) && cellsB d.2.2.1 d.1.toNat d.2.2.1.length && cursB d.1 d.2.1 d.2.2.2.1 d.2.2.2.2.1 d.2.2.2.2.2.1

/-- Where the next rune begins: what is before is right, and no rune of width 2 stands just before. -/
def begins (c : List Int) (W x : Nat) : Prop := cellsB c W x = true ∧ (x = 0 ∨ wd (at0 c (x - 1)) ≠ 2)

theorem begins_zero (c : List Int) (W : Nat) : begins c W 0 := ⟨rfl, .inl rfl⟩

theorem begins_none {c : List Int} {W x : Nat} (h : begins c W x) (hx : x < W) (hw : wd (at0 c x) = 0) : cellB c W x = false := by
  unfold cellB
  by_cases e : at0 c x = -1
  · rw [if_pos e]
    rcases h.2 with h | h
    · subst h; simp
    · simp [h]
  · rw [if_neg e, hw]; simp

theorem begins_cut {c : List Int} {W x : Nat} (hx : x < W) (hw : wd (at0 c x) = 2) (hn : x + 1 < W → at0 c (x + 1) ≠ -1) : cellB c W x = false := by
  have e : at0 c x ≠ -1 := by intro h; rw [h, wd_half] at hw; omega
  unfold cellB
  rw [if_neg e, hw, Nat.mod_eq_of_lt hx]
  by_cases h : x + 1 < W
  · have := hn h; simp [this]
  · have : x = W - 1 := by omega
    simp [this]

theorem begins_one {c : List Int} {W x : Nat} (h : begins c W x) (hx : x < W) (hw : wd (at0 c x) = 1) : begins c W (x + 1) := by
  have e : at0 c x ≠ -1 := by intro h; rw [h, wd_half] at hw; omega
  refine ⟨?_, .inr ?_⟩
  · rw [cellsB, h.1]; unfold cellB; rw [if_neg e, hw]; simp
  · rw [Nat.add_sub_cancel, hw]; omega

theorem begins_two {c : List Int} {W x : Nat} (h : begins c W x) (hx : x + 1 < W) (hw : wd (at0 c x) = 2) (hh : at0 c (x + 1) = -1) : begins c W (x + 2) := by
  have e : at0 c x ≠ -1 := by intro h; rw [h, wd_half] at hw; omega
  have h1 : cellB c W x = true := by
    unfold cellB
    rw [if_neg e, hw, Nat.mod_eq_of_lt (by omega), hh]
    have : x ≠ W - 1 := by omega
    simp [this]
  have h2 : cellB c W (x + 1) = true := by
    unfold cellB
    rw [if_pos hh, Nat.add_sub_cancel, hw, Nat.mod_eq_of_lt hx]
    simp
  refine ⟨?_, .inr ?_⟩
  · rw [cellsB, cellsB, h.1, h1, h2]; rfl
  · show wd (at0 c (x + 1)) ≠ 2
    rw [hh, wd_half]; omega

/-- A row of the grid. -/
def rowAt (c : List Int) (W y : Nat) : List Int := (c.drop (y * W)).take W

theorem rowAt_len {c : List Int} {W y : Nat} (h : (y + 1) * W ≤ c.length) : (rowAt c W y).length = W := by
  unfold rowAt
  rw [Nat.add_mul] at h
  rw [List.length_take, List.length_drop]; omega

theorem rowAt_at {c : List Int} {W y x : Nat} (hx : x < W) : at0 (rowAt c W y) x = at0 c (y * W + x) := by
  unfold at0 rowAt
  rw [List.getElem?_take_of_lt hx, List.getElem?_drop]

theorem cellB_row {c : List Int} {W y x : Nat} (hx : x < W) : cellB c W (y * W + x) = cellB (rowAt c W y) W x := by
  have hm : (y * W + x) % W = x % W := by rw [Nat.add_comm, Nat.add_mul_mod_self_right]
  have hm2 : x % W = x := Nat.mod_eq_of_lt hx
  unfold cellB
  rw [← rowAt_at (c := c) (y := y) hx, hm, hm2]
  by_cases h0 : x = 0
  · subst h0
    have h1 : at0 c (y * W + 0 + 1) = at0 (rowAt c W y) (0 + 1) ∨ W = 1 := by
      by_cases h : 1 < W
      · left; rw [rowAt_at h]
      · right; omega
    rcases h1 with h1 | h1
    · rw [h1]; simp
    · subst h1; simp
  · have e1 : at0 c (y * W + x - 1) = at0 (rowAt c W y) (x - 1) := by
      rw [rowAt_at (by omega)]; congr 1; omega
    rw [e1]
    by_cases h : x + 1 < W
    · have e2 : at0 c (y * W + x + 1) = at0 (rowAt c W y) (x + 1) := by rw [rowAt_at h]; congr 1
      rw [e2]
    · have : x = W - 1 := by omega
      simp [this]

theorem cellsB_row {c : List Int} {W y : Nat} (k : Nat) (hk : k ≤ W) : cellsB c W (y * W + k) = (cellsB c W (y * W) && cellsB (rowAt c W y) W k) := by
  induction k with
  | zero => simp [cellsB]
  | succ k ih =>
    show (cellsB c W (y * W + k) && cellB c W (y * W + k)) = _
    rw [ih (by omega), cellB_row (by omega), cellsB, Bool.and_assoc]

theorem cellsB_next {c : List Int} {W y : Nat} : cellsB c W ((y + 1) * W) = (cellsB c W (y * W) && cellsB (rowAt c W y) W W) := by
  rw [← cellsB_row W (Nat.le_refl _), Nat.add_mul, Nat.one_mul]

end Go.Proofs.YthgbionamelloaaDoor
