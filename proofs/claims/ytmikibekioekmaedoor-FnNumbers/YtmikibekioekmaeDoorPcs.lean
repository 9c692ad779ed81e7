/-
  Plain facts on cutting a text at a byte: the pieces, one byte more, and what strings.Split makes.
-/
import Derived.Lib.Split
import Derived.Lib.SplitLaws
namespace Go.Proofs.YtmikibekioekmaeDoor
open Go

def pcs (c : UInt8) : List UInt8 → List (List UInt8)
  | [] => [[]]
  | b :: l => if b = c then [] :: pcs c l else (b :: (pcs c l).headD []) :: (pcs c l).tail

theorem pcs_ne (c : UInt8) : ∀ l, pcs c l ≠ []
  | [] => by simp [pcs]
  | b :: l => by unfold pcs; split <;> simp

theorem pcs_len (c : UInt8) : ∀ l, (pcs c l).length ≤ l.length + 1
  | [] => by simp [pcs]
  | b :: l => by
    have := pcs_len c l
    unfold pcs
    split
    · simp; omega
    · simp; omega

/-- One byte more that is the sign: a new piece. -/
theorem pcs_hit (c : UInt8) : ∀ l, pcs c (l ++ [c]) = pcs c l ++ [[]]
  | [] => by simp [pcs]
  | b :: l => by
    have ih := pcs_hit c l
    have hn := pcs_ne c l
    cases hp : pcs c l with
    | nil => exact absurd hp hn
    | cons p q =>
      simp only [List.cons_append, pcs, ih, hp]
      split <;> simp

/-- One byte more that is another: the last piece grows. -/
theorem pcs_miss (c b : UInt8) (h : b ≠ c) : ∀ (l : List UInt8) (xs : List (List UInt8)) (x : List UInt8), pcs c l = xs ++ [x] → pcs c (l ++ [b]) = xs ++ [x ++ [b]]
  | [], xs, x, e => by
    simp only [pcs] at e
    have hx : xs = [] ∧ x = [] := by
      cases xs with
      | nil => simp at e; exact ⟨rfl, e⟩
      | cons y ys => have := congrArg List.length e; simp at this
    obtain ⟨rfl, rfl⟩ := hx
    simp [pcs, h]
  | d :: l, xs, x, e => by
    have hn := pcs_ne c l
    simp only [pcs] at e
    simp only [List.cons_append, pcs]
    split at e
    · rename_i hd
      rw [if_pos hd]
      cases xs with
      | nil => have := congrArg List.length e; cases hq : pcs c l with
               | nil => exact absurd hq hn
               | cons => rw [hq] at this; simp at this
      | cons y ys =>
        simp only [List.cons_append, List.cons.injEq] at e ⊢
        exact ⟨e.1, pcs_miss c b h l ys x e.2⟩
    · rename_i hd
      rw [if_neg hd]
      cases hq : pcs c l with
      | nil => exact absurd hq hn
      | cons p q =>
        rw [hq] at e
        simp only [List.headD_cons, List.tail_cons] at e
        cases xs with
        | nil =>
          simp only [List.nil_append, List.cons.injEq] at e
          obtain ⟨rfl, rfl⟩ := e
          have := pcs_miss c b h l [] p (by simpa using hq)
          rw [this]; simp
        | cons y ys =>
          simp only [List.cons_append, List.cons.injEq] at e
          obtain ⟨rfl, rfl⟩ := e
          have := pcs_miss c b h l (p :: ys) x (by simpa using hq)
          rw [this]; simp

theorem idx_cons (b c : UInt8) (l : List UInt8) : Lib.index (b :: l) [c] = if b = c then 0 else if Lib.index l [c] == -1 then -1 else Lib.index l [c] + 1 := by
  rw [Lib.index]
  by_cases h : b = c
  · subst h; simp [List.isPrefixOf]
  · have : (c == b) = false := by simpa using fun e => h e.symm
    simp [List.isPrefixOf, this, h]

theorem split_pcs (c : UInt8) : ∀ l, Lib.split l [c] = pcs c l
  | [] => by
    have : Lib.index [] [c] = -1 := by simp [Lib.index]
    unfold Lib.split
    rw [Lib.count_miss this]
    rfl
  | b :: l => by
    have ih := split_pcs c l
    have hs : ([c] : List UInt8) ≠ [] := by simp
    have hi := idx_cons b c l
    have hge := Lib.index_ge l [c]
    unfold Lib.split at ih ⊢
    by_cases hb : b = c
    · rw [if_pos hb] at hi
      rw [Lib.count_hit (i := 0) hs hi, Nat.add_comm, Lib.splitK]
      have : ¬ (Lib.index (b :: l) [c] == -1) = true := by rw [hi]; decide
      rw [if_neg this, hi]
      simp only [pcs, if_pos hb]
      simp [ih]
    · rw [if_neg hb] at hi
      by_cases hm : Lib.index l [c] = -1
      · have h1 : Lib.index (b :: l) [c] = -1 := by rw [hi, hm]; rfl
        rw [Lib.count_miss h1, Lib.splitK]
        rw [Lib.count_miss hm, Lib.splitK] at ih
        simp only [pcs, if_neg hb, ← ih]
        simp
      · obtain ⟨i, hI⟩ : ∃ i : Nat, Lib.index l [c] = i := Int.eq_ofNat_of_zero_le (by omega)
        have h1 : Lib.index (b :: l) [c] = ((i + 1 : Nat) : Int) := by
          rw [hi, hI, if_neg (by first | (simp; done) | (simp; omega))]; omega
        have hn1 : ¬ (Lib.index (b :: l) [c] == -1) = true := by rw [h1]; first | (simp; done) | (simp; omega)
        have hn2 : ¬ (Lib.index l [c] == -1) = true := by rw [hI]; first | (simp; done) | (simp; omega)
        rw [Lib.count_hit (i := i + 1) hs h1, Nat.add_comm, Lib.splitK, if_neg hn1, h1]
        rw [Lib.count_hit (i := i) hs hI, Nat.add_comm, Lib.splitK, if_neg hn2, hI] at ih
        simp only [pcs, if_neg hb, ← ih]
        simp

def toB (p : List UInt8) : ByteArray := ⟨p.toArray⟩
theorem toB_data (p : List UInt8) : (toB p).data.toList = p := rfl
theorem toB_of (s : ByteArray) : toB s.data.toList = s := by apply ByteArray.ext; simp [toB]

def pcsB (c : UInt8) (s : ByteArray) : List ByteArray := (pcs c s.data.toList).map toB

theorem map_data {xs : List ByteArray} {ys : List (List UInt8)} (h : xs.map (·.data.toList) = ys) : xs = ys.map toB := by
  subst h
  rw [List.map_map]
  conv => lhs; rw [← List.map_id xs]
  apply List.map_congr_left
  intro s _
  exact (toB_of s).symm

theorem splitB_pcs (c : UInt8) (s : ByteArray) : Lib.splitB ⟨#[c]⟩ 0 (Lib.countB s ⟨#[c]⟩) s = pcsB c s := by
  apply map_data
  rw [Lib.splitB_data]
  exact split_pcs c s.data.toList

theorem countB_pcs (c : UInt8) (s : ByteArray) : Lib.countB s ⟨#[c]⟩ + 1 = (pcsB c s).length := by
  have := Lib.splitB_all ⟨#[c]⟩ (Nat.le_refl 1) 0 _ s rfl
  rw [splitB_pcs] at this
  exact this.symm

theorem ext_toB (s : ByteArray) (a b : Nat) : s.extract a b = toB ((s.data.toList.take b).drop a) := by
  apply ByteArray.ext
  apply Array.toList_inj.1
  rw [Lib.extract_data, List.drop_take]
  rfl

end Go.Proofs.YtmikibekioekmaeDoor
