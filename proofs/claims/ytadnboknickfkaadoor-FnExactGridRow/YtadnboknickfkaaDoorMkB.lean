/-
  markByteS and heldByteS, from any number on, in the words of shapes.
-/
import Derived.Test.YtadnboknickfkaaDoorMk
namespace Go.Proofs.YtadnboknickfkaaDoor
open Go.RowKit
set_option linter.unusedVariables false

theorem set_toArray1 (cur : Array Value) (i : Nat) (v : Value) : cur.setIfInBounds i v = (setRow cur.toList (i * 1) [v]).toArray := by
  apply Array.ext'
  simp [setRow]

theorem cnt_bytes (d : List Int) : Sh.cnt (.sl .u8) d = d.length := by
  show (List.map (fun _ => 1) d).sum = d.length
  induction d with
  | nil => rfl
  | cons a l ih => simp [ih]; omega

theorem cntTo_bytes (d : List Int) (i : Nat) (h : i ≤ d.length) : cntTo .u8 d i = i := by
  have h1 : cntTo .u8 d i = Sh.cnt (.sl .u8) (List.take (α := Int) i d) := rfl
  exact h1.trans ((cnt_bytes (List.take (α := Int) i d)).trans (by rw [List.length_take]; omega))

theorem own_len {e : Sh} {w : World} {B : Nat} {a : Option Addr} {n cap : Nat} {d : List e.D} {F : List Nat} (h : Own (.sl e) w B [.slice a n cap] d F) : d.length = n ∧ n ≤ maxLen ∧ (n = 0 ∨ ∃ g, a = some ⟨g, 0, none⟩) := by
  rcases h with ⟨h1, h2, _⟩ | ⟨g, cp, t, cur, Cs, Fs, h1, _, _, h2, h3, _⟩
  · simp only [List.cons.injEq, Value.slice.injEq, and_true] at h1
    obtain ⟨_, rfl, _⟩ := h1
    exact ⟨h2, Nat.zero_le _, .inl rfl⟩
  · simp only [List.cons.injEq, Value.slice.injEq, and_true] at h1
    obtain ⟨rfl, rfl, rfl⟩ := h1
    exact ⟨rfl, Nat.le_trans h2 h3, .inr ⟨g, rfl⟩⟩

end Go.Proofs.YtadnboknickfkaaDoor
