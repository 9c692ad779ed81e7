/-
  A part of a slice of bytes that is read; what the library's trimming leaves of a sequence's arguments.
-/
import Derived.Test.YtcchjcllkfaadaaDoorEmP
import Derived.Test.YtcchjcllkfaadaaDoorShelf
namespace Go.Proofs.YtcchjcllkfaadaaDoor
open Go.RowKit
set_option linter.unusedVariables false
set_option linter.unusedSimpArgs false

theorem rd_fromV {w : World} {p : Option Addr} {xs : List Int} {n c j : Nat} (h : Rd w p xs) (hl : xs.length = n) (hc : n ≤ c) (hj : j ≤ n) : ∃ q, Lib.fromV p n c j = .slice q (n - j) (c - j) ∧ Rd w q (xs.drop j) := by
  have hb : ∀ i : Nat, 0 ≤ (xs.drop j)[i]?.getD 0 ∧ (xs.drop j)[i]?.getD 0 ≤ 255 := fun i => by rw [List.getElem?_drop]; exact h.1 _
  rcases Nat.lt_or_ge j n with hlt | hge
  · obtain ⟨b, off, rfl, h1, h2⟩ := h.2.resolve_left (by intro e; rw [e] at hl; simp at hl; omega)
    refine ⟨some ⟨b, off + j, none⟩, ?_, hb, .inr ⟨b, off + j, rfl, h1, fun i hi => ?_⟩⟩
    · unfold Lib.fromV
      rw [if_neg (by omega)]
      simp [← Go.WideShapes.add_plain]
    · rw [List.length_drop] at hi
      have := h2 (j + i) (by omega)
      rw [List.getElem?_drop, Nat.add_assoc]
      exact this
  · have e : xs.drop j = [] := List.drop_eq_nil_of_le (by omega)
    rw [e] at hb ⊢
    exact ⟨_, rfl, hb, .inl rfl⟩

theorem rd_bytesIn {w : World} {p : Option Addr} {xs : List Int} {n : Nat} (h : Rd w p xs) (hl : xs.length = n) : Lib.BytesIn w p n xs := by
  intro hn
  obtain ⟨b, off, rfl, h1, h2⟩ := h.2.resolve_left (by intro e; rw [e] at hl; simp at hl; omega)
  refine ⟨b, off, rfl, fun i hi => ?_⟩
  rw [h2 i (by omega), List.getD_eq_getElem?_getD]

theorem rd_mem {w : World} {p : Option Addr} {xs : List Int} (h : Rd w p xs) : ∀ x ∈ xs, 0 ≤ x ∧ x < 256 := by
  intro x hx
  obtain ⟨i, hi, rfl⟩ := List.mem_iff_getElem.1 hx
  have := h.1 i
  simp [hi] at this
  omega

def cutS : ByteArray := ⟨#[48, 49, 50, 51, 52, 53, 54, 55, 56, 57, 59]⟩

theorem cut_arg (x : Int) (h : 0 ≤ x ∧ x < 256) : cutS.data.toList.contains (UInt8.ofNat x.toNat) = argC x := by
  have key : ∀ k : Fin 256, cutS.data.toList.contains (UInt8.ofNat k.val) = argC (k.val : Int) := by decide +kernel
  have := key ⟨x.toNat, by omega⟩
  simp only at this
  rw [this]
  congr 1
  omega

theorem dropWhile_congr {α : Type} {p q : α → Bool} : ∀ {l : List α}, (∀ x ∈ l, p x = q x) → l.dropWhile p = l.dropWhile q
  | [], _ => rfl
  | a :: l, h => by
    rw [List.dropWhile_cons, List.dropWhile_cons, h a (by simp)]
    split
    · exact dropWhile_congr fun x hx => h x (by simp [hx])
    · rfl

theorem trim_len {xs : List Int} (h : ∀ x ∈ xs, 0 ≤ x ∧ x < 256) : (Lib.trimLeftS (Lib.bytesOf xs) cutS.data.toList).length = (xs.dropWhile argC).length := by
  unfold Lib.trimLeftS Lib.bytesOf
  rw [List.dropWhile_map, List.length_map]
  congr 1
  exact dropWhile_congr fun x hx => cut_arg x (h x hx)

theorem drop_dropWhile {α : Type} (p : α → Bool) : ∀ l : List α, l.drop (l.length - (l.dropWhile p).length) = l.dropWhile p
  | [] => rfl
  | a :: l => by
    have hle := dropWhile_len p l
    rw [List.dropWhile_cons]
    split
    · have e : (a :: l).length - (l.dropWhile p).length = (l.length - (l.dropWhile p).length) + 1 := by simp only [List.length_cons]; omega
      rw [e, List.drop_succ_cons]
      exact drop_dropWhile p l
    · simp

theorem head_yes (t : List Int) : Lib.hasPrefix (Lib.bytesOf (27 :: 91 :: t)) (Lib.bytesOf [27, 91]) = true := by
  simp [Lib.hasPrefix, Lib.bytesOf]
theorem head_no (t : List Int) (h : ∀ x ∈ t, 0 ≤ x ∧ x < 256) (hn : ∀ u, t ≠ 91 :: u) : Lib.hasPrefix (Lib.bytesOf (27 :: t)) (Lib.bytesOf [27, 91]) = false := by
  cases t with
  | nil => simp [Lib.hasPrefix, Lib.bytesOf]
  | cons y u =>
    have h1 := h y (by simp)
    have h2 : y ≠ 91 := fun e => hn u (by rw [e])
    have h3 : (UInt8.ofNat y.toNat == UInt8.ofNat 91) = false := by
      have key : ∀ k : Fin 256, k.val ≠ 91 → (UInt8.ofNat k.val == UInt8.ofNat 91) = false := by decide +kernel
      exact key ⟨y.toNat, by omega⟩ (by simp only; omega)
    have h4 : ((91 : UInt8) == UInt8.ofNat y.toNat) = false := by
      rw [beq_eq_false_iff_ne] at h3 ⊢
      exact fun e => h3 e.symm
    have e91 : UInt8.ofNat (91 : Int).toNat = 91 := rfl
    simp only [Lib.hasPrefix, Lib.bytesOf, List.map_cons, List.map_nil, List.isPrefixOf, e91, h4]
    simp

end Go.Proofs.YtcchjcllkfaadaaDoor
