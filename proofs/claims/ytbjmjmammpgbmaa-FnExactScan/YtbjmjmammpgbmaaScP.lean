/-
  Scanning a log: what it answers (plain facts).
-/
import Derived.Test.YtbjmjmammpgbmaaRfP
import Derived.Test.YtbjmjmammpgbmaaEntC
namespace Go.Proofs.Ytbjmjmammpgbmaa
open Go.RowKit
set_option linter.unusedVariables false

/-- What reading says where the code is 0. -/
theorem fr_ok (zs : List Int) (hz : Byt zs) (p : Nat) (h : (frAns zs (p : Int)).2.2.2 = 0) :
    1 ≤ (frAns zs (p : Int)).1 ∧ (frAns zs (p : Int)).1 ≤ 1000000000 ∧ (frAns zs (p : Int)).2.1.size ≤ 1000 ∧ ∃ nx : Nat, (frAns zs (p : Int)).2.2.1 = (nx : Int) ∧ p + 11 ≤ nx ∧ nx ≤ zs.length := by
  unfold frAns at h ⊢
  have eP : ((p : Int)).toNat = p := by omega
  rw [eP] at h ⊢
  have hs := gnum2_bd zs hz p
  have hn := gnum4_bd zs hz (p + 2)
  split at h
  · simp at h
  rename_i h1
  rw [if_neg h1]
  split at h
  · simp at h
  rename_i h2
  rw [if_neg h2]
  split at h
  · simp at h
  rename_i h3
  rw [if_neg h3]
  split at h
  · simp at h
  rename_i h4
  rw [if_neg h4]
  split at h
  · simp at h
  rename_i h5
  rw [if_neg h5]
  split at h
  · rename_i h6
    rw [if_pos h6]
    refine ⟨by show 1 ≤ gnum zs (p + 2) 4; omega, by show gnum zs (p + 2) 4 ≤ _; omega, ?_, p + 10 + (gnum zs p 2).toNat, ?_, by omega, by omega⟩
    · show (strOfNums _).size ≤ 1000
      rw [strOfNums_size, cutL_len _ _ _ (by omega)]
      omega
    · show (p : Int) + 10 + gnum zs p 2 = _
      omega
  · simp at h

def lastNum (acc : List EntD) : Option Int := prevN acc acc.length

def recOf (zs : List Int) (p : Nat) : EntD := ((frAns zs (p : Int)).1, (frAns zs (p : Int)).2.1, ())

/-- Whether reading goes on at p. -/
def goesOn (zs : List Int) (acc : List EntD) (p : Nat) : Bool := decide ((frAns zs (p : Int)).2.2.2 = 0) && linkB (lastNum acc) (frAns zs (p : Int)).1

def scanL (zs : List Int) : Nat → List EntD → Nat → List EntD × Nat
  | 0, acc, p => (acc, p)
  | f + 1, acc, p => if goesOn zs acc p then scanL zs f (acc ++ [recOf zs p]) (frAns zs (p : Int)).2.2.1.toNat else (acc, p)

def scanA (zs : List Int) : List EntD × Nat := scanL zs (zs.length + 1) [] 0

theorem scanL_on (zs : List Int) (f : Nat) (acc : List EntD) (p : Nat) (h : goesOn zs acc p = true) (hf : 0 < f) : scanL zs f acc p = scanL zs (f - 1) (acc ++ [recOf zs p]) (frAns zs (p : Int)).2.2.1.toNat := by
  cases f with
  | zero => omega
  | succ f => show (if goesOn zs acc p then _ else _) = _; rw [if_pos h]; rfl

theorem scanL_end (zs : List Int) (f : Nat) (acc : List EntD) (p : Nat) (h : goesOn zs acc p = false) : scanL zs f acc p = (acc, p) := by
  cases f with
  | zero => rfl
  | succ f => show (if goesOn zs acc p then _ else _) = _; rw [if_neg (by simp [h])]

def AccOk (acc : List EntD) : Prop := ∀ x ∈ acc, 1 ≤ x.1 ∧ x.1 ≤ 1000000000 ∧ ByteArray.size x.2.1 ≤ 1000

theorem accOk_snoc (acc : List EntD) (x : EntD) (h : AccOk acc) (hx : 1 ≤ x.1 ∧ x.1 ≤ 1000000000 ∧ ByteArray.size x.2.1 ≤ 1000) : AccOk (acc ++ [x]) := by
  intro y hy
  rcases List.mem_append.1 hy with h1 | h1
  · exact h y h1
  · simp at h1; subst h1; exact hx

theorem cellsE_at (l : List EntD) (k : Nat) (x : EntD) (h : l[k]? = some x) : (cellsE l)[k * 2]? = some (.int .i64 x.1) := by
  induction l generalizing k with
  | nil => simp at h
  | cons a l ih =>
    cases k with
    | zero => simp at h; subst h; simp [cellsE]
    | succ k =>
      simp at h
      have h1 := ih k h
      have e : cellsE (a :: l) = [Value.int .i64 a.1, Value.string a.2.1] ++ cellsE l := by simp [cellsE]
      rw [e, List.getElem?_append_right (by simp; omega)]
      have e2 : (k + 1) * 2 - [Value.int .i64 a.1, Value.string a.2.1].length = k * 2 := by simp; omega
      rw [e2]; exact h1

/-- The last entry of an owned row. -/
theorem own_last {w : World} {B g j c : Nat} {t : TypeId} {acc : List EntD} (h : w.ownsRow B t 2 (.slice (some ⟨g, 0, none⟩) (j + 1) c) (j + 1) (cellsE acc)) (hl : acc.length = j + 1) : ∃ z, acc[j]? = some z ∧ lastNum acc = some z.1 ∧ z ∈ acc ∧ w.cell? ⟨g, 0 + j * 2, none⟩ = some (.int .i64 z.1) := by
  have hj : j < acc.length := by omega
  have hz : acc[j]? = some acc[j] := List.getElem?_eq_getElem hj
  refine ⟨acc[j], hz, ?_, List.getElem_mem hj, ?_⟩
  · unfold lastNum; rw [hl]; exact prevN_succ acc j _ hz
  · have h1 := h.cells (g := g) rfl (j * 2) _ (cellsE_at acc j _ hz)
    have e : (⟨g, 0, none⟩ : Addr).add (j * 2) = ⟨g, 0 + j * 2, none⟩ := by simp [Addr.add]; omega
    rw [e] at h1
    exact h1

theorem own_sliceE {w : World} {B n : Nat} {e : TypeId} {size : Nat} {v : Value} {xs : List Value} (h : w.ownsRow B e size v n xs) : ∃ a c, v = .slice a n c := by
  rcases h.2 with ⟨h1, h2⟩ | ⟨g, cap, cur, hv, _⟩
  · exact ⟨none, 0, by rw [h1, h2]⟩
  · exact ⟨_, _, hv⟩

end Go.Proofs.Ytbjmjmammpgbmaa
