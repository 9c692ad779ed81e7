/-
  A log: the records of a list of entries, one behind the other (plain facts).
-/
import Derived.Test.YtcmipfpblnbccaaEnsP
import Derived.Test.YtcmipfpblnbccaaFrP
namespace Go.Proofs.Ytcmipfpblnbccaa
open Go.RowKit
set_option linter.unusedVariables false

def recL (x : EntD) : List Int := frameL x.1 (sB x.2.1)

theorem recL_len (x : EntD) : (recL x).length = 10 + ByteArray.size x.2.1 := by unfold recL; rw [frameL_len, sB_len]
theorem byt_recL (x : EntD) : Byt (recL x) := byt_frameL _ _ (byt_sB _)

/-- The records of the first k. -/
def logTo (d : List EntD) (k : Nat) : List Int := (d.take k).flatMap recL

def logL (d : List EntD) : List Int := d.flatMap recL

theorem logTo_zero (d : List EntD) : logTo d 0 = [] := by simp [logTo]
theorem logTo_all (d : List EntD) (k : Nat) (h : d.length ≤ k) : logTo d k = logL d := by unfold logTo logL; rw [List.take_of_length_le h]

theorem logTo_succ (d : List EntD) (k : Nat) (x : EntD) (h : d[k]? = some x) : logTo d (k + 1) = logTo d k ++ recL x := by
  have hk : k < d.length := (List.getElem?_eq_some_iff.1 h).1
  have hx : d[k] = x := (List.getElem?_eq_some_iff.1 h).2
  unfold logTo
  rw [List.take_succ_eq_append_getElem hk, hx, List.flatMap_append]
  simp

theorem logTo_le (d : List EntD) (k : Nat) : (logTo d k).length ≤ (logL d).length := by
  unfold logTo logL
  conv => rhs; rw [← List.take_append_drop k d, List.flatMap_append, List.length_append]
  omega

theorem byt_flat (d : List EntD) : Byt (d.flatMap recL) := by
  rw [byt_iff]
  intro z hz
  obtain ⟨x, _, hx⟩ := List.mem_flatMap.1 hz
  exact (byt_iff _).1 (byt_recL x) z hx

theorem byt_logTo (d : List EntD) (k : Nat) : Byt (logTo d k) := byt_flat _
theorem byt_logL (d : List EntD) : Byt (logL d) := byt_flat _

theorem ents_all : ∀ (l : List EntD) (p : Option Int), entsFrom p l = true → ∀ x ∈ l, entB x.1 (ByteArray.size x.2.1) = true
  | [], _, _, x, hx => by cases hx
  | y :: l, p, h, x, hx => by
    simp only [entsFrom, Bool.and_eq_true] at h
    rcases List.mem_cons.1 hx with rfl | hx
    · exact h.1.1
    · exact ents_all l _ h.2 x hx

theorem ents_at (d : List EntD) (h : entsB d = true) (k : Nat) (x : EntD) (hx : d[k]? = some x) : entB x.1 (ByteArray.size x.2.1) = true :=
  ents_all d none h x (List.mem_of_getElem? hx)

end Go.Proofs.Ytcmipfpblnbccaa
