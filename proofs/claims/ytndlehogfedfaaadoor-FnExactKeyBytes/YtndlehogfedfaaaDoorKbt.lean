/-
  KeyBytes: the bytes of keys as plain data (kby). By program (kybgen.py).
-/
import Derived.Test.YtndlehogfedfaaaDoorKt
import Derived.Test.YtndlehogfedfaaaDoorOwC
import Derived.Test.YtndlehogfedfaaaDoorRbI
namespace Go.Proofs.YtndlehogfedfaaaDoor
open Go.RowKit
set_option linter.unusedVariables false
set_option maxRecDepth 100000

def snZ (i : Nat) : List Int := (snA i).data.toList.map fun b => (b.toNat : Int)
def kby (k r : Int) : List Int :=
  if kForm k r = 1 then rb r else if kForm k r = 2 then [r % 32] else if kForm k r = 3 then [27, r] else if kForm k r = 4 then snZ (k - 4).toNat else []

theorem kb_cases (k r : Int) : (kForm k r = 0 ∧ kby k r = []) ∨ (kForm k r = 1 ∧ kby k r = rb r) ∨ (kForm k r = 2 ∧ kby k r = [r % 32] ∧ (r = 95 ∨ r = 97 ∨ r = 98 ∨ r = 99 ∨ r = 100 ∨ r = 101 ∨ r = 102 ∨ r = 103 ∨ r = 107 ∨ r = 108 ∨ r = 110 ∨ r = 111 ∨ r = 112 ∨ r = 113 ∨ r = 114 ∨ r = 115 ∨ r = 116 ∨ r = 117 ∨ r = 118 ∨ r = 119 ∨ r = 120 ∨ r = 121 ∨ r = 122)) ∨
    (kForm k r = 3 ∧ kby k r = [27, r] ∧ 33 ≤ r ∧ r ≤ 126) ∨ (r = 0 ∧ (k = 4 ∨ k = 5 ∨ k = 6 ∨ k = 7 ∨ k = 8 ∨ k = 9 ∨ k = 10 ∨ k = 11 ∨ k = 12 ∨ k = 13 ∨ k = 14 ∨ k = 15 ∨ k = 16)) := by
  rcases kForm_le k r with h | h | h | h | h
  · exact Or.inl ⟨h, by unfold kby; rw [h]; rfl⟩
  · exact Or.inr (Or.inl ⟨h, by unfold kby; rw [h]; rfl⟩)
  · refine Or.inr (Or.inr (Or.inl ⟨h, by unfold kby; rw [h]; rfl, ?_⟩))
    obtain rfl := kForm_2 h
    rw [kForm2] at h
    have hc : ctlB r = true := by
      cases e : ctlB r
      · rw [e] at h; simp at h
      · rfl
    have := of_decide_eq_true (show decide _ = true from hc)
    omega
  · refine Or.inr (Or.inr (Or.inr (Or.inl ⟨h, by unfold kby; rw [h]; rfl, ?_⟩)))
    obtain rfl := kForm_3 h
    rw [kForm3] at h
    by_cases hb : 33 ≤ r ∧ r ≤ 126
    · exact hb
    · rw [if_neg hb] at h; omega
  · refine Or.inr (Or.inr (Or.inr (Or.inr ?_)))
    obtain ⟨h1, h2, h3⟩ := kForm_4 h
    subst h3
    refine ⟨rfl, ?_⟩
    omega

theorem owC_own {w : World} {B : Nat} {v : Value} {d : List Int} (h : w.ownsRow B 5 1 v d.length (d.map (Value.int .u8))) (hb : ∀ x ∈ d, 0 ≤ x ∧ x ≤ 255) : ∃ F, OwC w B v d F ∧ F.Nodup := by
  rcases h.2 with ⟨rfl, h0⟩ | ⟨g, cap, cur, rfl, hB, hh, h1, h2, h3, h4⟩
  · have : d = [] := List.eq_nil_of_length_eq_zero h0
    subst this
    exact ⟨[], OwC.nil _ _, List.nodup_nil⟩
  · refine ⟨[g], owC_row hB hh h1 h2 (fun i hi => ?_) hb, by simp⟩
    have e := congrArg (·[i]?) h4
    simp only [Nat.mul_one, List.getElem?_take, hi, if_true, List.getElem?_map] at e
    rw [Array.getElem?_toList] at e
    rw [e]
    simp [hi]

theorem own_read8 {w : World} {B : Nat} {v : Value} {d : List Int} (h : w.ownsRow B 5 1 v d.length (d.map (Value.int .u8))) (hb : ∀ x ∈ d, 0 ≤ x ∧ x ≤ 255) : Reads (.sl .u8) w [v] d := by
  obtain ⟨F, h, _⟩ := owC_own h hb
  exact h.reads

theorem kby_bd (k r : Int) : ∀ x ∈ kby k r, 0 ≤ x ∧ x ≤ 255 := by
  intro x hx
  rcases kb_cases k r with ⟨_, e⟩ | ⟨_, e⟩ | ⟨_, e, _⟩ | ⟨_, e, h1, h2⟩ | ⟨rfl, h⟩
  · rw [e] at hx; cases hx
  · rw [e] at hx; have := rb_byte r x hx; omega
  · rw [e] at hx; obtain rfl := List.mem_singleton.1 hx; omega
  · rw [e] at hx; simp at hx; omega
  · have : kby k 0 = snZ (k - 4).toNat := by
      have : kForm k 0 = 4 := by rw [kForm4 (by omega) (by omega) (by omega), if_pos ⟨by omega, by omega, rfl⟩]
      unfold kby; rw [this]; rfl
    rw [this] at hx
    obtain ⟨b, _, rfl⟩ := List.mem_map.1 hx
    have := b.toNat_lt
    omega

theorem kby_len (k r : Int) : (kby k r).length ≤ 4 := by
  rcases kb_cases k r with ⟨_, e⟩ | ⟨_, e⟩ | ⟨_, e, _⟩ | ⟨_, e, _, _⟩ | ⟨rfl, h⟩
  · rw [e]; simp
  · rw [e]; exact rb_len r
  · rw [e]; simp
  · rw [e]; simp
  · rcases h with rfl | rfl | rfl | rfl | rfl | rfl | rfl | rfl | rfl | rfl | rfl | rfl | rfl
    all_goals decide +kernel

end Go.Proofs.YtndlehogfedfaaaDoor
