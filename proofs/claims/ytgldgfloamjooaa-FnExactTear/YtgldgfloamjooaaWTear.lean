/-
  The laws FnExactTearSteps and FnExactTear over the contracts of their functions.
-/
import Derived.Test.YtgldgfloamjooaaTear
import Derived.Test.YtgldgfloamjooaaLTear
import Derived.Test.YtgldgfloamjooaaLTearSteps
namespace Go.Proofs.Ytgldgfloamjooaa
open Go.RowKit
set_option linter.unusedVariables false

/-- What is handed to a function as a slice of bytes of the call's own, in the elder words. -/
theorem own_rd {w : World} {B : Nat} {v : Value} {d : List Int} {F : List Nat} (h : Own (.sl .u8) w B [v] d F) : ∃ a c, v = .slice a d.length c ∧ Rd w a d ∧ d.length ≤ c ∧ c ≤ maxLen ∧ (a = none → c = 0) := by
  obtain ⟨a, c, hv, h1, h2, h3⟩ := own_val h
  subst hv
  exact ⟨a, c, rfl, (reads_bytes h.reads).2.1, h1, h2, h3⟩

theorem tear_bd {xs ys : List Int} (hx : ∀ i : Nat, 0 ≤ xs[i]?.getD 0 ∧ xs[i]?.getD 0 ≤ 255) (hy : ∀ i : Nat, 0 ≤ ys[i]?.getD 0 ∧ ys[i]?.getD 0 ≤ 255) (k : Int) (i : Nat) : 0 ≤ (tear xs ys k)[i]?.getD 0 ∧ (tear xs ys k)[i]?.getD 0 ≤ 255 := by
  have ht : ∀ (zs : List Int) (j : Nat), (∀ i : Nat, 0 ≤ zs[i]?.getD 0 ∧ zs[i]?.getD 0 ≤ 255) → 0 ≤ (zs.take j)[i]?.getD 0 ∧ (zs.take j)[i]?.getD 0 ≤ 255 := by
    intro zs j h
    by_cases hi : i < j
    · rw [List.getElem?_take_of_lt hi]; exact h i
    · rw [List.getElem?_eq_none (by simp; omega)]; simp
  unfold tear tearAt
  split
  · exact ht xs _ hx
  · exact ht ys _ hy

theorem specTear_own (c0 c1 : Value) (xs ys : List Int) (k : Int) (G0 G1 : List Nat) (w : World) (h0 : Own (.sl .u8) w 0 [c0] xs G0) (h1 : Own (.sl .u8) w 0 [c1] ys G1) (hn : xs.length ≤ 1048576) (hm : ys.length ≤ 1048576) (hk1 : -9223372036854775808 ≤ k) (hk2 : k ≤ 9223372036854775807) :
    Calls Try.prog 14 #[c0, c1, .int .i64 k] w fun e w' => ∃ v F, e = .returned v ∧ Own (.sl .u8) w' w.heap.size [v] (tear xs ys k) F ∧ F.Nodup ∧ Below w.heap.size w w' := by
  obtain ⟨a, ca, rfl, r0, p1, p2, p3⟩ := own_rd h0
  obtain ⟨b, cb, rfl, r1, q1, q2, q3⟩ := own_rd h1
  refine (specTear_any a b _ _ ca cb xs ys k w rfl rfl r0 r1 (by omega) (by omega) p1 q1 p2 q2 p3 q3 hk1 hk2).mono ?_
  rintro e w' ⟨v, rfl, ho, hb⟩
  obtain ⟨F, hF, hnd⟩ := own_row rfl (tear_bd r0.1 r1.1 k) ho
  exact ⟨v, F, rfl, hF, hnd, hb⟩

theorem implTear_own (c0 c1 : Value) (xs ys : List Int) (k : Int) (G0 G1 : List Nat) (w : World) (h0 : Own (.sl .u8) w 0 [c0] xs G0) (h1 : Own (.sl .u8) w 0 [c1] ys G1) (hn : xs.length ≤ 1048576) (hm : ys.length ≤ 1048576) (hk1 : -9223372036854775808 ≤ k) (hk2 : k ≤ 9223372036854775807) :
    Calls Try.prog 9 #[c0, c1, .int .i64 k] w fun e w' => ∃ v F, e = .returned v ∧ Own (.sl .u8) w' w.heap.size [v] (tear xs ys k) F ∧ F.Nodup ∧ Below w.heap.size w w' := by
  obtain ⟨a, ca, rfl, r0, p1, p2, p3⟩ := own_rd h0
  obtain ⟨b, cb, rfl, r1, q1, q2, q3⟩ := own_rd h1
  refine (implTear_any a b _ _ ca cb xs ys k w rfl rfl r0 r1 (by omega) (by omega) p1 q1 p2 q2 p3 q3 hk1 hk2).mono ?_
  rintro e w' ⟨v, rfl, ho, hb⟩
  obtain ⟨F, hF, hnd⟩ := own_row rfl (tear_bd r0.1 r1.1 k) ho
  exact ⟨v, F, rfl, hF, hnd, hb⟩

theorem tearSteps_law (a0 a1 : Option Addr) (l0 c0 l1 c1 : Nat) (xs ys : List Int) (w : World) (h0 : Reads (.sl .u8) w [.slice a0 l0 c0] xs) (h1 : Reads (.sl .u8) w [.slice a1 l1 c1] ys) :
    Calls Try.prog 4 #[.slice a0 l0 c0, .slice a1 l1 c1] w fun e w' => e = .returned (.bool true) ∧ Below w.heap.size w w' := by
  refine tearSteps_over _ xs _ ys (tsteps xs ys) w h0 h1 ?_ ?_
  · intro w' v0 G0 v1 G1 o0 o1 hn hm
    obtain ⟨a, ca, rfl, r0, p1, p2, p3⟩ := own_rd o0
    obtain ⟨b, cb, rfl, r1, q1, q2, q3⟩ := own_rd o1
    refine (specSteps_any a b _ _ ca cb xs ys w' rfl rfl r0 r1 (by omega) (by omega)).mono ?_
    rintro e w'' ⟨rfl, q, rfl⟩
    exact ⟨rfl, below_drewN (Below.refl _ _) q⟩
  · intro w' v0 G0 v1 G1 o0 o1 hn hm
    obtain ⟨a, ca, rfl, r0, p1, p2, p3⟩ := own_rd o0
    obtain ⟨b, cb, rfl, r1, q1, q2, q3⟩ := own_rd o1
    refine (implSteps_any a b _ _ ca cb xs ys w' rfl rfl r0 r1 (by omega) (by omega)).mono ?_
    rintro e w'' ⟨rfl, q, rfl⟩
    exact ⟨rfl, below_drewN (Below.refl _ _) q⟩

set_option maxHeartbeats 1000000 in
theorem tear_law (a0 a1 : Option Addr) (l0 c0 l1 c1 : Nat) (xs ys : List Int) (k : Int) (w : World) (h0 : Reads (.sl .u8) w [.slice a0 l0 c0] xs) (h1 : Reads (.sl .u8) w [.slice a1 l1 c1] ys) (hk1 : -9223372036854775808 ≤ k) (hk2 : k ≤ 9223372036854775807) :
    Calls Try.prog 5 #[.slice a0 l0 c0, .slice a1 l1 c1, .int .i64 k] w fun e w' => e = .returned (.bool true) ∧ Below w.heap.size w w' := by
  obtain ⟨e0, _, _, _⟩ := reads_bytes h0
  obtain ⟨e1, _, _, _⟩ := reads_bytes h1
  have hlen := tear_len_le xs ys k _ _ rfl rfl
  by_cases hn : xs.length ≤ 1048576
  · by_cases hm : ys.length ≤ 1048576
    · refine tear_over _ xs _ ys k (tear xs ys k) w h0 h1 (by omega) (by rw [cnt_byteS]; omega) ?_ ?_
      · intro w' v0 G0 v1 G1 o0 o1 hn hm
        refine (specTear_own v0 v1 xs ys k G0 G1 w' o0 o1 hn hm hk1 hk2).mono ?_
        rintro e w'' ⟨v, F, rfl, ho, _, hb⟩
        exact ⟨v, rfl, ho.reads, hb⟩
      · intro w' v0 G0 v1 G1 o0 o1 hn hm
        exact implTear_own v0 v1 xs ys k G0 G1 w' o0 o1 hn hm hk1 hk2
    · have ht0 : ¬ (1048576 : Int) < (l0 : Int) := by omega
      have ht1 : (1048576 : Int) < (l1 : Int) := by omega
      go_enter Try.func5, Try.ntmps5
      go_wp2
      go_ret
      exact ⟨rfl, Below.refl _ _⟩
  · have ht0 : (1048576 : Int) < (l0 : Int) := by omega
    go_enter Try.func5, Try.ntmps5
    go_wp2
    go_ret
    exact ⟨rfl, Below.refl _ _⟩

end Go.Proofs.Ytgldgfloamjooaa
