/-
  The walk of the law FnExactRuneBytes: it returns true and writes nothing that was there.
-/
import Derived.Test.YtofbfbandipjoaaRbI
namespace Go.Proofs.Ytofbfbandipjoaa
open Go.RowKit
set_option linter.unusedVariables false

theorem rd_nilR (w : World) (a : Option Addr) : Rd w a [] := ⟨fun i => by simp, .inl rfl⟩

theorem own_form0 {w : World} {base : Nat} {e : TypeId} {size : Nat} {v : Value} {n : Nat} {xs : List Value} (h : w.ownsRow base e size v n xs) : ∃ a cap, v = .slice a n cap := by
  rcases h.2 with ⟨hv, h0⟩ | ⟨g, cap, cur, hv, _⟩
  · exact ⟨_, _, by rw [hv, h0]⟩
  · exact ⟨_, _, hv⟩

set_option maxHeartbeats 1000000 in
theorem runeBytes_no (r : Int) (w : World) (hq : rb r = []) :
    Calls Try.prog 4 #[.int .i64 r] w fun e w' => e = .returned (.bool true) ∧ Below w.heap.size w w' := by
  have hspec : ∀ w', Calls Try.prog 8 #[.int .i64 r] w' fun e w1 => ∃ a c, e = .returned (.slice a 0 c) ∧ Below w'.heap.size w' w1 := by
    intro w'
    refine (specRb_any r w').mono ?_
    rintro e w1 ⟨v, rfl, ho, hb⟩
    rw [hq] at ho
    obtain ⟨a, c, rfl⟩ := own_form0 ho
    exact ⟨a, c, rfl, hb⟩
  have himpl : ∀ w', Calls Try.prog 9 #[.int .i64 r] w' fun e w1 => ∃ a c, e = .returned (.slice a 0 c) ∧ Below w'.heap.size w' w1 := by
    intro w'
    refine (implRb_any r w').mono ?_
    rintro e w1 ⟨v, rfl, ho, hb⟩
    rw [hq] at ho
    obtain ⟨a, c, rfl⟩ := own_form0 ho
    exact ⟨a, c, rfl, hb⟩
  clear hq
  have hnil : Hid (([] : List Int).length = 0) := rfl
  go_enter Try.func4, Try.ntmps4
  go_wp2_with fail
  refine (hspec _).mono ?_
  rintro e w1 ⟨a1, c1, rfl, hb1⟩
  go_wp2_with fail
  refine (himpl _).mono ?_
  rintro e w2 ⟨a2, c2, rfl, hb2⟩
  have hb2' := hb1.trans (hb2.mono hb1.size)
  go_wp2_with fail
  refine (eqByteS_true _ _ 0 _ _ [] _ hnil (rd_nilR _ _) (rd_nilR _ _) (by omega)).mono ?_
  rintro e w3 ⟨rfl, hb3⟩
  have hb3' := hb2'.trans (hb3.mono hb2'.size)
  go_wp2_with fail
  refine (markByteS_none _ _ _).mono ?_
  rintro e w3' ⟨rfl, rfl⟩
  go_wp2_with fail
  refine (heldByteS_none _ _ _).mono ?_
  rintro e w3' ⟨rfl, rfl⟩
  go_wp2_with fail
  refine (himpl _).mono ?_
  rintro e w4 ⟨a3, c3, rfl, hb4⟩
  have hb4' := hb3'.trans (hb4.mono hb3'.size)
  go_wp2_with fail
  refine (eqByteS_true _ _ 0 _ _ [] _ hnil (rd_nilR _ _) (rd_nilR _ _) (by omega)).mono ?_
  rintro e w5 ⟨rfl, hb5⟩
  have hb5' := hb4'.trans (hb5.mono hb4'.size)
  go_wp2_with fail
  refine (heldByteS_none _ _ _).mono ?_
  rintro e w5' ⟨rfl, rfl⟩
  go_wp2
  go_ret
  exact ⟨rfl, hb5'⟩

set_option maxHeartbeats 1000000 in
theorem runeBytes_yes (r : Int) (w : World) (hq : 0 < (rb r).length) :
    Calls Try.prog 4 #[.int .i64 r] w fun e w' => e = .returned (.bool true) ∧ Below w.heap.size w w' := by
  obtain ⟨n, hn⟩ : ∃ n, n = (rb r).length := ⟨_, rfl⟩
  obtain ⟨ys, hys⟩ : ∃ ys, ys = rb r := ⟨_, rfl⟩
  have hnle : n ≤ 4 := by rw [hn]; exact rb_len r
  have hyl : Hid (ys.length = n) := by show ys.length = _; rw [hys, hn]
  have hyb : ∀ i : Nat, 0 ≤ ys[i]?.getD 0 ∧ ys[i]?.getD 0 ≤ 255 := by rw [hys]; exact rb_bd r
  have hspec : ∀ w', Calls Try.prog 8 #[.int .i64 r] w' fun e w1 => ∃ g c, e = .returned (.slice (some ⟨g, 0, none⟩) n c) ∧
      w1.ownsRow w'.heap.size 5 1 (.slice (some ⟨g, 0, none⟩) n c) n (ys.map (Value.int .u8)) ∧ Below w'.heap.size w' w1 := by
    intro w'; rw [hys, hn]
    refine (specRb_any r w').mono ?_
    rintro e w1 ⟨v, rfl, ho, hb⟩
    obtain ⟨g, c, rfl, _⟩ := own_form ho hq
    exact ⟨g, c, rfl, ho, hb⟩
  have himpl : ∀ w', Calls Try.prog 9 #[.int .i64 r] w' fun e w1 => ∃ g c, e = .returned (.slice (some ⟨g, 0, none⟩) n c) ∧
      w1.ownsRow w'.heap.size 5 1 (.slice (some ⟨g, 0, none⟩) n c) n (ys.map (Value.int .u8)) ∧ Below w'.heap.size w' w1 := by
    intro w'; rw [hys, hn]
    refine (implRb_any r w').mono ?_
    rintro e w1 ⟨v, rfl, ho, hb⟩
    obtain ⟨g, c, rfl, _⟩ := own_form ho hq
    exact ⟨g, c, rfl, ho, hb⟩
  clear hys hn hq
  go_enter Try.func4, Try.ntmps4
  go_wp2_with fail
  refine (hspec _).mono ?_
  rintro e w1 ⟨gW, cW, rfl, hv1, hb1⟩
  have hW := hv1.lt gW rfl
  go_wp2_with fail
  refine (himpl _).mono ?_
  rintro e w2 ⟨gG, cG, rfl, hu2, hb2⟩
  have hG := hu2.lt gG rfl
  have hb2' := hb1.trans (hb2.mono hb1.size)
  have hv2 := own_later hv1 hb2
  go_wp2_with fail
  refine (eqByteS_true _ _ n _ _ ys _ hyl (rd_own hyl.out hyb hu2) (rd_own hyl.out hyb hv2) (by omega)).mono ?_
  rintro e w3 ⟨rfl, hb3⟩
  have hb3' := hb2'.trans (hb3.mono hb2'.size)
  have hv3 := own_later hv2 hb3
  have hu3 := own_later hu2 hb3
  go_wp2_with fail
  refine (markByteS_any _ n _ _ ys _ hyl (by omega) hu3).mono ?_
  rintro e w4 ⟨rfl, hu4, hg4⟩
  have hs1 := hb1.size
  have hb4 : Below w.heap.size w w4 := hb3'.grown hg4 hb3'.size (fun k h => by cases h; omega)
  have hv4 := hv3.kept hg4 (.inr (by simp [Value.ownBlock]; omega))
  clear hu2 hu3 hv1 hv2 hv3 hg4 hb3 hb3' hb2 hb2'
  go_wp2_with fail
  refine (heldByteS_marked _ n _ _ ys _ hyl (by omega) hu4).mono ?_
  rintro e w4' ⟨rfl, rfl⟩
  go_wp2_with fail
  refine (himpl _).mono ?_
  rintro e w5 ⟨gT, cT, rfl, ht5, hb5⟩
  have hb5' := hb4.trans (hb5.mono hb4.size)
  have hv5 := own_later hv4 hb5
  have hu5 := own_later hu4 hb5
  go_wp2_with fail
  refine (eqByteS_true _ _ n _ _ ys _ hyl (rd_own hyl.out hyb ht5) (rd_own hyl.out hyb hv5) (by omega)).mono ?_
  rintro e w6 ⟨rfl, hb6⟩
  have hb6' := hb5'.trans (hb6.mono hb5'.size)
  have hu6 := own_later hu5 hb6
  go_wp2_with fail
  refine (heldByteS_marked _ n _ _ ys _ hyl (by omega) hu6).mono ?_
  rintro e w6' ⟨rfl, rfl⟩
  go_wp2
  go_ret
  exact ⟨rfl, hb6'⟩

theorem runeBytes_law (r : Int) (w : World) :
    Calls Try.prog 4 #[.int .i64 r] w fun e w' => e = .returned (.bool true) ∧ Below w.heap.size w w' := by
  by_cases h : 0 < (rb r).length
  · exact runeBytes_yes r w h
  · exact runeBytes_no r w (List.eq_nil_of_length_eq_zero (by omega))

end Go.Proofs.Ytofbfbandipjoaa
