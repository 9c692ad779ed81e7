/-
  The walk of the law FnExactGetNum: it returns true and writes nothing that was there.
-/
import Derived.Test.YtmikibekioekmakOpen
import Derived.Test.YtmikibekioekmakGetI
namespace Go.Proofs.Ytmikibekioekmak
open Go.RowKit
set_option linter.unusedVariables false

set_option maxHeartbeats 1000000 in
theorem getNum_law (a : Option Addr) (n cap : Nat) (zs : List Int) (p s : Int) (w : World) (hl : zs.length = n) (hr : Rd w a zs) (hm : n ≤ maxLen) (hp : -9223372036854775808 ≤ p ∧ p ≤ 9223372036854775807) (hs : -9223372036854775808 ≤ s ∧ s ≤ 9223372036854775807) :
    Calls Try.prog 4 #[.slice a n cap, .int .i64 p, .int .i64 s] w fun e w' => e = .returned (.bool true) ∧ Below w.heap.size w w' := by
  have HL : Hid (zs.length = n) := hl
  clear hl
  unfold maxLen at hm
  by_cases hn : n ≤ 1048576
  · obtain ⟨v, c, hspec, himpl⟩ : ∃ (v : Int) (c : Bool), (∀ (a' : Option Addr) (cap' : Nat) (w' : World), Rd w' a' zs → Calls Try.prog 12 #[.slice a' n cap', .int .i64 p, .int .i64 s] w' fun e w1 => e = .returned (.tuple #[.int .i64 v, .bool c]) ∧ w1 = w') ∧
        (∀ (a' : Option Addr) (cap' : Nat) (w' : World), Rd w' a' zs → Calls Try.prog 13 #[.slice a' n cap', .int .i64 p, .int .i64 s] w' fun e w1 => e = .returned (.tuple #[.int .i64 v, .bool c]) ∧ w1 = w') := by
      by_cases hg : gok n p s
      · obtain ⟨g1, g2, g3, g4⟩ := hg
        obtain ⟨P, rfl⟩ := Int.eq_ofNat_of_zero_le g3
        obtain ⟨S, rfl⟩ := Int.eq_ofNat_of_zero_le (Int.le_trans (by decide) g1)
        exact ⟨_, _, fun a' cap' w' h' => specGet_yes a' n cap' zs P S w' HL h' (by omega) (by omega) (by omega) (by omega), fun a' cap' w' h' => implGet_yes a' n cap' zs P S w' HL h' (by omega) (by omega) (by omega) (by omega)⟩
      · exact ⟨_, _, fun a' cap' w' _ => specGet_no a' n cap' p s w' (by omega) hp hs hg, fun a' cap' w' _ => implGet_no a' n cap' p s w' (by omega) hp hs hg⟩
    have hlt : ¬ (1048576 : Int) < (n : Int) := by omega
    have hvv : (v != v) = false := by simp
    have hcc : (c != c) = false := by simp
    go_enter Try.func4, Try.ntmps4
    go_wp2_with fail
    refine (toByteS_any a n cap zs _ HL hr hn).mono ?_
    rintro e w1 ⟨rfl, ho1, hb1⟩
    have hr1 := rd_own HL.out hr.1 ho1
    go_wp2_with fail
    refine (hspec _ _ _ hr1).mono ?_
    rintro e w1' ⟨rfl, rfl⟩
    go_wp2_with fail
    refine (toByteS_any a n cap zs _ HL (hr.later hb1) hn).mono ?_
    rintro e w2 ⟨rfl, ho2, hb2⟩
    have hr2 := rd_own HL.out hr.1 ho2
    go_wp2_with fail
    refine (himpl _ _ _ hr2).mono ?_
    rintro e w2' ⟨rfl, rfl⟩
    go_wp2_with fail
    refine (toByteS_any a n cap zs _ HL ((hr.later hb1).later hb2) hn).mono ?_
    rintro e w3 ⟨rfl, ho3, hb3⟩
    have hr3 := rd_own HL.out hr.1 ho3
    go_wp2_with fail
    refine (eqByteS_same _ _ n _ _ zs _ HL (hr2.later hb3) hr3 (by omega)).mono ?_
    rintro e w4 ⟨rfl, q, rfl⟩
    go_wp2
    go_ret
    exact ⟨rfl, below_drewN ((hb1.trans (hb2.mono hb1.size)).trans (hb3.mono (Nat.le_trans hb1.size hb2.size))) q⟩
  · have hlt : (1048576 : Int) < (n : Int) := by omega
    go_enter Try.func4, Try.ntmps4
    go_wp2
    go_ret
    exact ⟨rfl, Below.refl _ _⟩

end Go.Proofs.Ytmikibekioekmak
