/-
  The laws FnExactDiskRoom and FnExactDiskFuse over the contracts of their functions.
-/
import Derived.Test.YtmhlligmehbehabRoomS
import Derived.Test.YtmhlligmehbehabLDiskRoom
import Derived.Test.YtmhlligmehbehabLDiskFuse
namespace Go.Proofs.Ytmhlligmehbehab
open Go.RowKit
set_option linter.unusedVariables false

theorem wd_Disk : shDisk.wd = 12 := rfl

theorem cntV_small (d : shDisk.D) (h : shDisk.sz d ≤ 1048576) : shDisk.cntV d ≤ 1000000000 := by
  have h1 := shDisk.cnt_le d
  have h2 := shDisk.cntV_le d
  rw [wd_Disk] at h1
  omega

def zeroD : shDisk.D := ((0 : Int), (0 : Int), (0 : Int), [], [], [], ())
theorem own_zero (w : World) (B : Nat) : Own shDisk w B [.int .i64 0, .int .i64 0, .int .i64 0, .slice none 0 0, .slice none 0 0, .slice none 0 0] zeroD [] :=
  own_Disk (d := zeroD) (F3 := []) (F4 := []) (F5 := []) (.inl ⟨rfl, rfl, rfl⟩) (.inl ⟨rfl, rfl, rfl⟩) (.inl ⟨rfl, rfl, rfl⟩)
theorem sz_zero : shDisk.sz zeroD = 0 := rfl

theorem diskRoom_law (cs : List Value) (d : shDisk.D) (r : Int) (w : World) (hr : Reads shDisk w cs d) :
    Calls Try.prog 3 #[.agg cs.toArray, .int .i64 r] w fun e w' => e = .returned (.bool true) ∧ Below w.heap.size w w' := by
  have hz0 : shDisk.sz zeroD ≤ 1048576 := by rw [sz_zero]; omega
  by_cases hs : shDisk.sz d ≤ 1048576
  · cases hok : implOkB d with
    | false =>
      refine diskRoom_over cs d r zeroD false w hr hz0 (cntV_small _ hz0) (cntV_small d) ?_ ?_
      · intro w' c G ho _
        refine (specDiskRoom_bad c d r 0 G w' ho hs hok).mono ?_
        rintro e w'' ⟨rfl, hb⟩
        exact ⟨_, rfl, (own_zero _ 0).reads, hb⟩
      · intro w' c G ho _
        refine (implDiskRoom_bad c d r 0 G w' ho hs hok).mono ?_
        rintro e w'' ⟨rfl, hb⟩
        exact ⟨_, _, rfl, own_zero _ _, by simp, hb⟩
    | true =>
      cases hok2 : implOkB (roomD d r) with
      | false =>
        refine diskRoom_over cs d r zeroD false w hr hz0 (cntV_small _ hz0) (cntV_small d) ?_ ?_
        · intro w' c G ho _
          refine (specDiskRoom_no c d r 0 G w' ho hs hok hok2).mono ?_
          rintro e w'' ⟨rfl, hb⟩
          exact ⟨_, rfl, (own_zero _ 0).reads, hb⟩
        · intro w' c G ho _
          refine (implDiskRoom_no c d r 0 G w' ho hs hok hok2).mono ?_
          rintro e w'' ⟨rfl, hb⟩
          exact ⟨_, _, rfl, own_zero _ _, by simp, hb⟩
      | true =>
        have hs2 : shDisk.sz (roomD d r) ≤ 1048576 := by rw [sz_Disk] at hs ⊢; exact hs
        refine diskRoom_over cs d r (roomD d r) true w hr hs2 (cntV_small _ hs2) (cntV_small d) ?_ ?_
        · intro w' c G ho _
          refine (specDiskRoom_yes c d r 0 G w' ho hs hok hok2).mono ?_
          rintro e w'' ⟨cs', F, rfl, p, _, hb⟩
          exact ⟨cs', rfl, p.reads, hb⟩
        · intro w' c G ho _
          exact implDiskRoom_yes c d r 0 G w' ho hs hok hok2
  · exact diskRoom_over cs d r zeroD false w hr hz0 (cntV_small _ hz0) (fun h => absurd h hs) (fun _ _ _ _ h => absurd h hs) (fun _ _ _ _ h => absurd h hs)

theorem diskFuse_law (cs : List Value) (d : shDisk.D) (r : Int) (w : World) (hr : Reads shDisk w cs d) :
    Calls Try.prog 4 #[.agg cs.toArray, .int .i64 r] w fun e w' => e = .returned (.bool true) ∧ Below w.heap.size w w' := by
  have hz0 : shDisk.sz zeroD ≤ 1048576 := by rw [sz_zero]; omega
  by_cases hs : shDisk.sz d ≤ 1048576
  · cases hok : implOkB d with
    | false =>
      refine diskFuse_over cs d r zeroD false w hr hz0 (cntV_small _ hz0) (cntV_small d) ?_ ?_
      · intro w' c G ho _
        refine (specDiskFuse_bad c d r 0 G w' ho hs hok).mono ?_
        rintro e w'' ⟨rfl, hb⟩
        exact ⟨_, rfl, (own_zero _ 0).reads, hb⟩
      · intro w' c G ho _
        refine (implDiskFuse_bad c d r 0 G w' ho hs hok).mono ?_
        rintro e w'' ⟨rfl, hb⟩
        exact ⟨_, _, rfl, own_zero _ _, by simp, hb⟩
    | true =>
      cases hok2 : implOkB (fuseD d r) with
      | false =>
        refine diskFuse_over cs d r zeroD false w hr hz0 (cntV_small _ hz0) (cntV_small d) ?_ ?_
        · intro w' c G ho _
          refine (specDiskFuse_no c d r 0 G w' ho hs hok hok2).mono ?_
          rintro e w'' ⟨rfl, hb⟩
          exact ⟨_, rfl, (own_zero _ 0).reads, hb⟩
        · intro w' c G ho _
          refine (implDiskFuse_no c d r 0 G w' ho hs hok hok2).mono ?_
          rintro e w'' ⟨rfl, hb⟩
          exact ⟨_, _, rfl, own_zero _ _, by simp, hb⟩
      | true =>
        have hs2 : shDisk.sz (fuseD d r) ≤ 1048576 := by rw [sz_Disk] at hs ⊢; exact hs
        refine diskFuse_over cs d r (fuseD d r) true w hr hs2 (cntV_small _ hs2) (cntV_small d) ?_ ?_
        · intro w' c G ho _
          refine (specDiskFuse_yes c d r 0 G w' ho hs hok hok2).mono ?_
          rintro e w'' ⟨cs', F, rfl, p, _, hb⟩
          exact ⟨cs', rfl, p.reads, hb⟩
        · intro w' c G ho _
          exact implDiskFuse_yes c d r 0 G w' ho hs hok hok2
  · exact diskFuse_over cs d r zeroD false w hr hz0 (cntV_small _ hz0) (fun h => absurd h hs) (fun _ _ _ _ h => absurd h hs) (fun _ _ _ _ h => absurd h hs)

end Go.Proofs.Ytmhlligmehbehab
