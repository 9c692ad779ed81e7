/-
  The law FnExactDiskDir over the contracts of its two functions.
-/
import Derived.Test.YtkjnbjohicgooaaGreatDirA
import Derived.Test.YtkjnbjohicgooaaGreatReadS
import Derived.Test.YtkjnbjohicgooaaGreatLDiskDir
namespace Go.Proofs.YtkjnbjohicgooaaGreat
open Go.RowKit
set_option linter.unusedVariables false
set_option maxRecDepth 100000

theorem wd_DiskD : shDisk.wd = 12 := rfl
theorem cntV_DiskD (d : shDisk.D) (h : shDisk.sz d ≤ 1048576) : shDisk.cntV d ≤ 1000000000 := by
  have h1 := shDisk.cnt_le d
  have h2 := shDisk.cntV_le d
  rw [wd_DiskD] at h1
  omega

theorem diskDir_law (cs : List Value) (d : shDisk.D) (w : World) (hr : Reads shDisk w cs d) :
    Calls Tryz.prog 3 #[.agg cs.toArray] w fun e w' => e = .returned (.bool true) ∧ Below w.heap.size w w' := by
  by_cases hs : shDisk.sz d ≤ 1048576
  · cases hok : implOkB d with
    | false =>
      have hnp : ¬ specOkP d := fun h => by rw [(ok_same d).1 h] at hok; cases hok
      refine diskDir_over cs d ([] : List LinkD) w hr (by show 0 + 0 ≤ _; omega) (by show 0 ≤ _; omega) (cntV_DiskD d) ?_ ?_
      · intro w' c G ho _
        refine (specDir_no c d w' ho.reads hs hnp).mono ?_
        rintro e w'' ⟨rfl, hb⟩
        exact ⟨_, rfl, ⟨none, 0, rfl, Nat.le_refl _, Nat.zero_le _, .inl rfl⟩, hb⟩
      · intro w' c G ho _
        refine (implDir_bad c d w' ho.reads hs hok).mono ?_
        rintro e w'' ⟨rfl, hb⟩
        exact ⟨_, [], rfl, .inl ⟨rfl, rfl, rfl⟩, by simp, hb⟩
    | true =>
      have hp : specOkP d := (ok_same d).2 hok
      have hall : List.take (α := TurnD) (List.length (α := TurnD) d.2.2.2.2.2.1) d.2.2.2.2.2.1 = d.2.2.2.2.2.1 := List.take_length
      have hsz := dir_sz hp (List.length (α := TurnD) d.2.2.2.2.2.1)
      rw [hall] at hsz
      refine diskDir_over cs d (dirL d.2.2.2.2.1 d.2.2.2.2.2.1) w hr hsz (cntS_Link _ hsz) (cntV_DiskD d) ?_ ?_
      · intro w' c G ho _
        refine (specDir_yes c d 0 G w' ho hs hp).mono ?_
        rintro e w'' ⟨v, F, rfl, p, _, hb⟩
        exact ⟨v, rfl, p.reads, hb⟩
      · intro w' c G ho _
        exact implDir_good c d w' ho.reads hs hok
  · exact diskDir_over cs d ([] : List LinkD) w hr (by show 0 + 0 ≤ _; omega) (by show 0 ≤ _; omega) (fun h => absurd h hs) (fun _ _ _ _ h => absurd h hs) (fun _ _ _ _ h => absurd h hs)

end Go.Proofs.YtkjnbjohicgooaaGreat
