/-
  The law FnExactDiskRead over the contracts of its two functions.
-/
import Derived.Test.YtmhlligmehbehaaRdS
import Derived.Test.YtmhlligmehbehaaRdI
import Derived.Test.YtmhlligmehbehaaLDiskRead
namespace Go.Proofs.Ytmhlligmehbehaa
open Go.RowKit
set_option linter.unusedVariables false

theorem wd_Disk : shDisk.wd = 12 := rfl

theorem cntV_small (d : shDisk.D) (h : shDisk.sz d ≤ 1048576) : shDisk.cntV d ≤ 1000000000 := by
  have h1 := shDisk.cnt_le d
  have h2 := shDisk.cntV_le d
  rw [wd_Disk] at h1
  omega

theorem nil_reads (w : World) : Reads (.sl .u8) w [.slice none 0 0] ([] : List Int) := ⟨none, 0, rfl, Nat.le_refl _, Nat.zero_le _, .inl rfl⟩
theorem nil_own (w : World) (B : Nat) : Own (.sl .u8) w B [.slice none 0 0] ([] : List Int) [] := .inl ⟨rfl, rfl, rfl⟩

theorem body_small (d : shDisk.D) (h : shDisk.sz d ≤ 1048576) (i : Nat) (x : shNode.D) (hx : shNode.at d.2.2.2.1 i = some x) : List.length (α := Int) x.2.1 ≤ 1048576 := by
  rw [sz_Disk] at h
  have h2 := sz_elem shNode d.2.2.2.1 i x hx
  have h3 : List.length (α := Int) x.2.1 ≤ shNode.sz x := (sz_len x).1
  have h4 : Sh.sz (.sl shNode) d.2.2.2.1 = List.length (α := NodeD) d.2.2.2.1 + (List.map shNode.sz d.2.2.2.1).sum := rfl
  omega

theorem diskRead_law (cs : List Value) (d : shDisk.D) (name : ByteArray) (w : World) (hr : Reads shDisk w cs d) (hname : name.size ≤ maxLen) :
    Calls Try.prog 3 #[.agg cs.toArray, .string name] w fun e w' => e = .returned (.bool true) ∧ Below w.heap.size w w' := by
  by_cases hs : shDisk.sz d ≤ 1048576
  · cases hok : implOkB d with
    | false =>
      have hnp : ¬ specOkP d := fun h => by rw [(ok_same d).1 h] at hok; cases hok
      refine diskRead_over cs d name ([] : List Int) false w hr (by simp) (by rw [cnt_byteS]; simp) (cntV_small d) ?_ ?_
      · intro w' c G ho _
        refine (specRead_none c d name 0 G w' ho hs (fun h => absurd h hnp) (.inr hnp)).mono ?_
        rintro e w'' ⟨rfl, hb⟩
        exact ⟨_, rfl, nil_reads _, hb⟩
      · intro w' c G ho _
        refine (implRead_bad c d name 0 G w' ho hs hok).mono ?_
        rintro e w'' ⟨rfl, hb⟩
        exact ⟨_, _, rfl, nil_own _ _, by simp, hb⟩
    | true =>
      have hp : specOkP d := (ok_same d).2 hok
      obtain ⟨hal, hpos, hpl⟩ := dir_alike hp
      obtain ⟨L, hL⟩ : ∃ L, L = dirL d.2.2.2.2.1 d.2.2.2.2.2.1 := ⟨_, rfl⟩
      obtain ⟨M, hM⟩ : ∃ M, M = dirF (List.reverse (α := LinkD) d.2.2.2.2.1) d.2.2.2.2.2.1 := ⟨_, rfl⟩
      rw [← hL, ← hM] at hal
      rw [← hL] at hpos hpl
      have hhs : hasL M name = hasL L name := ((hal name).1).symm
      have hfs : findL M name = findL L name := ((hal name).2).symm
      have hin : hasL M name = true → placeN d.2.2.2.1 (findL M name) < List.length (α := NodeD) d.2.2.2.1 := fun h => by
        rw [hhs] at h
        obtain ⟨x, hx, _, hx2⟩ := findL_mem h
        have := hpl x hx
        rw [hfs, ← hx2]; exact this
      cases hh : hasL M name with
      | false =>
        refine diskRead_over cs d name ([] : List Int) false w hr (by simp) (by rw [cnt_byteS]; simp) (cntV_small d) ?_ ?_
        · intro w' c G ho _
          refine (specRead_none c d name 0 G w' ho hs (fun _ => by rw [← hL, ← hhs]; exact hh) (.inl hp)).mono ?_
          rintro e w'' ⟨rfl, hb⟩
          exact ⟨_, rfl, nil_reads _, hb⟩
        · intro w' c G ho _
          refine (implRead_good c d name 0 G w' ho hs hok hname M hM hin).mono ?_
          rintro e w'' ⟨hb, ⟨_, rfl⟩ | ⟨v, F, x, h1, _⟩⟩
          · exact ⟨_, _, rfl, nil_own _ _, by simp, hb⟩
          · rw [hh] at h1; cases h1
      | true =>
        have hlt := hin hh
        obtain ⟨x, hx⟩ : ∃ x, shNode.at d.2.2.2.1 (placeN d.2.2.2.1 (findL M name)) = some x := ⟨_, List.getElem?_eq_getElem hlt⟩
        have hsm := body_small d hs _ x hx
        have hcn : Sh.cnt (.sl .u8) x.2.1 ≤ 1000000000 := by
          have h1 := cnt_byteS x.2.1
          exact Nat.le_trans (Nat.le_of_eq h1) (Nat.le_trans hsm (by omega))
        refine diskRead_over cs d name x.2.1 true w hr hsm hcn (cntV_small d) ?_ ?_
        · intro w' c G ho _
          refine (specRead_yes c d name 0 G w' ho hs hp (by rw [← hL, ← hhs]; exact hh)).mono ?_
          rintro e w'' ⟨v, F, y, hy, rfl, p, _, hb⟩
          rw [← hL, ← hfs, hx] at hy
          obtain rfl := Option.some.inj hy
          exact ⟨v, rfl, p.reads, hb⟩
        · intro w' c G ho _
          refine (implRead_good c d name 0 G w' ho hs hok hname M hM hin).mono ?_
          rintro e w'' ⟨hb, ⟨h1, _⟩ | ⟨v, F, y, _, hy, rfl, p, nd⟩⟩
          · rw [hh] at h1; cases h1
          · rw [hx] at hy
            obtain rfl := Option.some.inj hy
            exact ⟨v, F, rfl, p, nd, hb⟩
  · exact diskRead_over cs d name ([] : List Int) false w hr (by simp) (by rw [cnt_byteS]; simp) (fun h => absurd h hs) (fun _ _ _ _ h => absurd h hs) (fun _ _ _ _ h => absurd h hs)

end Go.Proofs.Ytmhlligmehbehaa
