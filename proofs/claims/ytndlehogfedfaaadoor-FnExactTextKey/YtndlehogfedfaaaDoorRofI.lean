/-
  RunesOf, the program's: over the library's contracts of utf8.ValidString and utf8.RuneCountInString.
-/
import Derived.Test.YtndlehogfedfaaaDoorRofS
import Derived.Test.YtndlehogfedfaaaDoorShelfR
import Derived.Test.YtndlehogfedfaaaDoorTabs
import Derived.Lib.OthersKept
namespace Go.Proofs.YtndlehogfedfaaaDoor
open Go.RowKit
set_option linter.unusedVariables false

theorem own_iterAt {w : World} {base : Nat} {e : TypeId} {size g n cap : Nat} {xs : List Value} (h : w.ownsRow base e size (.slice (some ⟨g, 0, none⟩) n cap) n xs) {k : Nat} {s : ByteArray} {pos : Nat} (hk : w.heap[k]? = some (.stringIter s pos)) (pos' : Nat) :
    (w.iterAt k s pos').ownsRow base e size (.slice (some ⟨g, 0, none⟩) n cap) n xs := by
  refine ⟨h.1, ?_⟩
  rcases h.2 with ⟨h1, h2⟩ | ⟨g', cap', cur, hv, hg, hh, r⟩
  · simp at h1
  · have hne : g' ≠ k := by
      intro e
      rw [e, hk] at hh
      cases hh
    exact .inr ⟨g', cap', cur, hv, hg, (Lib.iterAt_other w k g' s pos' hne).trans hh, r⟩

theorem own_ne_iter {w : World} {base : Nat} {e : TypeId} {size g n cap : Nat} {xs : List Value} (h : w.ownsRow base e size (.slice (some ⟨g, 0, none⟩) n cap) n xs) {k : Nat} {s : ByteArray} {pos : Nat} (hk : w.heap[k]? = some (.stringIter s pos)) : k ≠ g := by
  rcases h.2 with ⟨h1, h2⟩ | ⟨g', cap', cur, hv, hg, hh, r⟩
  · simp at h1
  · simp only [Value.slice.injEq, Option.some.injEq, Addr.mk.injEq, and_true, true_and] at hv
    obtain ⟨rfl, rfl⟩ := hv
    intro e
    rw [← e, hk] at hh
    cases hh

theorem below_iter {B : Nat} {a w : World} (h : Below B a w) (hs : B ≤ w.heap.size) (s : ByteArray) (pos : Nat) : Below B a (w.iter s pos) := h.alloc hs _

theorem valid_any (s : ByteArray) (w : World) (hn : s.size ≤ 65536) (hT : Tabs w) :
    Calls Tryd.prog 38 #[.string s] w fun e w' => e = .returned (.bool (Lib.validD s.data.toList)) ∧ Below w.heap.size w w' :=
  Any.utf8_ValidString Tryd.lays196 s w (by omega) hT

theorem implRof_no (s : ByteArray) (w : World) (hn : s.size ≤ maxLen) (hT : Tabs w) (h : ¬ rofOk s) :
    Calls Tryd.prog 33 #[.string s] w fun e w' => e = .returned (.tuple #[.slice none 0 0, .bool false]) ∧ Below w.heap.size w w' := by
  unfold maxLen at hn
  by_cases h1 : s.size ≤ 65536
  · have hV : Lib.validD s.data.toList = false := by
      cases hv : Lib.validD s.data.toList with
      | false => rfl
      | true => exact absurd ⟨h1, hv⟩ h
    have hc : Hid (Calls Tryd.prog 38 #[.string s] w fun e w' => e = .returned (.bool false) ∧ Below w.heap.size w w') := by
      show Calls _ _ _ _ _
      rw [← hV]; exact valid_any s w h1 hT
    have hlt : ¬ (65536 : Int) < (s.size : Int) := by omega
    clear hV h
    go_enter Tryd.func33, Tryd.ntmps33
    go_wp2_with fail
    refine hc.out.mono ?_
    rintro e w1 ⟨rfl, hb⟩
    go_wp2
    go_ret2
    exact ⟨rfl, hb⟩
  · have hlt : (65536 : Int) < (s.size : Int) := by omega
    go_enter Tryd.func33, Tryd.ntmps33
    go_wp2
    go_ret2
    exact ⟨rfl, Below.refl _ _⟩

set_option maxRecDepth 100000 in
set_option maxHeartbeats 2000000 in
theorem implRof_yes (s : ByteArray) (w : World) (hT : Tabs w) (h : rofOk s) :
    Calls Tryd.prog 33 #[.string s] w fun e w' => ∃ g c, e = .returned (.tuple #[.slice (some ⟨g, 0, none⟩) (runes s).length c, .bool true]) ∧ w'.ownsRow w.heap.size 3 1 (.slice (some ⟨g, 0, none⟩) (runes s).length c) (runes s).length ((runes s).map (Value.int .i64)) ∧ Below w.heap.size w w' := by
  obtain ⟨hn, hV⟩ := h
  obtain ⟨i0, hi, hz0, hz1, hz2⟩ := info_parts Tryd.infoI
  have hc : Hid (Calls Tryd.prog 38 #[.string s] w fun e w' => e = .returned (.bool true) ∧ Below w.heap.size w w') := by
    show Calls _ _ _ _ _
    rw [← hV]; exact valid_any s w hn hT
  have hlt : ¬ (65536 : Int) < (s.size : Int) := by omega
  obtain ⟨q, hq⟩ : ∃ q, q = Lib.runeCount s := ⟨_, rfl⟩
  have hqn : q ≤ 65536 := by rw [hq]; exact Nat.le_trans (Lib.runeCount_le s) hn
  have hcq : Hid (∀ w', Calls Tryd.prog 39 #[.string s] w' fun e w'' => e = .returned (.int .i64 q) ∧ ∃ pos, w'' = w'.iter s pos) := by
    intro w'
    rw [hq]
    exact Tryd.utf8_RuneCountInString s w' (by omega)
  clear hV hq
  go_enter Tryd.func33, Tryd.ntmps33
  go_wp2_with fail
  refine hc.out.mono ?_
  rintro e w1 ⟨rfl, hb1⟩
  go_wp2_with fail
  refine (hcq.out _).mono ?_
  rintro e w2 ⟨rfl, pos0, hw2⟩
  have hb2 : Below w.heap.size w w2 := by rw [hw2]; exact below_iter hb1 hb1.size s pos0
  clear hw2
  have hbs2 := hb2.size
  go_wp2_with (at_make; refine wpList_make_own _ rfl _ _ 38 rfl w.heap.size 3 i0 (.int .i64 0) 1 Tryd.underlying38 hi hz0 hz1 _ _ _ q rfl rfl ?b1 ?b2 ?b3 hbs2 ?_)
  case b1 => omega
  case b2 => rw [hz2]; omega
  case b3 => unfold maxLen; omega
  intro w3 hown3 hgrow3
  have hb3 : Below w.heap.size w w3 := hb2.grown hgrow3 hbs2 (fun k h => by cases h)
  clear hgrow3
  have hown0 := hown3.alloc (.stringIter s 0)
  have hb0 := below_iter hb3 hb3.size s 0
  have hit0 := World.iter_heap w3 s 0
  have HO : Hid ((w3.iter s 0).ownsRow w.heap.size 3 1 (.slice (some ⟨w2.heap.size, 0, none⟩) ([] : List Int).length q) ([] : List Int).length (([] : List Int).map (Value.int .i64))) := hown0
  clear hown0 hown3
  go_wp2
  go_loopw [4] (fun v wr => ∃ (A f g c : Nat) (xs : List Int), v = .slice (some ⟨g, 0, none⟩) xs.length c ∧ wr.ownsRow w.heap.size 3 1 (.slice (some ⟨g, 0, none⟩) xs.length c) xs.length (xs.map (Value.int .i64)) ∧ wr.heap[w3.heap.size]? = some (.stringIter s A) ∧ Below w.heap.size w wr ∧
      Hid (xs ++ rn s f A = runes s ∧ s.size ≤ A + f) ∧ xs.length ≤ A ∧ A ≤ 65540)
    (fun _ wr => s.size - wr.iterPos w3.heap.size)
  case atStart => exact ⟨0, s.size, _, _, [], rfl, HO.out, hit0, hb0, ⟨rfl, by omega⟩, Nat.le_refl _, by omega⟩
  case round =>
    obtain ⟨A, f, g, c, xs, rfl, hown, hit, hbel, hx, hxl, hA⟩ := hrel
    by_cases hAl : A < s.size
    · have hw := dec_width s A hAl
      have hr1 := dec_rune s A
      obtain ⟨f', hf1, hf2⟩ := rn_step s f A hAl hx.out.2
      have hnx0 : ∀ ty, (Instr.next (.pointer (some ⟨w3.heap.size, 0, none⟩)) true ty).run Tryd.prog wr = _ := fun ty => Lib.run_next_any_at wr w3.heap.size s A ty hit hAl
      obtain ⟨⟨d1, d2⟩, hd⟩ : ∃ d, d = Utf8.decode s A := ⟨_, rfl⟩
      rw [← hd] at hw hr1 hf1 hf2 hnx0
      simp only at hw hr1 hf1 hf2 hnx0
      clear hd
      have HX : Hid ((xs ++ [(d1 : Int)]) ++ rn s f' (A + d2) = runes s ∧ s.size ≤ A + d2 + f') := by
        refine ⟨?_, hf2⟩
        rw [← hx.out.1, hf1]; simp
      clear hf1 hf2 hx
      have hne := own_ne_iter hown hit
      have hown2 := own_iterAt hown hit (A + d2)
      have hit2 := Lib.iterAt_heap wr w3.heap.size s A (A + d2) hit
      have hbk : w.heap.size ≤ w3.heap.size := hb3.size
      have hbel2 := Lib.below_iterAt hbel hbk s (A + d2)
      obtain ⟨w4, hw4⟩ : ∃ w4, w4 = wr.iterAt w3.heap.size s (A + d2) := ⟨_, rfl⟩
      rw [← hw4] at hown2 hit2 hbel2 hnx0
      have hmeas : Hid (wr.iterPos w3.heap.size = A) := by show _ = _; simp [World.iterPos, hit]
      have hk4 : w3.heap.size < w4.heap.size := by
        rcases Nat.lt_or_ge w3.heap.size w4.heap.size with h | h
        · exact h
        · rw [Array.getElem?_eq_none h] at hit2; cases hit2
      clear hw4 hown hbel hit
      obtain ⟨m, hm⟩ : ∃ m, m = xs.length := ⟨_, rfl⟩
      have HM : Hid (m = _) := hm
      rw [← hm] at hown2 hxl ⊢
      clear hm
      have hbs := hbel2.size
      have hg := hown2.lt g rfl
      go_wp2_with (at_builtin; refine wpList_append_lies _ rfl _ _ 38 rfl w.heap.size 3 i0 (.int .i64 0) 1 8 Tryd.underlying38 hi hz0 hz1 hz2 rfl (by decide) _ m _ rfl (hown2.alloc _) ⟨_, 0, none⟩ 1 _ [.int .i64 (d1 : Int)] rfl rfl ?c1 ?c2 (by omega) ?c3 ?c4 ?c5 _ rfl ?_)
      case c1 => exact cell_one_new _ _ _
      case c2 => intro u hu; simp at hu; subst hu; rfl
      case c3 => unfold maxLen; omega
      case c4 => omega
      case c5 => simp; omega
      intro gg cap1 w5 hown5 hgrow5 _ _
      have hbel5 : Below w.heap.size w w5 := (hbel2.alloc hbs _).grown hgrow5 (by simp; omega) (fun y h => by cases h; exact hg.1)
      have hit5 : w5.heap[w3.heap.size]? = some (.stringIter s (A + d2)) := by
        have h1 := hgrow5.block w3.heap.size (by simp; omega) (by simp [Value.ownBlock]; exact hne)
        rw [h1, heap_alloc_old _ _ hk4]
        exact hit2
      have hl1 : (xs ++ [(d1 : Int)]).length = m + 1 := by simp [HM.out]
      have hown6 : w5.ownsRow w.heap.size 3 1 (.slice (some ⟨gg, 0, none⟩) (xs ++ [(d1 : Int)]).length cap1) (xs ++ [(d1 : Int)]).length ((xs ++ [(d1 : Int)]).map (Value.int .i64)) := by
        rw [hl1, List.map_append]
        exact hown5
      have HL1 : Hid (_ = m + 1) := hl1
      have hmeas5 : Hid (w5.iterPos w3.heap.size = A + d2) := by show _ = _; simp [World.iterPos, hit5]
      have HI5 : Hid _ := hit5
      clear hown5 hgrow5 hown2 hl1 hit2 hit5
      go_wp2
      go_roundw
      case rel => exact ⟨A + d2, f', gg, cap1, xs ++ [(d1 : Int)], by rw [HL1.out], hown6, HI5.out, hbel5, HX, by rw [HL1.out]; omega, by omega⟩
      case measure => rw [hmeas.out, hmeas5.out]; omega
    · have HR : Hid (xs = runes s) := by
        have := hx.out.1
        rw [rn_end s f A hAl, List.append_nil] at this
        exact this
      clear hx
      have hnx0 : ∀ ty, (Instr.next (.pointer (some ⟨w3.heap.size, 0, none⟩)) true ty).run Tryd.prog wr = _ := fun ty => Lib.run_next_end_at wr w3.heap.size s A ty hit hAl
      go_wp2
      go_ret2
      refine ⟨g, c, ?_, ?_, hbel⟩
      · rw [← HR.out]; rfl
      · rw [← HR.out]; exact hown

end Go.Proofs.YtndlehogfedfaaaDoor
