/-
  TextOf, the model's and the program's: the runes' bytes, one behind the other.
-/
import Derived.Test.YtndlehogfedfaaaDoorRbI
import Derived.Test.YtndlehogfedfaaaDoorIMarks
import Derived.Test.YtndlehogfedfaaaDoorConv
import Derived.Deep.AppendLies
import Derived.Laws.AppendOwnNone
namespace Go.Proofs.YtndlehogfedfaaaDoor
open Go.RowKit
set_option linter.unusedVariables false

def txt (zs : List Int) : Nat → List Int
  | 0 => []
  | k + 1 => txt zs k ++ rb (zs[k]?.getD 0)

theorem txt_len (zs : List Int) : ∀ k, (txt zs k).length ≤ 4 * k
  | 0 => by simp [txt]
  | k + 1 => by
    have h1 := txt_len zs k
    have h2 := rb_len (zs[k]?.getD 0)
    simp only [txt, List.length_append]
    omega

set_option maxRecDepth 100000 in
set_option maxHeartbeats 1000000 in
theorem specText_any (a : Option Addr) (n cap : Nat) (zs : List Int) (w : World) (hl : Hid (zs.length = n)) (hr : RdI w a zs) (hn : n ≤ 2097152) :
    Calls Tryd.prog 18 #[.slice a n cap] w fun e w' => e = .returned (.string (strOfNums (txt zs n))) ∧ Below w.heap.size w w' := by
  obtain ⟨i0, hi, hz0, hz1, hz2⟩ := info_parts Tryd.infoB
  have hown0 := World.ownsRow_lit (base := w.heap.size) (e := 5) (size := 1) w #[] 0 (Nat.le_refl _) (Nat.zero_le _) rfl
  go_enter Tryd.func18, Tryd.ntmps18
  go_wp2
  go_loopw [3, 9] (fun v i wr => ∃ k g c : Nat, k ≤ n ∧ v = .slice (some ⟨g, 0, none⟩) (txt zs k).length c ∧ i = .int .i64 k ∧ wr.ownsRow w.heap.size 5 1 (.slice (some ⟨g, 0, none⟩) (txt zs k).length c) (txt zs k).length ((txt zs k).map (Value.int .u8)) ∧ Below w.heap.size w wr)
    (fun _ i _ => n - (intOf i).toNat)
  case atStart => exact ⟨0, _, _, Nat.zero_le _, rfl, rfl, hown0, (Below.refl _ _).alloc (Nat.le_refl _) _⟩
  case round =>
    obtain ⟨k, g, c, hk, rfl, rfl, hown, hbel⟩ := hrel
    obtain ⟨t, ht⟩ : ∃ t, t = txt zs k := ⟨_, rfl⟩
    have HT : Hid (t = _) := ht
    rw [← ht] at hown ⊢
    have htl : t.length ≤ 4 * k := by rw [ht]; exact txt_len zs k
    clear ht
    obtain ⟨m, hm⟩ : ∃ m, m = t.length := ⟨_, rfl⟩
    have HM : Hid (m = _) := hm
    rw [← hm] at hown htl ⊢
    clear hm
    by_cases hlt : k < n
    · have hne : zs ≠ [] := by intro h; have := hl.out; subst h; simp at this; omega
      obtain ⟨b, off, rfl, hb, hc⟩ := hr.resolve_left hne
      obtain ⟨x, hx⟩ : ∃ x, x = zs[k]?.getD 0 := ⟨_, rfl⟩
      have hcell : wr.cell? ⟨b, off + k, none⟩ = some (.int .i64 x) := by rw [hx]; exact (hbel.cell (p := ⟨b, off + k, none⟩) hb).trans (hc k (by have := hl.out; omega))
      have HD : Hid (txt zs (k + 1) = t ++ rb x) := by show txt zs (k + 1) = _; rw [txt, hx, HT.out]
      have hbs := hbel.size
      have hg := hown.lt g rfl
      clear hx hc hne hr
      by_cases hk1 : rok x = true
      · obtain ⟨y, hy⟩ : ∃ y, y = (rb x).length := ⟨_, rfl⟩
        have hy4 : y ≤ 4 := by rw [hy]; exact rb_len x
        have hy0 : 0 < y := by rw [hy]; exact rb_pos hk1
        have himp : Hid (∀ w', Calls Tryd.prog 26 #[.int .i64 x] w' fun e w1 => ∃ g c, e = .returned (.slice (some ⟨g, 0, none⟩) y c) ∧
          w1.ownsRow w'.heap.size 5 1 (.slice (some ⟨g, 0, none⟩) y c) y ((rb x).map (Value.int .u8)) ∧ Below w'.heap.size w' w1) := by
          intro w'; rw [hy]; exact specRb_yes x w' hk1
        have HY : Hid (y = _) := hy
        clear hy
        go_wp2_with fail
        refine (himp.out _).mono ?_
        rintro e w2 ⟨g2, c2, rfl, ho2, hb2⟩
        have hown2 := own_later hown hb2
        have hg2 := ho2.lt g2 rfl
        have hbel2 := hbel.trans (hb2.mono hbel.size)
        have hs2 := hb2.size
        go_wp2_with (at_builtin; refine wpList_append_lies _ rfl _ _ 32 rfl w.heap.size 5 i0 (.int .u8 0) 1 1 Tryd.underlying32 hi hz0 hz1 hz2 rfl (by decide) _ m _ rfl hown2 ⟨g2, 0, none⟩ y _ ((rb x).map (Value.int .u8)) rfl ?c0 ?c1 ?c2 hy0 ?c3 ?c4 ?c5 _ rfl ?_)
        case c0 => rw [HY.out]; simp
        case c1 =>
          intro j u hu
          have hj : j < y := by rw [HY.out]; have := (List.getElem?_eq_some_iff.1 hu).1; simpa using this
          have e : (⟨g2, 0, none⟩ : Addr).add j = ⟨g2, j, none⟩ := by cases j <;> simp [Addr.add]
          rw [e, ho2.cellAt j (by omega)]; exact hu
        case c2 => intro u hu; simp at hu; obtain ⟨z, _, rfl⟩ := hu; rfl
        case c3 => unfold maxLen; omega
        case c4 => omega
        case c5 => omega
        intro gg cap1 w3 hown3 hgrow3 _ _
        have hbel3 : Below w.heap.size w w3 := hbel2.grown hgrow3 (by omega) (fun z h => by cases h; exact hg.1)
        have hq : (txt zs (k + 1)).length = m + y := by rw [HD.out, List.length_append, HM.out, HY.out]
        have hown4 : w3.ownsRow w.heap.size 5 1 (.slice (some ⟨gg, 0, none⟩) (txt zs (k + 1)).length cap1) (txt zs (k + 1)).length ((txt zs (k + 1)).map (Value.int .u8)) := by
          rw [hq, HD.out, List.map_append]
          exact hown3
        have HQ : Hid (_ = m + y) := hq
        clear hown3 hgrow3 hown hown2 ho2 hq
        go_wp2
        go_roundw
        case rel => exact ⟨k + 1, gg, cap1, by omega, by rw [HQ.out], by go_num, hown4, hbel3⟩
        case measure => simp [intOf]; omega
      · have hk2 : rok x = false := by simpa using hk1
        have hq : txt zs (k + 1) = t := by rw [HD.out]; simp [rb, hk2]
        have HQ : Hid (_ = t) := hq
        clear hq
        go_wp2_with fail
        refine (specRb_no x _ hk2).mono ?_
        rintro e w2 ⟨rfl, rfl⟩
        go_wp2_with (at_builtin; refine wpList_append_own_none rfl _ _ 32 rfl w.heap.size 5 i0 1 Tryd.underlying32 hi _ m _ rfl hown rfl ?_)
        go_wp2
        go_roundw
        case rel => exact ⟨k + 1, g, c, by omega, by rw [HQ.out, HM.out], by go_num, by rw [HQ.out, ← HM.out]; exact hown, hbel⟩
        case measure => simp [intOf]; omega
    · have e : k = n := by omega
      subst e
      have hconv := own_conv HM.out.symm hown
      rw [HT.out] at hconv
      go_wp2
      go_ret
      exact ⟨rfl, hbel⟩

set_option maxRecDepth 100000 in
set_option maxHeartbeats 1000000 in
theorem implText_any (a : Option Addr) (n cap : Nat) (zs : List Int) (w : World) (hl : Hid (zs.length = n)) (hr : RdI w a zs) (hn : n ≤ 2097152) :
    Calls Tryd.prog 20 #[.slice a n cap] w fun e w' => e = .returned (.string (strOfNums (txt zs n))) ∧ Below w.heap.size w w' := by
  obtain ⟨i0, hi, hz0, hz1, hz2⟩ := info_parts Tryd.infoB
  go_enter Tryd.func20, Tryd.ntmps20
  go_wp2_with (at_make; refine wpList_make_own _ rfl _ _ 32 rfl w.heap.size 5 i0 (.int .u8 0) 1 Tryd.underlying32 hi hz0 hz1 _ _ _ n rfl rfl ?b1 ?b2 ?b3 (Nat.le_refl _) ?_)
  case b1 => omega
  case b2 => rw [hz2]; omega
  case b3 => unfold maxLen; omega
  intro w0 hown0 hgrow0
  have hbel0 : Below w.heap.size w w0 := (Below.refl _ _).grown hgrow0 (Nat.le_refl _) (fun k h => by cases h)
  clear hgrow0
  go_wp2
  go_loopw [3, 11] (fun v i wr => ∃ k g c : Nat, k ≤ n ∧ v = .slice (some ⟨g, 0, none⟩) (txt zs k).length c ∧ i = .int .i64 k ∧ wr.ownsRow w.heap.size 5 1 (.slice (some ⟨g, 0, none⟩) (txt zs k).length c) (txt zs k).length ((txt zs k).map (Value.int .u8)) ∧ Below w.heap.size w wr)
    (fun _ i _ => n - (intOf i).toNat)
  case atStart => exact ⟨0, _, _, Nat.zero_le _, rfl, rfl, hown0, hbel0⟩
  case round =>
    obtain ⟨k, g, c, hk, rfl, rfl, hown, hbel⟩ := hrel
    obtain ⟨t, ht⟩ : ∃ t, t = txt zs k := ⟨_, rfl⟩
    have HT : Hid (t = _) := ht
    rw [← ht] at hown ⊢
    have htl : t.length ≤ 4 * k := by rw [ht]; exact txt_len zs k
    clear ht
    obtain ⟨m, hm⟩ : ∃ m, m = t.length := ⟨_, rfl⟩
    have HM : Hid (m = _) := hm
    rw [← hm] at hown htl ⊢
    clear hm
    by_cases hlt : k < n
    · have hne : zs ≠ [] := by intro h; have := hl.out; subst h; simp at this; omega
      obtain ⟨b, off, rfl, hb, hc⟩ := hr.resolve_left hne
      obtain ⟨x, hx⟩ : ∃ x, x = zs[k]?.getD 0 := ⟨_, rfl⟩
      have hcell : wr.cell? ⟨b, off + k, none⟩ = some (.int .i64 x) := by rw [hx]; exact (hbel.cell (p := ⟨b, off + k, none⟩) hb).trans (hc k (by have := hl.out; omega))
      have HD : Hid (txt zs (k + 1) = t ++ rb x) := by show txt zs (k + 1) = _; rw [txt, hx, HT.out]
      have hbs := hbel.size
      have hg := hown.lt g rfl
      clear hx hc hne hr
      by_cases hk1 : rok x = true
      · obtain ⟨y, hy⟩ : ∃ y, y = (rb x).length := ⟨_, rfl⟩
        have hy4 : y ≤ 4 := by rw [hy]; exact rb_len x
        have hy0 : 0 < y := by rw [hy]; exact rb_pos hk1
        have himp : Hid (∀ w', Calls Tryd.prog 27 #[.int .i64 x] w' fun e w1 => ∃ g c, e = .returned (.slice (some ⟨g, 0, none⟩) y c) ∧
          w1.ownsRow w'.heap.size 5 1 (.slice (some ⟨g, 0, none⟩) y c) y ((rb x).map (Value.int .u8)) ∧ Below w'.heap.size w' w1) := by
          intro w'; rw [hy]; exact implRb_yes x w' hk1
        have HY : Hid (y = _) := hy
        clear hy
        go_wp2_with fail
        refine (himp.out _).mono ?_
        rintro e w2 ⟨g2, c2, rfl, ho2, hb2⟩
        have hown2 := own_later hown hb2
        have hg2 := ho2.lt g2 rfl
        have hbel2 := hbel.trans (hb2.mono hbel.size)
        have hs2 := hb2.size
        go_wp2_with (at_builtin; refine wpList_append_lies _ rfl _ _ 32 rfl w.heap.size 5 i0 (.int .u8 0) 1 1 Tryd.underlying32 hi hz0 hz1 hz2 rfl (by decide) _ m _ rfl hown2 ⟨g2, 0, none⟩ y _ ((rb x).map (Value.int .u8)) rfl ?c0 ?c1 ?c2 hy0 ?c3 ?c4 ?c5 _ rfl ?_)
        case c0 => rw [HY.out]; simp
        case c1 =>
          intro j u hu
          have hj : j < y := by rw [HY.out]; have := (List.getElem?_eq_some_iff.1 hu).1; simpa using this
          have e : (⟨g2, 0, none⟩ : Addr).add j = ⟨g2, j, none⟩ := by cases j <;> simp [Addr.add]
          rw [e, ho2.cellAt j (by omega)]; exact hu
        case c2 => intro u hu; simp at hu; obtain ⟨z, _, rfl⟩ := hu; rfl
        case c3 => unfold maxLen; omega
        case c4 => omega
        case c5 => omega
        intro gg cap1 w3 hown3 hgrow3 _ _
        have hbel3 : Below w.heap.size w w3 := hbel2.grown hgrow3 (by omega) (fun z h => by cases h; exact hg.1)
        have hq : (txt zs (k + 1)).length = m + y := by rw [HD.out, List.length_append, HM.out, HY.out]
        have hown4 : w3.ownsRow w.heap.size 5 1 (.slice (some ⟨gg, 0, none⟩) (txt zs (k + 1)).length cap1) (txt zs (k + 1)).length ((txt zs (k + 1)).map (Value.int .u8)) := by
          rw [hq, HD.out, List.map_append]
          exact hown3
        have HQ : Hid (_ = m + y) := hq
        clear hown3 hgrow3 hown hown2 ho2 hq
        go_wp2
        go_roundw
        case rel => exact ⟨k + 1, gg, cap1, by omega, by rw [HQ.out], by go_num, hown4, hbel3⟩
        case measure => simp [intOf]; omega
      · have hk2 : rok x = false := by simpa using hk1
        have hq : txt zs (k + 1) = t := by rw [HD.out]; simp [rb, hk2]
        have HQ : Hid (_ = t) := hq
        clear hq
        go_wp2_with fail
        refine (implRb_no x _ hk2).mono ?_
        rintro e w2 ⟨rfl, rfl⟩
        go_wp2_with (at_builtin; refine wpList_append_own_none rfl _ _ 32 rfl w.heap.size 5 i0 1 Tryd.underlying32 hi _ m _ rfl hown rfl ?_)
        go_wp2
        go_roundw
        case rel => exact ⟨k + 1, g, c, by omega, by rw [HQ.out, HM.out], by go_num, by rw [HQ.out, ← HM.out]; exact hown, hbel⟩
        case measure => simp [intOf]; omega
    · have e : k = n := by omega
      subst e
      have hconv := own_conv HM.out.symm hown
      rw [HT.out] at hconv
      go_wp2
      go_ret
      exact ⟨rfl, hbel⟩


end Go.Proofs.YtndlehogfedfaaaDoor
