/-
  l01Bytes and MakeBytes: a row of the call's own, of at most 'most' bytes.
-/
import Derived.Test.YtnifmkhijebamaaDraw
namespace Go.Proofs.Ytnifmkhijebamaa
open Go.RowKit
set_option linter.unusedVariables false

def isBytes (ys : List Int) : Prop := ∀ i : Nat, 0 ≤ ys[i]?.getD 0 ∧ ys[i]?.getD 0 ≤ 255

theorem isBytes_snoc {ys : List Int} {x : Int} (h : isBytes ys) (h0 : 0 ≤ x) (h1 : x ≤ 255) : isBytes (ys ++ [x]) := by
  intro i
  rw [List.getElem?_append]
  split
  · exact h i
  · rcases Nat.eq_zero_or_pos (i - ys.length) with e | e
    · rw [e]; simp; omega
    · rw [List.getElem?_eq_none (by simp; omega)]; simp

set_option maxRecDepth 100000 in
set_option maxHeartbeats 1000000 in
theorem bytes_any (base B : Nat) (a : Option Addr) (n cap : Nat) (zs : List Int) (most : Nat) (w : World) (hl : Hid (zs.length = n)) (hn : n ≤ 1048576) (hc : Cur w base B a n cap zs) (hm : most ≤ 255) :
    Calls Try.prog 10 #[.pointer (some ⟨B, 0, none⟩), .int .i64 most] w fun e w' => ∃ (ys : List Int) (m g cp : Nat), m ≤ most ∧ ys.length = m ∧ isBytes ys ∧ e = .returned (.slice (some ⟨g, 0, none⟩) m cp) ∧
      w'.ownsRow (B + 1) 5 1 (.slice (some ⟨g, 0, none⟩) m cp) m (ys.map (Value.int .u8)) ∧ Below base w w' ∧ Cur w' base B a n cap zs := by
  obtain ⟨i0, hi, hz0, hz1, hz2⟩ := info_parts Try.infoB
  have hBw := hc.lt
  have hbB := hc.bB
  have HC : Hid (Cur w base B a n cap zs) := hc
  clear hc
  go_enter Try.func10, Try.ntmps10
  go_wp2_with fail
  refine (below_any base B a n cap zs _ _ hl hn HC.out ?_ ?_).mono ?_
  · omega
  · omega
  rintro e w1 ⟨x, rfl, hx0, hx1, hc1, hg1⟩
  obtain ⟨m, rfl⟩ := Int.eq_ofNat_of_zero_le hx0
  have hmm : m ≤ most := by omega
  have hB1 := hc1.lt
  have hown0 := World.ownsRow_lit (base := B + 1) (e := 5) (size := 1) w1 #[] 0 (by omega) (Nat.zero_le _) rfl
  have hb1 : Below base w w1 := (Below.refl _ _).grown hg1 (by omega) (fun k h => by cases h; exact hbB)
  have hc0 : Cur (w1.alloc (.cells #[] 5)) base B a n cap zs := cur_kept hc1 (World.grownBy_alloc w1 _ none) (by simp) (fun k h => by cases h)
  have hb0 : Below base w (w1.alloc (.cells #[] 5)) := hb1.alloc (by omega) _
  have H0 : Hid (_ ∧ _ ∧ _) := ⟨hown0, hc0, hb0⟩
  clear hc0 hb0 hb1 hg1 hc1 hown0 HC
  go_wp2
  go_loopw [6, 7] (fun v i wr => ∃ (k g cp : Nat) (ys : List Int), k ≤ m ∧ v = .slice (some ⟨g, 0, none⟩) k cp ∧ i = .int .i64 k ∧ Hid (ys.length = k ∧ isBytes ys) ∧ wr.ownsRow (B + 1) 5 1 (.slice (some ⟨g, 0, none⟩) k cp) k (ys.map (Value.int .u8)) ∧ Below base w wr ∧ Cur wr base B a n cap zs)
    (fun _ i _ => m - (intOf i).toNat)
  case atStart => exact ⟨0, _, 0, [], Nat.zero_le _, rfl, rfl, ⟨rfl, fun i => by simp⟩, H0.out.1, H0.out.2.2, H0.out.2.1⟩
  case round =>
    obtain ⟨k, g, cp, ys, hk, rfl, rfl, HY, hown, hbel, hcr⟩ := hrel
    by_cases hlt : k < m
    · have hlt' : (k : Int) < (m : Int) := by omega
      go_wp2_with fail
      refine (byte_any base B a n cap zs _ hl hn hcr).mono ?_
      rintro e w2 ⟨x, rfl, hx0, hx1, hc2, hg2⟩
      have hgl := hown.lt g rfl
      have hown2 := hown.kept hg2 (.inr (by simp [Value.ownBlock]; omega))
      have hB2 := hc2.lt
      have hbs := hbel.size
      have hgs := hg2.size
      have hbel2 : Below base w w2 := hbel.grown hg2 (by omega) (fun y h => by cases h; exact hbB)
      have HC2 : Hid (Cur w2 base B a n cap zs) := hc2
      clear hown hg2 hcr hc2
      go_wp2_with (at_builtin; refine wpList_append_lies _ rfl _ _ 22 rfl (B + 1) 5 i0 (.int .u8 0) 1 1 Try.underlying22 hi hz0 hz1 hz2 rfl (by decide) _ k _ rfl (hown2.alloc _) ⟨_, 0, none⟩ 1 _ [.int .u8 x] rfl rfl ?c1 ?c2 (by omega) ?c3 ?c4 ?c5 _ rfl ?_)
      case c1 => exact cell_one_new _ _ _
      case c2 => intro u hu; simp at hu; subst hu; rfl
      case c3 => unfold maxLen; omega
      case c4 => omega
      case c5 => simp; omega
      intro gg cap1 w3 hown3 hgrow3 hat _
      have hbel3 : Below base w w3 := (hbel2.alloc (by omega) _).grown hgrow3 (by simp; omega) (fun y h => by cases h; show base ≤ g; omega)
      have hc3 : Cur w3 base B a n cap zs := cur_kept (cur_kept HC2.out (World.grownBy_alloc w2 _ none) (by simp) (fun k h => by cases h)) hgrow3 (by simp [Value.ownBlock]; omega) (fun y h => by cases h; show base ≤ g; omega)
      have hown4 : w3.ownsRow (B + 1) 5 1 (.slice (some ⟨gg, 0, none⟩) (k + 1) cap1) (k + 1) ((ys ++ [x]).map (Value.int .u8)) := by
        rw [List.map_append]
        exact hown3
      have HY2 : Hid ((ys ++ [x]).length = k + 1 ∧ isBytes (ys ++ [x])) := ⟨by rw [List.length_append, HY.out.1]; rfl, isBytes_snoc HY.out.2 hx0 hx1⟩
      clear hown3 hgrow3 hown2
      go_wp2
      go_roundw
      case rel => exact ⟨k + 1, gg, cap1, ys ++ [x], by omega, rfl, by go_num, HY2, hown4, hbel3, hc3⟩
      case measure => simp [intOf]; omega
    · have e : k = m := by omega
      subst e
      go_wp2
      go_ret
      exact ⟨ys, k, g, cp, hmm, HY.out.1, HY.out.2, rfl, hown, hbel, hcr⟩

set_option maxHeartbeats 400000 in
theorem makeBytes_any (a : Option Addr) (n cap : Nat) (zs : List Int) (w : World) (hl : Hid (zs.length = n)) (hn : n ≤ 1048576) (hr : Rd w a zs) :
    Calls Try.prog 4 #[.slice a n cap] w fun e w' => ∃ (ys : List Int) (m g cp : Nat), m ≤ 40 ∧ ys.length = m ∧ isBytes ys ∧ e = .returned (.slice (some ⟨g, 0, none⟩) m cp) ∧
      w'.ownsRow w.heap.size 5 1 (.slice (some ⟨g, 0, none⟩) m cp) m (ys.map (Value.int .u8)) ∧ Below w.heap.size w w' := by
  go_enter Try.func4, Try.ntmps4
  go_wp2_with fail
  refine (new_any a n cap zs _ hl hn hr).mono ?_
  rintro e w1 ⟨rfl, hc1, hb1⟩
  go_wp2_with fail
  refine (bytes_any w.heap.size w.heap.size a n cap zs 40 _ hl hn hc1 (by omega)).mono ?_
  rintro e w2 ⟨ys, m, g, cp, hm, hy, hyb, rfl, ho, hb2, _⟩
  have ho' := own_base ho (base' := w.heap.size) (by have := (ho.lt g rfl).1; omega)
  clear ho
  go_wp2
  go_ret
  exact ⟨ys, m, g, cp, hm, hy, hyb, rfl, ho', hb1.trans hb2⟩

end Go.Proofs.Ytnifmkhijebamaa
