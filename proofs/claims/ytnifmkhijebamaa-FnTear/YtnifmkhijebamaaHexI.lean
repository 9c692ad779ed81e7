/-
  HexOf, the program's.
-/
import Derived.Test.YtnifmkhijebamaaHex
namespace Go.Proofs.Ytnifmkhijebamaa
open Go.RowKit
set_option linter.unusedVariables false

theorem hex_at (d : Int) (h0 : 0 ≤ d) (h : d ≤ 15) (w : World) : (Instr.index 9 (.string ⟨#[48, 49, 50, 51, 52, 53, 54, 55, 56, 57, 97, 98, 99, 100, 101, 102]⟩) (.int .u8 d)).run Try.prog w = .ok (.int .u8 (hx d)) w := by
  have : d = 0 ∨ d = 1 ∨ d = 2 ∨ d = 3 ∨ d = 4 ∨ d = 5 ∨ d = 6 ∨ d = 7 ∨ d = 8 ∨ d = 9 ∨ d = 10 ∨ d = 11 ∨ d = 12 ∨ d = 13 ∨ d = 14 ∨ d = 15 := by omega
  rcases this with rfl | rfl | rfl | rfl | rfl | rfl | rfl | rfl | rfl | rfl | rfl | rfl | rfl | rfl | rfl | rfl
  all_goals (show _ = _; kernel_rfl)

set_option maxRecDepth 100000 in
set_option maxHeartbeats 1000000 in
theorem implHex_any (a : Option Addr) (n cap : Nat) (zs : List Int) (w : World) (hl : Hid (zs.length = n)) (hr : Rd w a zs) (hn : n ≤ 2097152) :
    Calls Try.prog 8 #[.slice a n cap] w fun e w' => e = .returned (.string (strOfNums (hexk zs n))) ∧ Below w.heap.size w w' := by
  obtain ⟨i0, hi, hz0, hz1, hz2⟩ := info_parts Try.infoB
  have hz := hr.1
  go_enter Try.func8, Try.ntmps8
  go_wp2_with (at_make; refine wpList_make_own _ rfl _ _ 22 rfl w.heap.size 5 i0 (.int .u8 0) 1 Try.underlying22 hi hz0 hz1 _ _ _ (2 * n) rfl rfl ?b1 ?b2 ?b3 (Nat.le_refl _) ?_)
  case b1 => omega
  case b2 => rw [hz2]; omega
  case b3 => unfold maxLen; omega
  intro w0 hown0 hgrow0
  have hbel0 : Below w.heap.size w w0 := (Below.refl _ _).grown hgrow0 (Nat.le_refl _) (fun k h => by cases h)
  clear hgrow0
  go_wp2
  go_loopw [3, 12] (fun v i wr => ∃ k g c : Nat, k ≤ n ∧ v = .slice (some ⟨g, 0, none⟩) (2 * k) c ∧ i = .int .i64 k ∧ wr.ownsRow w.heap.size 5 1 (.slice (some ⟨g, 0, none⟩) (2 * k) c) (2 * k) ((hexk zs k).map (Value.int .u8)) ∧ Below w.heap.size w wr)
    (fun _ i _ => n - (intOf i).toNat)
  case atStart => exact ⟨0, _, _, Nat.zero_le _, rfl, rfl, hown0, hbel0⟩
  case round =>
    obtain ⟨k, g, c, hk, rfl, rfl, hown, hbel⟩ := hrel
    by_cases hlt : k < n
    · have hne : zs ≠ [] := by intro h; have := hl.out; subst h; simp at this; omega
      obtain ⟨b, off, rfl, hb, hc⟩ := hr.2.resolve_left hne
      obtain ⟨x, hx0⟩ : ∃ x, x = zs[k]?.getD 0 := ⟨_, rfl⟩
      have hxb := hz k
      have hcell : wr.cell? ⟨b, off + k, none⟩ = some (.int .u8 x) := by rw [hx0]; exact (hbel.cell (p := ⟨b, off + k, none⟩) hb).trans (hc k (by have := hl.out; omega))
      have HD : Hid (hexk zs (k + 1) = hexk zs k ++ [hx (x / 16), hx (x % 16)]) := by show hexk zs (k + 1) = _; rw [hexk, hx0]
      rw [← hx0] at hxb
      have hbs := hbel.size
      have hg := hown.lt g rfl
      have q1 := hex_at (x / 16) (by omega) (by omega)
      have q0 : bits .and .u8 x 15 = x % 16 := by
        rw [u8_and x 15 (by omega) (by omega) (by omega) (by omega)]
        have : x.toNat &&& 15 = x.toNat % 16 := Nat.and_two_pow_sub_one_eq_mod x.toNat 4
        show ((x.toNat &&& 15 : Nat) : Int) = _
        rw [this]; omega
      have q2 := hex_at (x % 16) (by omega) (by omega)
      clear hx0 hz hc hne hr hown0
      go_wp2_with fail
      go_region_held3 (fun w' => w'.cell? ⟨b, off + k, none⟩ = some (.int .u8 x))
        (first | go_keep | (rw [hgrow.cell_far _ (by simp; omega) (by simp [Value.ownBlock]; omega)]; assumption))
        ((refine step_append_lies _ (by rfl) _ _ _ (by rfl) w.heap.size 5 i0 _ 1 1 Try.underlying22 hi hz0 hz1 hz2 rfl (by omega) _ (2 * k) _ (by rfl) ((hown.alloc _).drew) ⟨wr.heap.size, 0, none⟩ 2 2 [.int .u8 (hx (x / 16)), .int .u8 (hx (x % 16))] (by rfl) (by rfl) (World.news_of_block (cs := #[.int .u8 (hx (x / 16)), .int .u8 (hx (x % 16))]) (t := 5) (fr := (0, 0)) (heap_alloc_new wr _)) (by simp [Value.oneCell']) (by omega) (by unfold maxLen; omega) (by omega) (by simp; omega) (wr.heap.size + 1) (by simp) ?_; intro gg cap1 w1 hown1 hgrow hat hltg))
      all_goals
        have hbel1 : Below w.heap.size w w1 := ((hbel.alloc hbs _).drew).grown hgrow (by simp; omega) (fun y h => by cases h; exact hg.1)
        have hown2 : w1.ownsRow w.heap.size 5 1 (.slice (some ⟨gg, 0, none⟩) (2 * (k + 1)) cap1) (2 * (k + 1)) ((hexk zs (k + 1)).map (Value.int .u8)) := by
          rw [HD.out, List.map_append]
          exact hown1
        clear hown1 hgrow hat hown hcell q0 q1 q2
        go_wp2
        go_roundw
        case rel => exact ⟨k + 1, gg, cap1, by omega, rfl, by go_num, hown2, hbel1⟩
        case measure => simp [intOf]; omega
    · have e : k = n := by omega
      subst e
      have hconv := own_conv (hexk_len zs k) hown
      go_wp2
      go_ret
      exact ⟨rfl, hbel⟩

end Go.Proofs.Ytnifmkhijebamaa
