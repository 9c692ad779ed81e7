/-
  HexOf, the model's: two digits a byte.
-/
import Derived.Test.YtmikibekioekmalKeep
import Derived.Test.YtmikibekioekmalPlain
import Derived.Laws.BytesArg
import Derived.Deep.RegionHeld3
import Derived.Deep.AppendLies
namespace Go.Proofs.Ytmikibekioekmal
open Go.RowKit
set_option linter.unusedVariables false

def hx (d : Int) : Int := if d < 10 then 48 + d else 87 + d

def hexk (zs : List Int) : Nat → List Int
  | 0 => []
  | k + 1 => hexk zs k ++ [hx (zs[k]?.getD 0 / 16), hx (zs[k]?.getD 0 % 16)]

theorem hexk_len (zs : List Int) : ∀ k, (hexk zs k).length = 2 * k
  | 0 => rfl
  | k + 1 => by simp [hexk, hexk_len zs k]; omega

theorem hx_bd (d : Int) (h0 : 0 ≤ d) (h1 : d ≤ 15) : 48 ≤ hx d ∧ hx d ≤ 102 := by unfold hx; split <;> omega

set_option maxHeartbeats 400000 in
theorem digit_any (d : Int) (w : World) (h0 : 0 ≤ d) (h1 : d ≤ 15) :
    Calls Try.prog 13 #[.int .i64 d] w fun e w' => e = .returned (.int .u8 (hx d)) ∧ w' = w := by
  by_cases h : d < 10
  · have e : hx d = 48 + d := by simp [hx, h]
    rw [e]
    go_enter Try.func13, Try.ntmps13
    go_wp2
    go_ret
    exact ⟨rfl, rfl⟩
  · have e : hx d = 97 + d - 10 := by simp [hx, h]; omega
    rw [e]
    go_enter Try.func13, Try.ntmps13
    go_wp2
    go_ret
    exact ⟨rfl, rfl⟩

theorem own_conv {w : World} {base g n cap : Nat} {zs : List Int} (hl : zs.length = n) (h : w.ownsRow base 5 1 (.slice (some ⟨g, 0, none⟩) n cap) n (zs.map (Value.int .u8))) :
    (convert 22 9 (.slice (some ⟨g, 0, none⟩) n cap)).run Try.prog w = .ok (.string (strOfNums zs)) w := by
  refine run_convert_bytes_arg (P := Try.prog) w 22 5 Try.underlying22 Try.underlying5 g 0 n cap zs hl ?_ 9 Try.underlying9
  intro i hi
  rw [Nat.zero_add, h.cellAt i (by omega)]
  have : i < zs.length := by omega
  simp [this]

set_option maxRecDepth 100000 in
set_option maxHeartbeats 1000000 in
theorem specHex_any (a : Option Addr) (n cap : Nat) (zs : List Int) (w : World) (hl : Hid (zs.length = n)) (hr : Rd w a zs) (hn : n ≤ 2097152) :
    Calls Try.prog 5 #[.slice a n cap] w fun e w' => e = .returned (.string (strOfNums (hexk zs n))) ∧ Below w.heap.size w w' := by
  obtain ⟨i0, hi, hz0, hz1, hz2⟩ := info_parts Try.infoB
  have hz := hr.1
  have hown0 := World.ownsRow_lit (base := w.heap.size) (e := 5) (size := 1) w #[] 0 (Nat.le_refl _) (Nat.zero_le _) rfl
  go_enter Try.func5, Try.ntmps5
  go_wp2
  go_loopw [3, 4] (fun v i wr => ∃ k g c : Nat, k ≤ n ∧ v = .slice (some ⟨g, 0, none⟩) (2 * k) c ∧ i = .int .i64 k ∧ wr.ownsRow w.heap.size 5 1 (.slice (some ⟨g, 0, none⟩) (2 * k) c) (2 * k) ((hexk zs k).map (Value.int .u8)) ∧ Below w.heap.size w wr)
    (fun _ i _ => n - (intOf i).toNat)
  case atStart => exact ⟨0, _, 0, Nat.zero_le _, rfl, rfl, hown0, (Below.refl _ _).alloc (Nat.le_refl _) _⟩
  case round =>
    obtain ⟨k, g, c, hk, rfl, rfl, hown, hbel⟩ := hrel
    by_cases hlt : k < n
    · have hne : zs ≠ [] := by intro h; have := hl.out; subst h; simp at this; omega
      obtain ⟨b, off, rfl, hb, hc⟩ := hr.2.resolve_left hne
      obtain ⟨x, hx0⟩ : ∃ x, x = zs[k]?.getD 0 := ⟨_, rfl⟩
      have hxb := hz k
      have hcell : wr.cell? ⟨b, off + k, none⟩ = some (.int .u8 x) := by rw [hx0]; exact (hbel.cell (p := ⟨b, off + k, none⟩) hb).trans (hc k (by have := hl.out; omega))
      have HD : Hid (hexk zs (k + 1) = hexk zs k ++ [hx (x / 16), hx (x % 16)]) := by show hexk zs (k + 1) = _; rw [hexk, hx0]
      rw [← hx0] at hxb
      have hbs := hbel.size
      have hg := hown.lt g rfl
      have hi0 : (0 : Int) ≤ (k : Int) := Int.natCast_nonneg _
      have hi1 : (k : Int) < (n : Int) := by omega
      have hgb : g ≠ b := by omega
      have q1 : IntKind.i64.wrap x = x := wrap_i64_in _ (by omega) (by omega)
      have q2 : x.tdiv 16 = x / 16 := Int.tdiv_eq_ediv_of_nonneg (by omega)
      have q3 : x.tmod 16 = x % 16 := Int.tmod_eq_emod_of_nonneg (by omega)
      have q4 : IntKind.i64.wrap (x / 16) = x / 16 := wrap_i64_in _ (by omega) (by omega)
      have q5 : IntKind.i64.wrap (x % 16) = x % 16 := wrap_i64_in _ (by omega) (by omega)
      clear hx0 hz hc hne hr hown0
      go_wp2_with fail
      go_region_held3 (fun w' => w'.cell? ⟨b, off + k, none⟩ = some (.int .u8 x))
        (first | go_keep | (rw [hgrow.cell_far _ (by simp; omega) (by simp [Value.ownBlock]; omega)]; assumption))
        (first | (go_at_call 13; refine (digit_any _ _ ?_ ?_).mono ?_; omega; omega; rintro e w' ⟨rfl, rfl⟩) | ((refine step_append_lies _ (by rfl) _ _ _ (by rfl) w.heap.size 5 i0 _ 1 1 Try.underlying22 hi hz0 hz1 hz2 rfl (by omega) _ (2 * k) _ (by rfl) ((hown.alloc _).drew) ⟨wr.heap.size, 0, none⟩ 2 2 [.int .u8 (hx (x / 16)), .int .u8 (hx (x % 16))] (by rfl) (by rfl) (World.news_of_block (cs := #[.int .u8 (hx (x / 16)), .int .u8 (hx (x % 16))]) (t := 5) (fr := (0, 0)) (heap_alloc_new wr _)) (by simp [Value.oneCell']) (by omega) (by unfold maxLen; omega) (by omega) (by simp; omega) (wr.heap.size + 1) (by simp) ?_; intro gg cap1 w1 hown1 hgrow hat hltg)))
      have hbel1 : Below w.heap.size w w1 := ((hbel.alloc hbs _).drew).grown hgrow (by simp; omega) (fun y h => by cases h; exact hg.1)
      have hown2 : w1.ownsRow w.heap.size 5 1 (.slice (some ⟨gg, 0, none⟩) (2 * (k + 1)) cap1) (2 * (k + 1)) ((hexk zs (k + 1)).map (Value.int .u8)) := by
        rw [HD.out, List.map_append]
        exact hown1
      clear hown1 hgrow hat hown hcell
      go_wp2
      go_roundw
      case rel => exact ⟨k + 1, gg, cap1, by omega, rfl, by go_num, hown2, hbel1⟩
      case measure => simp [intOf]; omega
    · have e : k = n := by omega
      subst e
      have hconv := own_conv (hexk_len zs k) hown
      go_wp2
      go_ret
      exact ⟨rfl, hbel⟩

end Go.Proofs.Ytmikibekioekmal
