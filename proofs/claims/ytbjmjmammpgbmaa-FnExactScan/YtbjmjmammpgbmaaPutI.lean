/-
  PutNum, the program's.
-/
import Derived.Test.YtbjmjmammpgbmaaPutY
import Derived.Test.YtbjmjmammpgbmaaPlain
namespace Go.Proofs.Ytbjmjmammpgbmaa
open Go.RowKit
set_option linter.unusedVariables false

theorem pw_two : ∀ j : Nat, pw j = 2 ^ (8 * j)
  | 0 => by simp [pw]
  | j + 1 => by
    have e : 8 * (j + 1) = 8 * j + 8 := by omega
    rw [pw, pw_two j, e, Int.pow_add]
    rfl

theorem sh_pw (S : Nat) (h1 : 1 ≤ S) (h4 : S ≤ 4) : wrap64 (2 ^ (8 * S)) = pw S := by
  match S, h1, h4 with
  | 1, _, _ => simp [wrap64, pw]
  | 2, _, _ => simp [wrap64, pw]
  | 3, _, _ => simp [wrap64, pw]
  | 4, _, _ => simp [wrap64, pw]

set_option maxHeartbeats 1000000 in
theorem implPut_no (a : Option Addr) (n cap : Nat) (N s : Int) (w : World) (hn : n ≤ 2097152) (hN : -9223372036854775808 ≤ N ∧ N ≤ 9223372036854775807) (hs : -9223372036854775808 ≤ s ∧ s ≤ 9223372036854775807) (h : ¬ pok n N s) :
    Calls Try.prog 30 #[.slice a n cap, .int .i64 N, .int .i64 s] w fun e w' => e = .returned (.tuple #[.slice none 0 0, .bool false]) ∧ w' = w := by
  unfold pok at h
  by_cases h1 : s < 1
  · clear h
    go_enter Try.func30, Try.ntmps30
    go_wp2
    go_ret2
    exact ⟨rfl, rfl⟩
  by_cases h2 : 4 < s
  · clear h
    go_enter Try.func30, Try.ntmps30
    go_wp2
    go_ret2
    exact ⟨rfl, rfl⟩
  by_cases h3 : N < 0
  · clear h
    go_enter Try.func30, Try.ntmps30
    go_wp2
    go_ret2
    exact ⟨rfl, rfl⟩
  obtain ⟨S, rfl⟩ := Int.eq_ofNat_of_zero_le (show 0 ≤ s by omega)
  have e : ((S : Int)).toNat = S := by omega
  rw [e] at h
  have hsh := sh_pw S (by omega) (by omega)
  by_cases h4 : pw S ≤ N
  · clear h
    go_enter Try.func30, Try.ntmps30
    go_wp2
    go_ret2
    exact ⟨rfl, rfl⟩
  have h5 : (65536 : Int) - S < n := by omega
  have h4' : N < pw S := by omega
  clear h
  go_enter Try.func30, Try.ntmps30
  go_wp2
  go_ret2
  exact ⟨rfl, rfl⟩

set_option maxHeartbeats 1000000 in
theorem implPut_yes (b off n cap : Nat) (zs : List Int) (N : Int) (S : Nat) (w : World) (hl : Hid (zs.length = n)) (hb : b < w.heap.size) (hc : ∀ i, i < n → w.cell? ⟨b, off + i, none⟩ = some (.int .u8 (zs[i]?.getD 0)))
    (hs1 : 1 ≤ S) (hs4 : S ≤ 4) (hN : 0 ≤ N) (hNp : N < pw S) (hn : n + S ≤ 65536) :
    Calls Try.prog 30 #[.slice (some ⟨b, off, none⟩) n cap, .int .i64 N, .int .i64 S] w fun e w' => ∃ v, e = .returned (.tuple #[v, .bool true]) ∧
      w'.ownsRow w.heap.size 5 1 v (n + S) ((zs ++ pdig N S S).map (Value.int .u8)) ∧ Below w.heap.size w w' := by
  obtain ⟨i0, hi, hz0, hz1, hz2⟩ := info_parts Try.infoB
  have hNb : N < 4294967296 := by
    match S, hs1, hs4, hNp with
    | 1, _, _, h => simp [pw] at h; omega
    | 2, _, _, h => simp [pw] at h; omega
    | 3, _, _, h => simp [pw] at h; omega
    | 4, _, _, h => simp [pw] at h; omega
  have hsh := sh_pw S (by omega) (by omega)
  go_enter Try.func30, Try.ntmps30
  go_wp2_with (first | (at_make; refine wpList_make_own _ rfl _ _ 22 rfl w.heap.size 5 i0 (.int .u8 0) 1 Try.underlying22 hi hz0 hz1 _ _ _ (n + S) rfl rfl ?b1 ?b2 ?b3 (Nat.le_refl _) ?_) | go_in)
  case b1 => omega
  case b2 => rw [hz2]; omega
  case b3 => unfold maxLen; omega
  intro w0 hown0 hgrow0
  have hbel0 : Below w.heap.size w w0 := (Below.refl _ _).grown hgrow0 (Nat.le_refl _) (fun k h => by cases h)
  have hbs0 := hbel0.size
  clear hgrow0
  go_wp2_with (at_builtin; refine wpList_append_own _ rfl _ _ 22 rfl w.heap.size 5 i0 (.int .u8 0) 1 1 Try.underlying22 hi hz0 hz1 hz2 rfl (by decide) _ _ _ rfl hown0 ⟨b, off, none⟩ n _ (zs.map (Value.int .u8)) rfl ?c0 ?c1 ?c2 ?c3 ?c4 ?c5 ?_)
  case c0 => simp; exact hl.out
  case c1 =>
    refine src_cells hl.out fun i h => ?_
    exact (hbel0.cell (p := ⟨b, off + i, none⟩) hb).trans (hc i h)
  case c2 => exact ints_oneCell _ _
  case c3 => unfold maxLen; omega
  case c4 => omega
  case c5 => omega
  intro v1 w1 hown1 hgrow1 _
  have hbel1 : Below w.heap.size w w1 := hbel0.grown hgrow1 hbs0 (fun k h => by simp [Value.ownBlock] at h; omega)
  clear hgrow1 hown0 hc hb hbel0 hbs0
  go_wp2
  go_loopw [8, 40] (fun v i wr => ∃ k : Nat, k ≤ S ∧ i = .int .i64 k ∧ wr.ownsRow w.heap.size 5 1 v (n + k) ((zs ++ pdig N S k).map (Value.int .u8)) ∧ Below w.heap.size w wr)
    (fun _ i _ => S - (intOf i).toNat)
  case atStart => exact ⟨0, Nat.zero_le _, rfl, by simpa [pdig] using hown1, hbel1⟩
  case round =>
    obtain ⟨k, hk, rfl, hown, hbel⟩ := hrel
    by_cases hlt : k < S
    · have hbs := hbel.size
      have HD : Hid (pdig N S (k + 1) = pdig N S k ++ [N / 2 ^ (8 * (S - 1 - k)) % 256]) := by
        show pdig N S (k + 1) = _
        rw [pdig_succ, pw_two]
      go_wp2_with (at_builtin; refine wpList_append_own _ rfl _ _ 22 rfl w.heap.size 5 i0 (.int .u8 0) 1 1 Try.underlying22 hi hz0 hz1 hz2 rfl (by decide) _ _ _ rfl (hown.alloc _) ⟨_, 0, none⟩ 1 _ [.int .u8 (N / 2 ^ (8 * (S - 1 - k)) % 256)] rfl rfl ?c1 ?c2 ?c3 ?c4 ?c5 ?_)
      case c1 => exact cell_one_new _ _ _
      case c2 => intro u hu; simp at hu; subst hu; rfl
      case c3 => unfold maxLen; omega
      case c4 => omega
      case c5 => simp; omega
      intro v3 w3 hown3 hgrow3 _
      have hlt3 := hown.lt
      have hbel3 : Below w.heap.size w w3 := (hbel.alloc hbs _).grown hgrow3 (by simp; omega) (fun x h => (hlt3 x h).1)
      have hown4 : w3.ownsRow w.heap.size 5 1 v3 (n + (k + 1)) ((zs ++ pdig N S (k + 1)).map (Value.int .u8)) := by
        rw [HD.out]
        simpa [Nat.add_assoc] using hown3
      clear hown3 hgrow3 hlt3 hown
      go_wp2
      go_roundw
      case rel => exact ⟨k + 1, by omega, by go_num, hown4, hbel3⟩
      case measure => simp [intOf]; omega
    · have e : k = S := by omega
      subst e
      go_wp2
      go_ret2
      exact ⟨_, rfl, hown, hbel⟩

end Go.Proofs.Ytbjmjmammpgbmaa
