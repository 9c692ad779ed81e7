/-
  PutNum, the model's and the program's, where it says yes: of a slice that may be nil.
-/
import Derived.Test.YtbjmjmammpgbmaaPutI
import Derived.Test.YtbjmjmammpgbmaaPutY
import Derived.Test.YtbjmjmammpgbmaaAppS
namespace Go.Proofs.Ytbjmjmammpgbmaa
open Go.RowKit
set_option linter.unusedVariables false

set_option maxHeartbeats 1000000 in
theorem specPut_src (a : Option Addr) (n cap : Nat) (zs : List Int) (N : Int) (S : Nat) (w : World) (hl : Hid (zs.length = n)) (hc : Src w (.slice a n cap) n (zs.map (Value.int .u8)))
    (hs1 : 1 ≤ S) (hs4 : S ≤ 4) (hN : 0 ≤ N) (hNp : N < pw S) (hn : n + S ≤ 65536) :
    Calls Try.prog 49 #[.slice a n cap, .int .i64 N, .int .i64 S] w fun e w' => ∃ v, e = .returned (.tuple #[v, .bool true]) ∧
      w'.ownsRow w.heap.size 5 1 v (n + S) ((zs ++ pdig N S S).map (Value.int .u8)) ∧ Below w.heap.size w w' := by
  obtain ⟨i0, hi, hz0, hz1, hz2⟩ := info_parts Try.infoB
  have hNb : N < 4294967296 := by
    match S, hs1, hs4, hNp with
    | 1, _, _, h => simp [pw] at h; omega
    | 2, _, _, h => simp [pw] at h; omega
    | 3, _, _, h => simp [pw] at h; omega
    | 4, _, _, h => simp [pw] at h; omega
  have hm0 : (0 : Nat) ≤ maxLen := Nat.zero_le _
  have hown00 := World.ownsRow_lit (base := w.heap.size) (e := 5) (size := 1) w #[] 0 (Nat.le_refl _) hm0 rfl
  go_enter Try.func49, Try.ntmps49
  go_wp2_with fail
  refine (pow_any S _ (by omega)).mono ?_
  rintro e w' ⟨rfl, rfl⟩
  go_wp2_with (at_builtin; refine wpList_append_src rfl _ _ 22 rfl w'.heap.size 5 i0 (.int .u8 0) 1 1 Try.underlying22 hi hz0 hz1 hz2 rfl (by decide) _ _ _ rfl hown00 (.slice a n cap) n (zs.map (Value.int .u8)) rfl ?c0 ?c1 ?c2 ?c3 ?c4 ?c5 ?_)
  case c0 => simp; exact hl.out
  case c1 => exact src_later hc ((Below.refl _ _).alloc (Nat.le_refl _) _)
  case c2 => exact ints_oneCell _ _
  case c3 => unfold maxLen; omega
  case c4 => omega
  case c5 => simp
  intro v0 w1 hown1 hgrow1
  have hbel1 : Below w'.heap.size w' w1 := ((Below.refl _ _).alloc (Nat.le_refl _) _).grown hgrow1 (by simp) (fun k h => by simp [Value.ownBlock] at h; omega)
  clear hgrow1 hown00 hc
  go_wp2
  go_loopw [8, 9] (fun v i wr => ∃ j k : Nat, j + k = S ∧ i = .int .i64 ((j : Int) - 1) ∧ wr.ownsRow w'.heap.size 5 1 v (n + k) ((zs ++ pdig N S k).map (Value.int .u8)) ∧ Below w'.heap.size w' wr)
    (fun _ i _ => (intOf i + 1).toNat)
  case atStart => exact ⟨S, 0, rfl, rfl, by simpa [pdig] using hown1, hbel1⟩
  case round =>
    obtain ⟨j, k, hjk, rfl, hown, hbel⟩ := hrel
    match j, hjk with
    | 0, hjk =>
      have e : k = S := by omega
      subst e
      go_wp2
      go_ret2
      exact ⟨_, rfl, hown, hbel⟩
    | j + 1, hjk =>
      have e1 : (((j + 1 : Nat) : Int) - 1) = (j : Int) := by omega
      rw [e1]
      have hj0 : (0 : Int) ≤ (j : Int) := by omega
      have hp1 := pw_pos j
      have hp2 := pw_le j (by omega)
      have eS : S - 1 - k = j := by omega
      have hq0 : 0 ≤ N / pw j := Int.ediv_nonneg hN (by omega)
      have hq1 : N / pw j ≤ N := Int.ediv_le_self _ hN
      have hdig := pdig_succ N S k
      rw [eS] at hdig
      have HD : Hid (pdig N S (k + 1) = pdig N S k ++ [N / pw j % 256]) := hdig
      have hbs := hbel.size
      clear hdig eS e1
      go_wp2_with fail
      refine (pow_any j _ (by omega)).mono ?_
      rintro e w2 ⟨rfl, rfl⟩
      go_wp2_with (at_builtin; refine wpList_append_own _ rfl _ _ 22 rfl w'.heap.size 5 i0 (.int .u8 0) 1 1 Try.underlying22 hi hz0 hz1 hz2 rfl (by decide) _ _ _ rfl (hown.alloc _) ⟨_, 0, none⟩ 1 _ [.int .u8 (N / pw j % 256)] rfl rfl ?c1 ?c2 ?c3 ?c4 ?c5 ?_)
      case c1 => exact cell_one_new _ _ _
      case c2 => intro u hu; simp at hu; subst hu; rfl
      case c3 => unfold maxLen; omega
      case c4 => omega
      case c5 => simp; omega
      intro v3 w3 hown3 hgrow3 _
      have hlt3 := hown.lt
      have hbel3 : Below w'.heap.size w' w3 := (hbel.alloc hbs _).grown hgrow3 (by simp; omega) (fun x h => (hlt3 x h).1)
      have hown4 : w3.ownsRow w'.heap.size 5 1 v3 (n + (k + 1)) ((zs ++ pdig N S (k + 1)).map (Value.int .u8)) := by
        rw [HD.out]
        simpa [Nat.add_assoc] using hown3
      clear hown3 hgrow3 hlt3 hown
      go_wp2
      go_roundw
      case rel => exact ⟨j, k + 1, by omega, by go_num, hown4, hbel3⟩
      case measure => simp [intOf]

set_option maxHeartbeats 1000000 in
theorem implPut_src (a : Option Addr) (n cap : Nat) (zs : List Int) (N : Int) (S : Nat) (w : World) (hl : Hid (zs.length = n)) (hc : Src w (.slice a n cap) n (zs.map (Value.int .u8)))
    (hs1 : 1 ≤ S) (hs4 : S ≤ 4) (hN : 0 ≤ N) (hNp : N < pw S) (hn : n + S ≤ 65536) :
    Calls Try.prog 30 #[.slice a n cap, .int .i64 N, .int .i64 S] w fun e w' => ∃ v, e = .returned (.tuple #[v, .bool true]) ∧
      w'.ownsRow w.heap.size 5 1 v (n + S) ((zs ++ pdig N S S).map (Value.int .u8)) ∧ Below w.heap.size w w' := by
  obtain ⟨i0, hi, hz0, hz1, hz2⟩ := info_parts Try.infoB
  have hNb : N < 4294967296 := by
    match S, hs1, hs4, hNp with
    | 1, _, _, h => simp [pw] at h; omega
    | 2, _, _, h => simp [pw] at h; omega
    | 3, _, _, h => simp [pw] at h; omega
    | 4, _, _, h => simp [pw] at h; omega
  have hsh := sh_pw S (by omega) (by omega)
  go_enter Try.func30, Try.ntmps30
  go_wp2_with (first | (at_make; refine wpList_make_own _ rfl _ _ 22 rfl w.heap.size 5 i0 (.int .u8 0) 1 Try.underlying22 hi hz0 hz1 _ _ _ (n + S) rfl rfl ?b1 ?b2 ?b3 (Nat.le_refl _) ?_) | go_in)
  case b1 => omega
  case b2 => rw [hz2]; omega
  case b3 => unfold maxLen; omega
  intro w0 hown0 hgrow0
  have hbel0 : Below w.heap.size w w0 := (Below.refl _ _).grown hgrow0 (Nat.le_refl _) (fun k h => by cases h)
  have hbs0 := hbel0.size
  clear hgrow0
  go_wp2_with (at_builtin; refine wpList_append_src rfl _ _ 22 rfl w.heap.size 5 i0 (.int .u8 0) 1 1 Try.underlying22 hi hz0 hz1 hz2 rfl (by decide) _ _ _ rfl hown0 (.slice a n cap) n (zs.map (Value.int .u8)) rfl ?c0 ?c1 ?c2 ?c3 ?c4 ?c5 ?_)
  case c0 => simp; exact hl.out
  case c1 => exact src_later hc hbel0
  case c2 => exact ints_oneCell _ _
  case c3 => unfold maxLen; omega
  case c4 => omega
  case c5 => omega
  intro v1 w1 hown1 hgrow1
  have hbel1 : Below w.heap.size w w1 := hbel0.grown hgrow1 hbs0 (fun k h => by simp [Value.ownBlock] at h; omega)
  clear hgrow1 hown0 hc hbel0 hbs0
  go_wp2
  go_loopw [8, 40] (fun v i wr => ∃ k : Nat, k ≤ S ∧ i = .int .i64 k ∧ wr.ownsRow w.heap.size 5 1 v (n + k) ((zs ++ pdig N S k).map (Value.int .u8)) ∧ Below w.heap.size w wr)
    (fun _ i _ => S - (intOf i).toNat)
  case atStart => exact ⟨0, Nat.zero_le _, rfl, by simpa [pdig] using hown1, hbel1⟩
  case round =>
    obtain ⟨k, hk, rfl, hown, hbel⟩ := hrel
    by_cases hlt : k < S
    · have hbs := hbel.size
      have HD : Hid (pdig N S (k + 1) = pdig N S k ++ [N / 2 ^ (8 * (S - 1 - k)) % 256]) := by
        show pdig N S (k + 1) = _
        rw [pdig_succ, pw_two]
      go_wp2_with (at_builtin; refine wpList_append_own _ rfl _ _ 22 rfl w.heap.size 5 i0 (.int .u8 0) 1 1 Try.underlying22 hi hz0 hz1 hz2 rfl (by decide) _ _ _ rfl (hown.alloc _) ⟨_, 0, none⟩ 1 _ [.int .u8 (N / 2 ^ (8 * (S - 1 - k)) % 256)] rfl rfl ?c1 ?c2 ?c3 ?c4 ?c5 ?_)
      case c1 => exact cell_one_new _ _ _
      case c2 => intro u hu; simp at hu; subst hu; rfl
      case c3 => unfold maxLen; omega
      case c4 => omega
      case c5 => simp; omega
      intro v3 w3 hown3 hgrow3 _
      have hlt3 := hown.lt
      have hbel3 : Below w.heap.size w w3 := (hbel.alloc hbs _).grown hgrow3 (by simp; omega) (fun x h => (hlt3 x h).1)
      have hown4 : w3.ownsRow w.heap.size 5 1 v3 (n + (k + 1)) ((zs ++ pdig N S (k + 1)).map (Value.int .u8)) := by
        rw [HD.out]
        simpa [Nat.add_assoc] using hown3
      clear hown3 hgrow3 hlt3 hown
      go_wp2
      go_roundw
      case rel => exact ⟨k + 1, by omega, by go_num, hown4, hbel3⟩
      case measure => simp [intOf]; omega
    · have e : k = S := by omega
      subst e
      go_wp2
      go_ret2
      exact ⟨_, rfl, hown, hbel⟩

end Go.Proofs.Ytbjmjmammpgbmaa
