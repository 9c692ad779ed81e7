/-
  How long a beginning two lists of bytes share; what the model and the program answer of it; TearSteps of both.
-/
import Derived.Test.YtkaegbhmeonjfaaGreatJ0FnExactDiskCrash
namespace Go.Proofs.YtkaegbhmeonjfaaGreat
open Go.RowKit
set_option linter.unusedVariables false
set_option maxRecDepth 100000

/-- The length of the longest beginning that both have. -/
def share : List Int → List Int → Nat
  | x :: xs, y :: ys => if x = y then share xs ys + 1 else 0
  | _, _ => 0

theorem share_le : ∀ xs ys : List Int, share xs ys ≤ xs.length ∧ share xs ys ≤ ys.length
  | [], ys => by simp [share]
  | x :: xs, [] => by simp [share]
  | x :: xs, y :: ys => by
    have := share_le xs ys
    by_cases h : x = y
    · simp [share, h]; omega
    · simp [share, h]

theorem share_eq : ∀ (xs ys : List Int) (k : Nat), k < share xs ys → xs[k]?.getD 0 = ys[k]?.getD 0
  | [], ys, k, h => by simp [share] at h
  | x :: xs, [], k, h => by simp [share] at h
  | x :: xs, y :: ys, k, h => by
    by_cases e : x = y
    · subst e
      cases k with
      | zero => simp
      | succ k =>
        simp [share] at h
        simpa using share_eq xs ys k h
    · simp [share, e] at h

theorem share_ne : ∀ xs ys : List Int, share xs ys < xs.length → share xs ys < ys.length → xs[share xs ys]?.getD 0 ≠ ys[share xs ys]?.getD 0
  | [], ys, h, _ => by simp at h
  | x :: xs, [], _, h => by simp at h
  | x :: xs, y :: ys, h1, h2 => by
    by_cases e : x = y
    · subst e
      simp [share] at h1 h2 ⊢
      exact share_ne xs ys h1 h2
    · simp [share, e]

theorem rd_cell {w : World} {a : Option Addr} {zs : List Int} {n k : Nat} (h : Rd w a zs) (hl : zs.length = n) (hk : k < n) : ∃ b off, a = some ⟨b, off, none⟩ ∧ b < w.heap.size ∧ w.cell? ⟨b, off + k, none⟩ = some (.int .u8 (zs[k]?.getD 0)) := by
  rcases h.2 with h | ⟨b, off, h1, h2, h3⟩
  · subst h; simp at hl; omega
  · exact ⟨b, off, h1, h2, h3 k (by omega)⟩

set_option maxHeartbeats 1000000 in
theorem specShare_any (a b : Option Addr) (n m ca cb : Nat) (xs ys : List Int) (w : World) (hl : Hid (xs.length = n)) (hm : Hid (ys.length = m)) (hra : Rd w a xs) (hrb : Rd w b ys) (hn : n ≤ 2097152) (hmm : m ≤ 2097152) :
    Calls Tryz.prog 80 #[.slice a n ca, .slice b m cb] w fun e w' => e = .returned (.int .i64 (share xs ys)) ∧ ∃ q, w' = w.drewN q := by
  obtain ⟨S, hS⟩ : ∃ S, S = share xs ys := ⟨_, rfl⟩
  have h1 : S ≤ n := by have := (share_le xs ys).1; have := hl.out; omega
  have h2 : S ≤ m := by have := (share_le xs ys).2; have := hm.out; omega
  have HEq : Hid (∀ k, k < S → xs[k]?.getD 0 = ys[k]?.getD 0) := fun k h => share_eq xs ys k (by omega)
  have HNe : Hid (S < n → S < m → xs[S]?.getD 0 ≠ ys[S]?.getD 0) := fun h1 h2 => by rw [hS]; exact share_ne xs ys (by have := hl.out; omega) (by have := hm.out; omega)
  rw [← hS]
  clear hS
  go_enter Tryz.func80, Tryz.ntmps80
  go_wp2
  go_loopw [5] (fun i wr => ∃ k : Nat, k ≤ S ∧ i = .int .i64 k ∧ ∃ q, wr = w.drewN q) (fun i _ => n - (intOf i).toNat)
  case atStart => exact ⟨0, Nat.zero_le _, rfl, 0, rfl⟩
  case round =>
    obtain ⟨k, hk, rfl, q, rfl⟩ := hrel
    by_cases hlt : k < S
    · obtain ⟨b1, o1, rfl, hb1, g1⟩ := rd_cell hra hl.out (show k < n by omega)
      obtain ⟨b2, o2, rfl, hb2, g2⟩ := rd_cell hrb hm.out (show k < m by omega)
      have hlt1 : (k : Int) < (n : Int) := by omega
      have hlt2 : (k : Int) < (m : Int) := by omega
      have he := HEq.out k hlt
      rw [← he] at g2
      have hbe : (xs[k]?.getD 0 == xs[k]?.getD 0) = true := by simp
      clear hra hrb he
      go_wp2
      go_quiet (fail)
      go_wp2
      go_roundw
      case rel => exact ⟨k + 1, by omega, by go_num, _, rfl⟩
      case measure => simp [intOf]; omega
    · have e : k = S := by omega
      subst e
      by_cases hk1 : k < n
      · have hlt1 : (k : Int) < (n : Int) := by omega
        by_cases hk2 : k < m
        · obtain ⟨b1, o1, rfl, hb1, g1⟩ := rd_cell hra hl.out hk1
          obtain ⟨b2, o2, rfl, hb2, g2⟩ := rd_cell hrb hm.out hk2
          have hlt2 : (k : Int) < (m : Int) := by omega
          have hbe : (xs[k]?.getD 0 == ys[k]?.getD 0) = false := by simpa using HNe.out hk1 hk2
          clear hra hrb
          go_wp2
          go_quiet (fail)
          go_wp2
          go_ret
          exact ⟨rfl, q + nq, by simp⟩
        · have hlt2 : decide ((k : Int) < (m : Int)) = false := by simp; omega
          go_wp2
          go_quiet (fail)
          go_wp2
          go_ret
          exact ⟨rfl, q + nq, by simp⟩
      · have hlt1 : decide ((k : Int) < (n : Int)) = false := by simp; omega
        go_wp2
        go_quiet (fail)
        go_wp2
        go_ret
        exact ⟨rfl, q + nq, by simp⟩

set_option maxHeartbeats 1000000 in
theorem implShare_any (a b : Option Addr) (n m ca cb : Nat) (xs ys : List Int) (w : World) (hl : Hid (xs.length = n)) (hm : Hid (ys.length = m)) (hra : Rd w a xs) (hrb : Rd w b ys) (hn : n ≤ 2097152) (hmm : m ≤ 2097152) :
    Calls Tryz.prog 127 #[.slice a n ca, .slice b m cb] w fun e w' => e = .returned (.int .i64 (share xs ys)) ∧ ∃ q, w' = w.drewN q := by
  obtain ⟨S, hS⟩ : ∃ S, S = share xs ys := ⟨_, rfl⟩
  have h1 : S ≤ n := by have := (share_le xs ys).1; have := hl.out; omega
  have h2 : S ≤ m := by have := (share_le xs ys).2; have := hm.out; omega
  have HEq : Hid (∀ k, k < S → xs[k]?.getD 0 = ys[k]?.getD 0) := fun k h => share_eq xs ys k (by omega)
  have HNe : Hid (S < n → S < m → xs[S]?.getD 0 ≠ ys[S]?.getD 0) := fun h1 h2 => by rw [hS]; exact share_ne xs ys (by have := hl.out; omega) (by have := hm.out; omega)
  rw [← hS]
  clear hS
  obtain ⟨M, hM⟩ : ∃ M : Nat, M = min n m := ⟨_, rfl⟩
  have HM : Hid (M = min n m) := hM
  have hmn : (if m < n then (m : Int) else (n : Int)) = (M : Int) := by split <;> omega
  clear hM
  go_enter Tryz.func127, Tryz.ntmps127
  go_wp2
  go_loopw [5] (fun i wr => ∃ k : Nat, k ≤ S ∧ i = .int .i64 k ∧ ∃ q, wr = w.drewN q) (fun i _ => n - (intOf i).toNat)
  case atStart => exact ⟨0, Nat.zero_le _, rfl, 0, rfl⟩
  case round =>
    obtain ⟨k, hk, rfl, q, rfl⟩ := hrel
    by_cases hlt : k < S
    · obtain ⟨b1, o1, rfl, hb1, g1⟩ := rd_cell hra hl.out (show k < n by omega)
      obtain ⟨b2, o2, rfl, hb2, g2⟩ := rd_cell hrb hm.out (show k < m by omega)
      have hlt1 : (k : Int) < (M : Int) := by have := HM.out; omega
      have he := HEq.out k hlt
      rw [← he] at g2
      have hbe : (xs[k]?.getD 0 == xs[k]?.getD 0) = true := by simp
      clear hra hrb he
      go_wp2
      go_quiet (fail)
      go_wp2
      go_roundw
      case rel => exact ⟨k + 1, by omega, by go_num, _, rfl⟩
      case measure => simp [intOf]; omega
    · have e : k = S := by omega
      subst e
      by_cases hk1 : k < M
      · have hkn : k < n := by have := HM.out; omega
        have hkm : k < m := by have := HM.out; omega
        have hlt1 : (k : Int) < (M : Int) := by omega
        obtain ⟨b1, o1, rfl, hb1, g1⟩ := rd_cell hra hl.out hkn
        obtain ⟨b2, o2, rfl, hb2, g2⟩ := rd_cell hrb hm.out hkm
        have hbe : (xs[k]?.getD 0 == ys[k]?.getD 0) = false := by simpa using HNe.out hkn hkm
        clear hra hrb
        go_wp2
        go_quiet (fail)
        go_wp2
        go_ret
        exact ⟨rfl, q + nq, by simp⟩
      · have hlt1 : decide ((k : Int) < (M : Int)) = false := by simp; omega
        go_wp2
        go_quiet (fail)
        go_wp2
        go_ret
        exact ⟨rfl, q + nq, by simp⟩

/-- How many steps there are. -/
def tsteps (xs ys : List Int) : Nat := xs.length - share xs ys + (ys.length - share xs ys)

set_option maxHeartbeats 1000000 in
theorem specSteps_any (a b : Option Addr) (n m ca cb : Nat) (xs ys : List Int) (w : World) (hl : Hid (xs.length = n)) (hm : Hid (ys.length = m)) (hra : Rd w a xs) (hrb : Rd w b ys) (hn : n ≤ 2097152) (hmm : m ≤ 2097152) :
    Calls Tryz.prog 79 #[.slice a n ca, .slice b m cb] w fun e w' => e = .returned (.int .i64 (tsteps xs ys)) ∧ ∃ q, w' = w.drewN q := by
  have h1 : share xs ys ≤ n := by have := (share_le xs ys).1; have := hl.out; omega
  have h2 : share xs ys ≤ m := by have := (share_le xs ys).2; have := hm.out; omega
  have HT : Hid (((n : Int) - (share xs ys : Nat) + m - (share xs ys : Nat)) = (tsteps xs ys : Nat)) := by
    show ((n : Int) - (share xs ys : Nat) + m - (share xs ys : Nat)) = (tsteps xs ys : Nat)
    have := hl.out; have := hm.out; unfold tsteps; omega
  go_enter Tryz.func79, Tryz.ntmps79
  go_wp2_with fail
  refine (specShare_any a b n m _ _ xs ys _ hl hm hra hrb hn hmm).mono ?_
  rintro e w1 ⟨rfl, q, rfl⟩
  go_wp2
  go_ret
  exact ⟨congrArg (fun z => Ending.returned (Value.int .i64 z)) HT.out, q, rfl⟩

set_option maxHeartbeats 1000000 in
theorem implSteps_any (a b : Option Addr) (n m ca cb : Nat) (xs ys : List Int) (w : World) (hl : Hid (xs.length = n)) (hm : Hid (ys.length = m)) (hra : Rd w a xs) (hrb : Rd w b ys) (hn : n ≤ 2097152) (hmm : m ≤ 2097152) :
    Calls Tryz.prog 128 #[.slice a n ca, .slice b m cb] w fun e w' => e = .returned (.int .i64 (tsteps xs ys)) ∧ ∃ q, w' = w.drewN q := by
  have h1 : share xs ys ≤ n := by have := (share_le xs ys).1; have := hl.out; omega
  have h2 : share xs ys ≤ m := by have := (share_le xs ys).2; have := hm.out; omega
  have HT : Hid (((n : Int) - (share xs ys : Nat) + m - (share xs ys : Nat)) = (tsteps xs ys : Nat)) := by
    show ((n : Int) - (share xs ys : Nat) + m - (share xs ys : Nat)) = (tsteps xs ys : Nat)
    have := hl.out; have := hm.out; unfold tsteps; omega
  go_enter Tryz.func128, Tryz.ntmps128
  go_wp2_with fail
  refine (implShare_any a b n m _ _ xs ys _ hl hm hra hrb hn hmm).mono ?_
  rintro e w1 ⟨rfl, q, rfl⟩
  go_wp2
  go_ret
  exact ⟨congrArg (fun z => Ending.returned (Value.int .i64 z)) HT.out, q, rfl⟩

end Go.Proofs.YtkaegbhmeonjfaaGreat
