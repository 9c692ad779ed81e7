/-
  RuneRead, the program's: over the library's contract of utf8.DecodeRune.
-/
import Derived.Test.YtofbfbandipjoaaDoorRrd
import Derived.Test.YtofbfbandipjoaaDoorShelf
namespace Go.Proofs.YtofbfbandipjoaaDoor
open Go.RowKit
set_option linter.unusedVariables false

/-- The two tables of unicode/utf8 hold what their text lays. -/
def Tabs (w : World) : Prop := Lib.Utf8Tabs 0 1 w

theorem noRune_any (r n : Int) (w : World) :
    Calls Tryd.prog 29 #[.int .i32 r, .int .i64 n] w fun e w' => e = .returned (.bool (decide (r = 65533 ∧ n < 2))) ∧ w' = w := by
  by_cases h1 : r = 65533
  · subst h1
    by_cases h2 : n < 2
    · go_enter Tryd.func29, Tryd.ntmps29
      go_wp2
      go_ret
      exact ⟨by simp [h2], rfl⟩
    · go_enter Tryd.func29, Tryd.ntmps29
      go_wp2
      go_ret
      exact ⟨by simp; omega, rfl⟩
  · have h3 : (r == 65533) = false := by simpa using h1
    go_enter Tryd.func29, Tryd.ntmps29
    go_wp2
    go_ret
    exact ⟨by simp [h1], rfl⟩

theorem get_strOfNums (zs : List Int) (j : Nat) (hb : ∀ i, 0 ≤ bt zs i ∧ bt zs i ≤ 255) : ((strOfNums zs).get! j).toNat = (bt zs j).toNat := by
  have h0 := hb j
  by_cases h : j < zs.length
  · have h1 : j < (strOfNums zs).data.size := by simpa [strOfNums] using h
    simp only [ByteArray.get!, strOfNums, bt] at *
    simp [h] at *
    omega
  · have h1 : ¬ j < (strOfNums zs).data.size := by simpa [strOfNums] using h
    simp only [ByteArray.get!, strOfNums, bt] at *
    simp [h] at *
    rfl

theorem bt_sub (zs : List Int) (A j : Nat) : bt (zs.drop A) j = bt zs (A + j) := by simp [bt]

theorem decode_sub (zs : List Int) (A : Nat) (hA : A < zs.length) (hb : ∀ i, 0 ≤ bt zs i ∧ bt zs i ≤ 255) :
    Lib.decodeGo (strOfNums (zs.drop A)) = Lib.decodeN (zs.length - A) (bt zs A).toNat (bt zs (A + 1)).toNat (bt zs (A + 2)).toNat (bt zs (A + 3)).toNat := by
  have hb' : ∀ i, 0 ≤ bt (zs.drop A) i ∧ bt (zs.drop A) i ≤ 255 := fun i => by rw [bt_sub]; exact hb _
  unfold Lib.decodeGo
  rw [if_neg (by rw [strOfNums_size]; simp; omega), Lib.decode_at, get_strOfNums _ _ hb', get_strOfNums _ _ hb', get_strOfNums _ _ hb', get_strOfNums _ _ hb', strOfNums_size]
  simp [bt_sub]

set_option maxHeartbeats 1000000 in
theorem implRrd_in (b off n cap A : Nat) (zs : List Int) (w : World) (hT : Tabs w) (hl : Hid (zs.length = n)) (hb : Hid (∀ i, 0 ≤ bt zs i ∧ bt zs i ≤ 255)) (hlt : b < w.heap.size)
    (hc : Hid (∀ i, i < zs.length → w.cell? ⟨b, off + i, none⟩ = some (.int .u8 (zs[i]?.getD 0)))) (hn : n ≤ 2097152) (hcap : n ≤ cap) (hcm : cap ≤ maxLen) (hA : A < n) :
    Calls Tryd.prog 11 #[.slice (some ⟨b, off, none⟩) n cap, .int .i64 A] w fun e w' => e = .returned (.tuple #[.int .i64 (rrd zs A).1, .int .i64 (rrd zs A).2]) ∧ Below w.heap.size w w' := by
  unfold maxLen at hcm
  have a0 : (0 : Int) ≤ (A : Int) := by omega
  have a1 : (A : Int) < (n : Int) := by omega
  have a2 : A ≤ n := by omega
  have cD : Hid (Calls Tryd.prog 28 #[.slice (some ⟨b, off + A, none⟩) (n - A) (cap - A)] w fun e w' => e = .returned (.tuple #[.int .i32 (Lib.decodeGo (strOfNums (zs.drop A))).1, .int .i64 (Lib.decodeGo (strOfNums (zs.drop A))).2]) ∧ Below w.heap.size w w') := by
    have hs : (strOfNums (zs.drop A)).size = n - A := by rw [strOfNums_size, List.length_drop, hl.out]
    rw [← hs]
    refine Any7.utf8_DecodeRune Tryd.lays7_32 (strOfNums (zs.drop A)) b (off + A) (cap - A) w hT ?_
    intro j hj
    have hb' : ∀ i, 0 ≤ bt (zs.drop A) i ∧ bt (zs.drop A) i ≤ 255 := fun i => by rw [bt_sub]; exact hb.out _
    have hlj : A + j < zs.length := by rw [hs] at hj; have := hl.out; omega
    have e : off + A + j = off + (A + j) := by omega
    rw [e, hc.out (A + j) hlj, get_strOfNums _ _ hb', bt_sub]
    have h0 := hb.out (A + j)
    simp only [bt] at h0 ⊢
    congr 2
    omega
  rw [decode_sub zs A (by have := hl.out; omega) hb.out] at cD
  obtain ⟨p, hp⟩ : ∃ p, p = Lib.decodeN (zs.length - A) (bt zs A).toNat (bt zs (A + 1)).toNat (bt zs (A + 2)).toNat (bt zs (A + 3)).toNat := ⟨_, rfl⟩
  have HP : Hid (rrd zs A = goAns p) := by show rrd zs A = _; rw [hp]; rfl
  have hpb : p.1 ≤ 1114111 ∧ p.2 ≤ 4 := by
    rw [hp]; unfold Lib.decodeN
    have h0 := hb.out A
    repeat' split
    all_goals (simp; try omega)
  rw [← hp] at cD
  clear hp
  obtain ⟨r, m⟩ := p
  simp only at hpb cD
  by_cases hbad : (r : Int) = 65533 ∧ (m : Int) < 2
  · have E : rrd zs A = (0, 0) := by rw [HP.out]; simp only [goAns]; rw [if_pos (by omega)]
    rw [E]
    have hd : decide ((r : Int) = 65533 ∧ (m : Int) < 2) = true := decide_eq_true hbad
    clear hbad
    go_enter Tryd.func11, Tryd.ntmps11
    go_wp2_with fail
    refine cD.out.mono ?_
    rintro e w1 ⟨rfl, hb1⟩
    go_wp2_with fail
    refine (noRune_any _ _ _).mono ?_
    rintro e w2 ⟨rfl, rfl⟩
    rw [hd]
    go_wp2
    go_ret2
    exact ⟨rfl, hb1⟩
  · have E : rrd zs A = ((r : Int), (m : Int)) := by rw [HP.out]; simp only [goAns]; rw [if_neg (by omega)]
    rw [E]
    have hd : decide ((r : Int) = 65533 ∧ (m : Int) < 2) = false := decide_eq_false hbad
    clear hbad
    go_enter Tryd.func11, Tryd.ntmps11
    go_wp2_with fail
    refine cD.out.mono ?_
    rintro e w1 ⟨rfl, hb1⟩
    go_wp2_with fail
    refine (noRune_any _ _ _).mono ?_
    rintro e w2 ⟨rfl, rfl⟩
    rw [hd]
    go_wp2
    go_ret2
    exact ⟨rfl, hb1⟩

set_option maxHeartbeats 400000 in
theorem implRrd_out (a : Option Addr) (n cap : Nat) (at' : Int) (w : World) (h : at' < 0 ∨ (n : Int) ≤ at') :
    Calls Tryd.prog 11 #[.slice a n cap, .int .i64 at'] w fun e w' => e = .returned (.tuple #[.int .i64 0, .int .i64 0]) ∧ w' = w := by
  by_cases h0 : at' < 0
  · go_enter Tryd.func11, Tryd.ntmps11
    go_wp2
    go_ret2
    exact ⟨rfl, rfl⟩
  · have h1 : (n : Int) ≤ at' := by omega
    go_enter Tryd.func11, Tryd.ntmps11
    go_wp2
    go_ret2
    exact ⟨rfl, rfl⟩

theorem implRrd_any (a : Option Addr) (n cap : Nat) (zs : List Int) (at' : Int) (w : World) (hT : Tabs w) (hl : zs.length = n) (hr : Rd w a zs) (hn : n ≤ 2097152) (hcap : n ≤ cap) (hcm : cap ≤ maxLen) :
    Calls Tryd.prog 11 #[.slice a n cap, .int .i64 at'] w fun e w' => e = .returned (.tuple #[.int .i64 (rra zs at').1, .int .i64 (rra zs at').2]) ∧ Below w.heap.size w w' := by
  by_cases h : at' < 0 ∨ (n : Int) ≤ at'
  · have e : rra zs at' = (0, 0) := by unfold rra; rw [hl, if_pos h]
    rw [e]
    refine (implRrd_out a n cap at' w h).mono ?_
    rintro e w' ⟨rfl, rfl⟩
    exact ⟨rfl, Below.refl _ _⟩
  · have e : rra zs at' = rrd zs at'.toNat := by unfold rra; rw [hl, if_neg h]
    rw [e]
    obtain ⟨A, rfl⟩ := Int.eq_ofNat_of_zero_le (show 0 ≤ at' by omega)
    have hne : zs ≠ [] := by intro h'; subst h'; simp at hl; omega
    obtain ⟨b, off, rfl, hb, hc⟩ := hr.2.resolve_left hne
    exact implRrd_in b off n cap A zs w hT hl hr.1 hb hc hn hcap hcm (by omega)

end Go.Proofs.YtofbfbandipjoaaDoor
