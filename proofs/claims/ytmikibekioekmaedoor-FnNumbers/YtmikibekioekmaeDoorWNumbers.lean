/-
  The walk of the law FnNumbers: it returns true and writes nothing that was there.
-/
import Derived.Test.YtmikibekioekmaeDoorBack
import Derived.Test.YtmikibekioekmaeDoorCrcI
import Derived.Test.YtmikibekioekmaeDoorGetI
import Derived.Test.YtmikibekioekmaeDoorHexI
import Derived.Test.YtmikibekioekmaeDoorWTextNum
namespace Go.Proofs.YtmikibekioekmaeDoor
open Go.RowKit
set_option linter.unusedVariables false

theorem put4 (b off n cap : Nat) (zs : List Int) (N : Int) (w : World) (hl : Hid (zs.length = n)) (hb : b < w.heap.size) (hc : ∀ i, i < n → w.cell? ⟨b, off + i, none⟩ = some (.int .u8 (zs[i]?.getD 0)))
    (hN : 0 ≤ N) (hNp : N < 4294967296) (hn : n ≤ 40) :
    Calls Tryd.prog 6 #[.slice (some ⟨b, off, none⟩) n cap, .int .i64 N, .int .i64 4] w fun e w' => ∃ g cp : Nat, e = .returned (.tuple #[.slice (some ⟨g, 0, none⟩) (n + 4) cp, .bool true]) ∧
      w'.ownsRow w.heap.size 5 1 (.slice (some ⟨g, 0, none⟩) (n + 4) cp) (n + 4) ((zs ++ pdig N 4 4).map (Value.int .u8)) ∧ Below w.heap.size w w' := by
  have h := implPut_yes b off n cap zs N 4 w hl hb hc (by omega) (by omega) hN (by simp [pw]; omega) (by omega)
  refine Calls.mono h ?_
  rintro e w' ⟨v, rfl, ho, hb'⟩
  obtain ⟨g, cp, rfl, _, _⟩ := own_form ho (by omega)
  exact ⟨g, cp, rfl, ho, hb'⟩

theorem get4 (a : Option Addr) (n cap : Nat) (zs : List Int) (p : Nat) (w : World) (hl : Hid (zs.length = n)) (hr : Rd w a zs) (hn : n ≤ 2097152) (hps : p + 4 ≤ n) :
    Calls Tryd.prog 7 #[.slice a n cap, .int .i64 p, .int .i64 4] w fun e w' => e = .returned (.tuple #[.int .i64 (gnum zs p 4), .bool true]) ∧ w' = w :=
  implGet_yes a n cap zs p 4 w hl hr hn (by omega) (by omega) hps

theorem own_cellsB {w : World} {base g n cap : Nat} {zs : List Int} (hl : zs.length = n) (h : w.ownsRow base 5 1 (.slice (some ⟨g, 0, none⟩) n cap) n (zs.map (Value.int .u8))) :
    ∀ i, i < n → w.cell? ⟨g, 0 + i, none⟩ = some (.int .u8 (zs[i]?.getD 0)) := by
  intro i hi
  rw [Nat.zero_add, h.cellAt i (by omega)]
  simp [hl, hi]

theorem pcsB_small (c : UInt8) (s : ByteArray) (h : s.size ≤ 40) (i : Nat) : ((pcsB c s)[i]?.getD ByteArray.empty).size ≤ 40 := by
  unfold pcsB
  rw [List.getElem?_map]
  cases hp : (pcs c s.data.toList)[i]? with
  | none => simp
  | some p =>
    have := pcs_each c _ p (List.mem_of_getElem? hp)
    have e : s.data.toList.length = s.size := by simp
    simp only [Option.map_some, Option.getD_some]
    rw [toB_size]; omega

/-- What the law wants of the library's variables. -/
def Lib3 (w : World) : Prop := Vars w ∧ MaxOk w
theorem Lib3.later {w w' : World} (h : Lib3 w) (hb : Below w.heap.size w w') : Lib3 w' := ⟨h.1.later hb, h.2.later hb⟩

set_option maxRecDepth 100000 in
set_option maxHeartbeats 4000000 in
theorem numbers_in (a : Option Addr) (n cap : Nat) (zs : List Int) (w : World) (HL : Hid (zs.length = n)) (hn : n ≤ 1048576) (hr : Rd w a zs) (hv : Lib3 w) :
    Calls Tryd.prog 3 #[.slice a n cap] w fun e w' => e = .returned (.bool true) ∧ Below w.heap.size w w' := by
  have hlt : ¬ (1048576 : Int) < (n : Int) := by omega
  have HV : Hid (Lib3 w) := hv
  clear hv
  go_enter Tryd.func3, Tryd.ntmps3
  go_wp2_with fail
  refine (makeBytes_any a n cap zs _ HL hn hr).mono ?_
  rintro e w1 ⟨ys, m, gB, cB, hm, hy, hyb, rfl, ho1, hb1⟩
  have HY : Hid (ys.length = m) := hy
  have HZ : Hid (isBytes ys) := hyb
  clear hy hyb hr
  go_wp2_with fail
  refine (implCrc_any _ m _ ys _ HY (rd_own HY.out HZ.out ho1) (by omega)).mono ?_
  rintro e w2 ⟨rfl, hb2⟩
  have hXl : csum ys m ^^^ 4294967295 < 4294967296 := by
    have h1 := csum_lt ys HZ.out m
    have : csum ys m ^^^ 4294967295 < 2 ^ 32 := Nat.xor_lt_two_pow (by omega) (by omega)
    omega
  obtain ⟨X, hX⟩ : ∃ X, X = csum ys m ^^^ 4294967295 := ⟨_, rfl⟩
  rw [← hX] at hXl ⊢
  clear hX
  have hb2' := hb1.trans (hb2.mono hb1.size)
  have ho2 := own_later ho1 hb2
  go_wp2_with fail
  refine (put4 gB 0 m cB ys _ _ HY (ho2.lt _ rfl).2 (own_cellsB HY.out ho2) (by omega) (by omega) hm).mono ?_
  rintro e w3 ⟨gP, cP, rfl, hp3, hb3⟩
  have hb3' := hb2'.trans (hb3.mono hb2'.size)
  have ho3 := own_later ho2 hb3
  have HPL : Hid ((ys ++ pdig X 4 4).length = m + 4) := by show _ = _; rw [List.length_append, pdig_len, HY.out]
  have hpr := rd_own HPL.out (put_bytes ys HZ.out X 4 4) hp3
  go_wp2_with fail
  refine (get4 _ (m + 4) _ (ys ++ pdig X 4 4) m _ HPL hpr (by omega) (by omega)).mono ?_
  rintro e w3' ⟨rfl, rfl⟩
  rw [get_put ys m HY.out X (by omega) (by omega)]
  clear hpr hp3
  have hnum : isNum ⟨(Lib.decDigits X).toArray⟩ X := ⟨by omega, rfl⟩
  have HNUM : Hid (isNum ⟨(Lib.decDigits X).toArray⟩ X) := hnum
  clear hnum
  go_wp2_with fail
  refine (implNum_yes X (by omega) _ (HV.out.later hb3').1.2.2).mono ?_
  rintro e w4 ⟨rfl, hb4⟩
  have hb4' := hb3'.trans (hb4.mono hb3'.size)
  have ho4 := own_later ho3 hb4
  go_wp2_with fail
  refine (implText_yes _ _ X HNUM.out (HV.out.later hb4').1).mono ?_
  rintro e w5 ⟨rfl, hb5⟩
  have hb5' := hb4'.trans (hb5.mono hb4'.size)
  have ho5 := own_later ho4 hb5
  go_wp2_with fail
  refine (implHex_any _ m _ ys _ HY (rd_own HY.out HZ.out ho5) (by omega)).mono ?_
  rintro e w6 ⟨rfl, hb6⟩
  have hb6' := hb5'.trans (hb6.mono hb5'.size)
  have ho6 := own_later ho5 hb6
  clear ho1 ho2 ho3 ho4 ho5 hb1 hb2 hb3 hb4 hb5 hb6 hb2' hb3' hb4' hb5' HNUM
  have huns := hex_uns ys m HY.out HZ.out m (Nat.le_refl _)
  have htk : ys.take m = ys := List.take_of_length_le (by rw [HY.out]; omega)
  rw [htk] at huns
  obtain ⟨hs, hhs⟩ : ∃ hs, hs = strOfNums (hexk ys m) := ⟨_, rfl⟩
  have hsz : hs.size / 2 = m := by rw [hhs, strOfNums_size, hexk_len]; omega
  have huok := hex_uok ys m HZ.out (by omega)
  rw [← hhs] at huns huok ⊢
  have hun := fun W => implUnhex_ok hs W huok
  rw [hsz, huns] at hun
  clear hhs huok huns htk hsz
  go_wp2_with fail
  refine (hun _).mono ?_
  rintro e w7 ⟨gH, cH, rfl, hh7, hb7⟩
  have hb7' := hb6'.trans (hb7.mono hb6'.size)
  have ho7 := own_later ho6 hb7
  have cvB := own_conv HY.out ho7
  have cvH := own_conv HY.out hh7
  obtain ⟨S, hS⟩ : ∃ S, S = strOfNums ys := ⟨_, rfl⟩
  have hSs : S.size = m := by rw [hS, strOfNums_size, HY.out]
  rw [← hS] at cvB cvH
  have HS : Hid (S = strOfNums ys) := hS
  clear hS hun ho6 hb6' hh7 hb7
  have hpl := pcsB_len 32 S
  have hpz := pcsB_size 32 S (by omega)
  have HJ : Hid (∀ t, Joined 32 (pcsB 32 S) (pcsB 32 S).length t → t = S) := fun t h => joined_all h
  have hcon := fun W h => implParts_any S W (by omega) h
  have hpz2 : ∀ i : Nat, ((pcsB 32 S)[i]?.getD ByteArray.empty).size ≤ 40 := fun i => pcsB_small 32 S (by omega) i
  obtain ⟨xs, hxs⟩ : ∃ xs, xs = pcsB 32 S := ⟨_, rfl⟩
  rw [← hxs] at hpl HJ hcon hpz2
  obtain ⟨N, hN⟩ : ∃ N, N = xs.length := ⟨_, rfl⟩
  rw [← hN] at hpl HJ hcon
  have HN : Hid (xs.length = N) := hN.symm
  clear hxs hN hpz
  go_wp2_with fail
  refine (hcon _ (HV.out.later hb7').2).mono ?_
  rintro e w8 ⟨gX, cX, rfl, hx8, hb8⟩
  have hb8' := hb7'.trans (hb8.mono hb7'.size)
  have ho8 := own_later ho7 hb8
  have cvB8 := own_conv HY.out ho8
  rw [← HS.out] at cvB8
  clear cvB cvH hcon ho7
  go_wp2
  go_loop [13, 86] (fun s i => ∃ (j : Nat) (t : ByteArray), j ≤ N ∧ s = .string t ∧ i = .int .i64 j ∧ Hid (Joined 32 xs j t) ∧ t.size ≤ 41 * j) (fun _ i => N - (intOf i).toNat)
  case atStart => exact ⟨0, ⟨#[]⟩, Nat.zero_le _, rfl, rfl, .inl ⟨rfl, rfl⟩, Nat.le_refl _⟩
  case round =>
    obtain ⟨j, t, hj, rfl, rfl, HJt, hts⟩ := hrel
    by_cases hjl : j < N
    · have hjl' : (j : Int) < (N : Int) := by omega
      obtain ⟨x, hx⟩ : ∃ x, x = xs[j]?.getD ByteArray.empty := ⟨_, rfl⟩
      have hcx : w8.cell? ⟨gX, j, none⟩ = some (.string x) := by
        rw [hx8.cellAt j (by omega), hx]
        have : j < xs.length := by rw [HN.out]; omega
        simp [this]
      have hxz : x.size ≤ 40 := by rw [hx]; exact hpz2 j
      have HX : Hid (xs.take (j + 1) = xs.take j ++ [x]) := by
        have hjx : j < xs.length := by rw [HN.out]; omega
        show xs.take (j + 1) = _
        rw [List.take_succ_eq_append_getElem hjx, hx]
        simp [hjx]
      clear hx
      by_cases hj0 : j = 0
      · subst hj0
        have ht0 : t = ⟨#[]⟩ := by
          rcases HJt.out with ⟨_, e⟩ | ⟨h, _⟩
          · exact e
          · omega
        subst ht0
        have HJ1 : Hid (Joined 32 xs 1 (⟨#[]⟩ ++ x)) := joined_first 32 xs x (by rw [show (1 : Nat) = 0 + 1 from rfl, HX.out]; simp)
        have hz1 : ((⟨#[]⟩ : ByteArray) ++ x).size ≤ 41 * 1 := by rw [ByteArray.size_append]; show 0 + x.size ≤ 41; omega
        go_wp2
        go_round
        case rel => exact ⟨1, _, by omega, rfl, by go_num, HJ1, hz1⟩
        case measure => simp [intOf]; omega
      · have hjp : (0 : Int) < (j : Int) := by omega
        have HJ1 : Hid (Joined 32 xs (j + 1) (t ++ ⟨#[32]⟩ ++ x)) := joined_more HJt.out (by omega) HX.out
        have e32 : (⟨#[32]⟩ : ByteArray).size = 1 := rfl
        have hsum1 : ¬ (9223372036854775807 < t.size + (⟨#[32]⟩ : ByteArray).size) := by omega
        have hsum2 : ¬ (9223372036854775807 < (t ++ ⟨#[32]⟩).size + x.size) := by rw [ByteArray.size_append]; omega
        have hz1 : (t ++ ⟨#[32]⟩ ++ x).size ≤ 41 * (j + 1) := by rw [ByteArray.size_append, ByteArray.size_append]; omega
        go_wp2
        go_round
        case rel => exact ⟨j + 1, _, by omega, rfl, by go_num, HJ1, hz1⟩
        case measure => simp [intOf]; omega
    · have e : j = N := by omega
      subst e
      have ht := HJ.out t HJt.out
      subst ht
      have hK : Hid (∀ u, Stacked 10 (linB 10 t) (linB 10 t).length u → u = t ∨ u = t ++ ⟨#[10]⟩) := fun u h => stacked_all h
      have hcon := fun W h => implLines_any t W (by omega) h
      have hpl2 : (linB 10 t).length ≤ 41 := by
        have := pcsB_len 10 t
        unfold linB; split <;> (try rw [List.length_dropLast]) <;> omega
      have hlz : ∀ i : Nat, ((linB 10 t)[i]?.getD ByteArray.empty).size ≤ 40 := by
        intro i
        have h1 := pcsB_small 10 t (by omega) i
        unfold linB
        split
        · rw [List.getElem?_dropLast]
          split
          · exact h1
          · simp
        · exact h1
      obtain ⟨ls, hls⟩ : ∃ ls, ls = linB 10 t := ⟨_, rfl⟩
      rw [← hls] at hpl2 hK hcon hlz
      obtain ⟨M, hM⟩ : ∃ M, M = ls.length := ⟨_, rfl⟩
      rw [← hM] at hpl2 hK hcon
      have HM : Hid (ls.length = M) := hM.symm
      clear hls hM hx8 HJ HJt hpz2
      go_wp2_with fail
      refine (hcon _ (HV.out.later hb8').2).mono ?_
      rintro e w9 ⟨gL, cL, rfl, hx9, hb9⟩
      have hb9' := hb8'.trans (hb9.mono hb8'.size)
      have ho9 := own_later ho8 hb9
      have cvB9 := own_conv HY.out ho9
      rw [← HS.out] at cvB9
      clear cvB8 hcon ho8
      go_wp2
      go_loop [16, 103] (fun s i => ∃ (k : Nat) (u : ByteArray), k ≤ M ∧ s = .string u ∧ i = .int .i64 k ∧ Hid (Stacked 10 ls k u) ∧ u.size ≤ 41 * k) (fun _ i => M - (intOf i).toNat)
      case atStart => exact ⟨0, ⟨#[]⟩, Nat.zero_le _, rfl, rfl, by simp [Hid, Stacked], Nat.le_refl _⟩
      case round =>
        obtain ⟨k, u, hk, rfl, rfl, HU, hus⟩ := hrel
        by_cases hkl : k < M
        · have hkl' : (k : Int) < (M : Int) := by omega
          obtain ⟨x, hx⟩ : ∃ x, x = ls[k]?.getD ByteArray.empty := ⟨_, rfl⟩
          have hcx : w9.cell? ⟨gL, k, none⟩ = some (.string x) := by
            rw [hx9.cellAt k (by omega), hx]
            have : k < ls.length := by rw [HM.out]; omega
            simp [this]
          have hxz : x.size ≤ 40 := by rw [hx]; exact hlz k
          have HX : Hid (ls.take (k + 1) = ls.take k ++ [x]) := by
            have hkx : k < ls.length := by rw [HM.out]; omega
            show ls.take (k + 1) = _
            rw [List.take_succ_eq_append_getElem hkx, hx]
            simp [hkx]
          clear hx
          have HU1 : Hid (Stacked 10 ls (k + 1) (u ++ x ++ ⟨#[10]⟩)) := stacked_more HU.out HX.out
          have e10 : (⟨#[10]⟩ : ByteArray).size = 1 := rfl
          have hsum1 : ¬ (9223372036854775807 < u.size + x.size) := by omega
          have hsum2 : ¬ (9223372036854775807 < (u ++ x).size + (⟨#[10]⟩ : ByteArray).size) := by rw [ByteArray.size_append]; omega
          have hz1 : (u ++ x ++ ⟨#[10]⟩).size ≤ 41 * (k + 1) := by rw [ByteArray.size_append, ByteArray.size_append]; omega
          go_wp2
          go_round
          case rel => exact ⟨k + 1, _, by omega, rfl, by go_num, HU1, hz1⟩
          case measure => simp [intOf]; omega
        · have e : k = M := by omega
          subst e
          have hor := hK.out u HU.out
          have e10 : (⟨#[10]⟩ : ByteArray).size = 1 := rfl
          have hsum : ¬ (9223372036854775807 < t.size + (⟨#[10]⟩ : ByteArray).size) := by omega
          by_cases hut : u = t
          · subst hut
            go_wp2
            go_ret
            exact ⟨rfl, hb9'⟩
          · have hun : u = t ++ ⟨#[10]⟩ := hor.resolve_left hut
            have hne := neq_of hut
            subst hun
            go_wp2
            go_ret
            exact ⟨rfl, hb9'⟩

theorem numbers_law (a : Option Addr) (n cap : Nat) (zs : List Int) (w : World) (hl : zs.length = n) (hr : Rd w a zs) (hm : n ≤ maxLen) (hv : Lib3 w) :
    Calls Tryd.prog 3 #[.slice a n cap] w fun e w' => e = .returned (.bool true) ∧ Below w.heap.size w w' := by
  unfold maxLen at hm
  by_cases hn : n ≤ 1048576
  · exact numbers_in a n cap zs w hl hn hr hv
  · have hlt : (1048576 : Int) < (n : Int) := by omega
    go_enter Tryd.func3, Tryd.ntmps3
    go_wp2
    go_ret
    exact ⟨rfl, Below.refl _ _⟩

end Go.Proofs.YtmikibekioekmaeDoor
