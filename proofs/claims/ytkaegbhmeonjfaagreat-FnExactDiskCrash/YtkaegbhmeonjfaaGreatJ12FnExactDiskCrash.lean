/-
  Tear of the model and of the program; bytes.Clone.
-/
import Derived.Test.YtkaegbhmeonjfaaGreatJ11FnExactDiskCrash
import Derived.Test.YtkaegbhmeonjfaaGreatJ3FnExactDiskCrash
namespace Go.Proofs.YtkaegbhmeonjfaaGreat
open Go.RowKit
set_option linter.unusedVariables false
set_option maxRecDepth 100000

/-- Which step is meant. -/
def tk (xs ys : List Int) (k : Int) : Nat := if k < 0 then 0 else if (tsteps xs ys : Int) < k then tsteps xs ys else k.toNat
/-- What there is behind k steps. -/
def tearAt (xs ys : List Int) (K : Nat) : List Int := if K ≤ xs.length - share xs ys then xs.take (xs.length - K) else ys.take (share xs ys + K - (xs.length - share xs ys))
def tear (xs ys : List Int) (k : Int) : List Int := tearAt xs ys (tk xs ys k)

theorem tk_le (xs ys : List Int) (k : Int) : tk xs ys k ≤ tsteps xs ys := by
  unfold tk
  split
  · omega
  · split <;> omega

theorem tearAt_len (xs ys : List Int) (K : Nat) (h : K ≤ tsteps xs ys) : (tearAt xs ys K).length = if K ≤ xs.length - share xs ys then xs.length - K else share xs ys + K - (xs.length - share xs ys) := by
  have h1 := share_le xs ys
  unfold tsteps at h
  unfold tearAt
  split
  · rw [List.length_take]; omega
  · rw [List.length_take]; omega

theorem tear_len_le (xs ys : List Int) (k : Int) (n m : Nat) (h1 : xs.length = n) (h2 : ys.length = m) : (tear xs ys k).length ≤ n + m := by
  unfold tear tearAt
  split
  · rw [List.length_take]; omega
  · rw [List.length_take]; omega

set_option maxRecDepth 100000 in
set_option maxHeartbeats 2000000 in
theorem specTear_any (a b : Option Addr) (n m ca cb : Nat) (xs ys : List Int) (k : Int) (w : World) (hl : Hid (xs.length = n)) (hm : Hid (ys.length = m)) (hra : Rd w a xs) (hrb : Rd w b ys) (hn : n ≤ 2097152) (hmm : m ≤ 2097152)
    (hca : n ≤ ca) (hcb : m ≤ cb) (hcm : ca ≤ maxLen) (hcn : cb ≤ maxLen) (hna : a = none → ca = 0) (hnb : b = none → cb = 0) (hk1 : -9223372036854775808 ≤ k) (hk2 : k ≤ 9223372036854775807) :
    Calls Tryz.prog 35 #[.slice a n ca, .slice b m cb, .int .i64 k] w fun e w' => ∃ v, e = .returned v ∧ w'.ownsRow w.heap.size 5 1 v (tear xs ys k).length ((tear xs ys k).map (Value.int .u8)) ∧ Below w.heap.size w w' := by
  obtain ⟨i0, hi, hz0, hz1, hz2⟩ := info_parts Tryz.infoB
  have hm0 : (0 : Nat) ≤ maxLen := Nat.zero_le _
  have hlen : Hid ((tear xs ys k).length = if tk xs ys k ≤ xs.length - share xs ys then xs.length - tk xs ys k else share xs ys + tk xs ys k - (xs.length - share xs ys)) := tearAt_len xs ys (tk xs ys k) (tk_le xs ys k)
  have hval : Hid (tear xs ys k = if tk xs ys k ≤ xs.length - share xs ys then xs.take (xs.length - tk xs ys k) else ys.take (share xs ys + tk xs ys k - (xs.length - share xs ys))) := rfl
  have hkle := tk_le xs ys k
  have HK : Hid (tk xs ys k = if k < 0 then 0 else if (tsteps xs ys : Int) < k then tsteps xs ys else k.toNat) := rfl
  obtain ⟨Z, hZ⟩ : ∃ Z, Z = tear xs ys k := ⟨_, rfl⟩
  obtain ⟨K, hK⟩ : ∃ K, K = tk xs ys k := ⟨_, rfl⟩
  obtain ⟨T, hT⟩ : ∃ T, T = tsteps xs ys := ⟨_, rfl⟩
  obtain ⟨S, hS⟩ : ∃ S, S = share xs ys := ⟨_, rfl⟩
  have hT2 : T = (n - S) + (m - S) := by rw [hT, hS]; unfold tsteps; rw [hl.out, hm.out]
  have hSn : S ≤ n := by have := (share_le xs ys).1; rw [hl.out] at this; omega
  have hSm : S ≤ m := by have := (share_le xs ys).2; rw [hm.out] at this; omega
  have qsteps : Hid (∀ w', Below w.heap.size w w' → Calls Tryz.prog 79 #[.slice a n ca, .slice b m cb] w' fun e w'' => e = .returned (.int .i64 T) ∧ ∃ q, w'' = w'.drewN q) := by
    intro w' hb; rw [hT]; exact specSteps_any a b n m _ _ xs ys w' hl hm (hra.later hb) (hrb.later hb) hn hmm
  have qshare : Hid (∀ w', Below w.heap.size w w' → Calls Tryz.prog 80 #[.slice a n ca, .slice b m cb] w' fun e w'' => e = .returned (.int .i64 S) ∧ ∃ q, w'' = w'.drewN q) := by
    intro w' hb; rw [hS]; exact specShare_any a b n m _ _ xs ys w' hl hm (hra.later hb) (hrb.later hb) hn hmm
  rw [← hZ, ← hK, ← hS, hl.out] at hlen
  rw [← hZ, ← hK, ← hS, hl.out] at hval
  rw [← hK, ← hT] at HK
  rw [← hK, ← hT] at hkle
  rw [← hZ]
  clear hZ hK hT hS
  have HT2 : Hid (T = (n - S) + (m - S)) := hT2
  clear hT2
  unfold maxLen at hcm hcn
  by_cases hc0 : k < 0
  · have hKe : K = 0 := by have := HK.out; rw [if_pos hc0] at this; exact this
    subst hKe
    clear HK
    have hcmp : (0 : Int) ≤ (n : Int) - (S : Int) := by omega
    have hZ1 : Hid (Z = xs.take n) := by show Z = _; rw [hval.out, if_pos (Nat.zero_le _)]; rfl
    have hJb : n ≤ n := Nat.le_refl _
    have hZ2 : Hid (Z.length = n) := by show Z.length = _; rw [hZ1.out, List.length_take]; have := hl.out; have := hm.out; omega
    rw [hZ2.out, hZ1.out]
    clear hval hlen
    cases a with
    | none =>
      have hz := rd_none hra
      have h0 : n = 0 := by have := hl.out; rw [hz] at this; simpa using this.symm
      obtain rfl := hna rfl
      subst h0
      have hS0 : S = 0 := by omega
      subst hS0
      go_enter Tryz.func35, Tryz.ntmps35
      go_wp2_with fail
      refine (qsteps.out _ (Below.refl _ _)).mono ?_
      rintro e w1 ⟨rfl, q1, hw1⟩
      have hb1 : Below w.heap.size w w1 := by rw [hw1]; exact below_drewN (Below.refl _ _) q1
      clear hw1
      go_wp2_with fail
      refine (qshare.out _ hb1).mono ?_
      rintro e w3 ⟨rfl, q3, hw3⟩
      have hb3 : Below w.heap.size w w3 := by rw [hw3]; exact below_drewN hb1 q3
      have hown00 := World.ownsRow_lit (base := w.heap.size) (e := 5) (size := 1) w3 #[] 0 hb3.size hm0 rfl
      have hs3 := hb3.size
      clear hw3
      have HO : Hid (_) := hown00
      go_wp2_with (at_builtin; refine wpList_append_own_none rfl _ _ 43 rfl w.heap.size 5 i0 1 Tryz.underlying43 hi _ 0 _ rfl hown00 rfl ?_)
      go_wp2
      go_ret
      refine ⟨_, rfl, ?_, hb3.alloc hs3 _⟩
      rw [hz]; simpa using hown00
    | some ad =>
      go_enter Tryz.func35, Tryz.ntmps35
      go_wp2_with fail
      refine (qsteps.out _ (Below.refl _ _)).mono ?_
      rintro e w1 ⟨rfl, q1, hw1⟩
      have hb1 : Below w.heap.size w w1 := by rw [hw1]; exact below_drewN (Below.refl _ _) q1
      clear hw1
      go_wp2_with fail
      refine (qshare.out _ hb1).mono ?_
      rintro e w3 ⟨rfl, q3, hw3⟩
      have hb3 : Below w.heap.size w w3 := by rw [hw3]; exact below_drewN hb1 q3
      have hown00 := World.ownsRow_lit (base := w.heap.size) (e := 5) (size := 1) w3 #[] 0 hb3.size hm0 rfl
      have hs3 := hb3.size
      clear hw3
      have hsrc := rd_src (((rd_take hra n).later (hb3)).later ((Below.refl w3.heap.size w3).alloc (Nat.le_refl _) (.cells #[] 5)))
      have k0 : ((xs.take n).map (Value.int .u8)).length = n * 1 := by rw [List.length_map, ← hZ1.out, hZ2.out]; omega
      have k3 : 0 + n ≤ maxLen := by unfold maxLen; omega
      have k4 : (0 + n) * 1 ≤ 140737488355328 := by omega
      have k5 : w.heap.size ≤ (w3.alloc (.cells #[] 5)).heap.size := by simp; omega
      have K5 : Hid (_ ∧ _ ∧ _ ∧ _ ∧ _) := ⟨k0, hsrc, k3, k4, k5⟩
      clear k0 k3 k4 k5 hsrc
      go_wp2_with (at_builtin; refine wpList_append_own _ rfl _ _ 43 rfl w.heap.size 5 i0 (.int .u8 0) 1 1 Tryz.underlying43 hi hz0 hz1 hz2 rfl (by decide) _ _ _ rfl hown00 ad n _ ((xs.take n).map (Value.int .u8)) rfl K5.out.1 K5.out.2.1 (bytes_oneCell _) K5.out.2.2.1 K5.out.2.2.2.1 K5.out.2.2.2.2 ?_)
      intro v0 w4 hown1 hgrow1 _
      have hbel1 : Below w.heap.size w w4 := (hb3.alloc hs3 _).grown hgrow1 (by simp; omega) (fun k h => by simp [Value.ownBlock] at h; omega)
      go_wp2
      go_ret
      exact ⟨_, rfl, by simpa using hown1, hbel1⟩
  by_cases hc1 : (T : Int) < k
  · have hKe : K = T := by have := HK.out; rw [if_neg hc0, if_pos hc1] at this; exact this
    subst hKe
    clear HK
    by_cases hle : K ≤ n - S
    · have hcmp : (K : Int) ≤ (n : Int) - (S : Int) := by omega
      obtain ⟨J, hJ⟩ : ∃ J : Nat, J = n - K := ⟨_, rfl⟩
      have hJe : (n : Int) - (K : Int) = (J : Int) := by omega
      have hJb : J ≤ n := by have := HT2.out; omega
      have hZ1 : Hid (Z = xs.take J) := by show Z = _; rw [hval.out, if_pos hle, hJ]
      have HJ : Hid (J = n - K) := hJ
      clear hJ
      have hZ2 : Hid (Z.length = J) := by show Z.length = _; rw [hZ1.out, List.length_take]; have := hl.out; have := hm.out; omega
      rw [hZ2.out, hZ1.out]
      clear hval hlen
      cases a with
      | none =>
        have hz := rd_none hra
        have h0 : n = 0 := by have := hl.out; rw [hz] at this; simpa using this.symm
        obtain rfl := hna rfl
        subst h0
        have hS0 : S = 0 := by omega
        subst hS0
        have hJ0 : J = 0 := by omega
        subst hJ0
        have hK0 : K = 0 := by omega
        subst hK0
        go_enter Tryz.func35, Tryz.ntmps35
        go_wp2_with fail
        refine (qsteps.out _ (Below.refl _ _)).mono ?_
        rintro e w1 ⟨rfl, q1, hw1⟩
        have hb1 : Below w.heap.size w w1 := by rw [hw1]; exact below_drewN (Below.refl _ _) q1
        clear hw1
        go_wp2_with fail
        refine (qsteps.out _ hb1).mono ?_
        rintro e w2 ⟨rfl, q2, hw2⟩
        have hb2 : Below w.heap.size w w2 := by rw [hw2]; exact below_drewN hb1 q2
        clear hw2
        go_wp2_with fail
        refine (qshare.out _ hb2).mono ?_
        rintro e w3 ⟨rfl, q3, hw3⟩
        have hb3 : Below w.heap.size w w3 := by rw [hw3]; exact below_drewN hb2 q3
        have hown00 := World.ownsRow_lit (base := w.heap.size) (e := 5) (size := 1) w3 #[] 0 hb3.size hm0 rfl
        have hs3 := hb3.size
        clear hw3
        have HO : Hid (_) := hown00
        go_wp2_with (at_builtin; refine wpList_append_own_none rfl _ _ 43 rfl w.heap.size 5 i0 1 Tryz.underlying43 hi _ 0 _ rfl hown00 rfl ?_)
        go_wp2
        go_ret
        refine ⟨_, rfl, ?_, hb3.alloc hs3 _⟩
        rw [hz]; simpa using hown00
      | some ad =>
        go_enter Tryz.func35, Tryz.ntmps35
        go_wp2_with fail
        refine (qsteps.out _ (Below.refl _ _)).mono ?_
        rintro e w1 ⟨rfl, q1, hw1⟩
        have hb1 : Below w.heap.size w w1 := by rw [hw1]; exact below_drewN (Below.refl _ _) q1
        clear hw1
        go_wp2_with fail
        refine (qsteps.out _ hb1).mono ?_
        rintro e w2 ⟨rfl, q2, hw2⟩
        have hb2 : Below w.heap.size w w2 := by rw [hw2]; exact below_drewN hb1 q2
        clear hw2
        go_wp2_with fail
        refine (qshare.out _ hb2).mono ?_
        rintro e w3 ⟨rfl, q3, hw3⟩
        have hb3 : Below w.heap.size w w3 := by rw [hw3]; exact below_drewN hb2 q3
        have hown00 := World.ownsRow_lit (base := w.heap.size) (e := 5) (size := 1) w3 #[] 0 hb3.size hm0 rfl
        have hs3 := hb3.size
        clear hw3
        have hsrc := rd_src (((rd_take hra J).later (hb3)).later ((Below.refl w3.heap.size w3).alloc (Nat.le_refl _) (.cells #[] 5)))
        have k0 : ((xs.take J).map (Value.int .u8)).length = J * 1 := by rw [List.length_map, ← hZ1.out, hZ2.out]; omega
        have k3 : 0 + J ≤ maxLen := by unfold maxLen; omega
        have k4 : (0 + J) * 1 ≤ 140737488355328 := by omega
        have k5 : w.heap.size ≤ (w3.alloc (.cells #[] 5)).heap.size := by simp; omega
        have K5 : Hid (_ ∧ _ ∧ _ ∧ _ ∧ _) := ⟨k0, hsrc, k3, k4, k5⟩
        clear k0 k3 k4 k5 hsrc
        go_wp2_with (at_builtin; refine wpList_append_own _ rfl _ _ 43 rfl w.heap.size 5 i0 (.int .u8 0) 1 1 Tryz.underlying43 hi hz0 hz1 hz2 rfl (by decide) _ _ _ rfl hown00 ad J _ ((xs.take J).map (Value.int .u8)) rfl K5.out.1 K5.out.2.1 (bytes_oneCell _) K5.out.2.2.1 K5.out.2.2.2.1 K5.out.2.2.2.2 ?_)
        intro v0 w4 hown1 hgrow1 _
        have hbel1 : Below w.heap.size w w4 := (hb3.alloc hs3 _).grown hgrow1 (by simp; omega) (fun k h => by simp [Value.ownBlock] at h; omega)
        go_wp2
        go_ret
        exact ⟨_, rfl, by simpa using hown1, hbel1⟩
    · have hcmp : ¬ (K : Int) ≤ (n : Int) - (S : Int) := by omega
      obtain ⟨J, hJ⟩ : ∃ J : Nat, J = S + K - (n - S) := ⟨_, rfl⟩
      have hJe : (S : Int) + (K : Int) - ((n : Int) - (S : Int)) = (J : Int) := by omega
      have hJb : J ≤ m := by have := HT2.out; omega
      have hZ1 : Hid (Z = ys.take J) := by show Z = _; rw [hval.out, if_neg hle, hJ]
      have HJ : Hid (J = S + K - (n - S)) := hJ
      clear hJ
      have hZ2 : Hid (Z.length = J) := by show Z.length = _; rw [hZ1.out, List.length_take]; have := hl.out; have := hm.out; omega
      rw [hZ2.out, hZ1.out]
      clear hval hlen
      cases b with
      | none =>
        have hz := rd_none hrb
        exfalso
        have h0 : m = 0 := by have := hm.out; rw [hz] at this; simpa using this.symm
        have := HJ.out
        omega
      | some ad =>
        go_enter Tryz.func35, Tryz.ntmps35
        go_wp2_with fail
        refine (qsteps.out _ (Below.refl _ _)).mono ?_
        rintro e w1 ⟨rfl, q1, hw1⟩
        have hb1 : Below w.heap.size w w1 := by rw [hw1]; exact below_drewN (Below.refl _ _) q1
        clear hw1
        go_wp2_with fail
        refine (qsteps.out _ hb1).mono ?_
        rintro e w2 ⟨rfl, q2, hw2⟩
        have hb2 : Below w.heap.size w w2 := by rw [hw2]; exact below_drewN hb1 q2
        clear hw2
        go_wp2_with fail
        refine (qshare.out _ hb2).mono ?_
        rintro e w3 ⟨rfl, q3, hw3⟩
        have hb3 : Below w.heap.size w w3 := by rw [hw3]; exact below_drewN hb2 q3
        have hown00 := World.ownsRow_lit (base := w.heap.size) (e := 5) (size := 1) w3 #[] 0 hb3.size hm0 rfl
        have hs3 := hb3.size
        clear hw3
        have hsrc := rd_src (((rd_take hrb J).later (hb3)).later ((Below.refl w3.heap.size w3).alloc (Nat.le_refl _) (.cells #[] 5)))
        have k0 : ((ys.take J).map (Value.int .u8)).length = J * 1 := by rw [List.length_map, ← hZ1.out, hZ2.out]; omega
        have k3 : 0 + J ≤ maxLen := by unfold maxLen; omega
        have k4 : (0 + J) * 1 ≤ 140737488355328 := by omega
        have k5 : w.heap.size ≤ (w3.alloc (.cells #[] 5)).heap.size := by simp; omega
        have K5 : Hid (_ ∧ _ ∧ _ ∧ _ ∧ _) := ⟨k0, hsrc, k3, k4, k5⟩
        clear k0 k3 k4 k5 hsrc
        go_wp2_with (at_builtin; refine wpList_append_own _ rfl _ _ 43 rfl w.heap.size 5 i0 (.int .u8 0) 1 1 Tryz.underlying43 hi hz0 hz1 hz2 rfl (by decide) _ _ _ rfl hown00 ad J _ ((ys.take J).map (Value.int .u8)) rfl K5.out.1 K5.out.2.1 (bytes_oneCell _) K5.out.2.2.1 K5.out.2.2.2.1 K5.out.2.2.2.2 ?_)
        intro v0 w4 hown1 hgrow1 _
        have hbel1 : Below w.heap.size w w4 := (hb3.alloc hs3 _).grown hgrow1 (by simp; omega) (fun k h => by simp [Value.ownBlock] at h; omega)
        go_wp2
        go_ret
        exact ⟨_, rfl, by simpa using hown1, hbel1⟩
  · have hKe : k = (K : Int) := by have := HK.out; rw [if_neg hc0, if_neg hc1] at this; omega
    subst hKe
    clear HK
    by_cases hle : K ≤ n - S
    · have hcmp : (K : Int) ≤ (n : Int) - (S : Int) := by omega
      obtain ⟨J, hJ⟩ : ∃ J : Nat, J = n - K := ⟨_, rfl⟩
      have hJe : (n : Int) - (K : Int) = (J : Int) := by omega
      have hJb : J ≤ n := by have := HT2.out; omega
      have hZ1 : Hid (Z = xs.take J) := by show Z = _; rw [hval.out, if_pos hle, hJ]
      have HJ : Hid (J = n - K) := hJ
      clear hJ
      have hZ2 : Hid (Z.length = J) := by show Z.length = _; rw [hZ1.out, List.length_take]; have := hl.out; have := hm.out; omega
      rw [hZ2.out, hZ1.out]
      clear hval hlen
      cases a with
      | none =>
        have hz := rd_none hra
        have h0 : n = 0 := by have := hl.out; rw [hz] at this; simpa using this.symm
        obtain rfl := hna rfl
        subst h0
        have hS0 : S = 0 := by omega
        subst hS0
        have hJ0 : J = 0 := by omega
        subst hJ0
        have hK0 : K = 0 := by omega
        subst hK0
        go_enter Tryz.func35, Tryz.ntmps35
        go_wp2_with fail
        refine (qsteps.out _ (Below.refl _ _)).mono ?_
        rintro e w1 ⟨rfl, q1, hw1⟩
        have hb1 : Below w.heap.size w w1 := by rw [hw1]; exact below_drewN (Below.refl _ _) q1
        clear hw1
        go_wp2_with fail
        refine (qshare.out _ hb1).mono ?_
        rintro e w3 ⟨rfl, q3, hw3⟩
        have hb3 : Below w.heap.size w w3 := by rw [hw3]; exact below_drewN hb1 q3
        have hown00 := World.ownsRow_lit (base := w.heap.size) (e := 5) (size := 1) w3 #[] 0 hb3.size hm0 rfl
        have hs3 := hb3.size
        clear hw3
        have HO : Hid (_) := hown00
        go_wp2_with (at_builtin; refine wpList_append_own_none rfl _ _ 43 rfl w.heap.size 5 i0 1 Tryz.underlying43 hi _ 0 _ rfl hown00 rfl ?_)
        go_wp2
        go_ret
        refine ⟨_, rfl, ?_, hb3.alloc hs3 _⟩
        rw [hz]; simpa using hown00
      | some ad =>
        go_enter Tryz.func35, Tryz.ntmps35
        go_wp2_with fail
        refine (qsteps.out _ (Below.refl _ _)).mono ?_
        rintro e w1 ⟨rfl, q1, hw1⟩
        have hb1 : Below w.heap.size w w1 := by rw [hw1]; exact below_drewN (Below.refl _ _) q1
        clear hw1
        go_wp2_with fail
        refine (qshare.out _ hb1).mono ?_
        rintro e w3 ⟨rfl, q3, hw3⟩
        have hb3 : Below w.heap.size w w3 := by rw [hw3]; exact below_drewN hb1 q3
        have hown00 := World.ownsRow_lit (base := w.heap.size) (e := 5) (size := 1) w3 #[] 0 hb3.size hm0 rfl
        have hs3 := hb3.size
        clear hw3
        have hsrc := rd_src (((rd_take hra J).later (hb3)).later ((Below.refl w3.heap.size w3).alloc (Nat.le_refl _) (.cells #[] 5)))
        have k0 : ((xs.take J).map (Value.int .u8)).length = J * 1 := by rw [List.length_map, ← hZ1.out, hZ2.out]; omega
        have k3 : 0 + J ≤ maxLen := by unfold maxLen; omega
        have k4 : (0 + J) * 1 ≤ 140737488355328 := by omega
        have k5 : w.heap.size ≤ (w3.alloc (.cells #[] 5)).heap.size := by simp; omega
        have K5 : Hid (_ ∧ _ ∧ _ ∧ _ ∧ _) := ⟨k0, hsrc, k3, k4, k5⟩
        clear k0 k3 k4 k5 hsrc
        go_wp2_with (at_builtin; refine wpList_append_own _ rfl _ _ 43 rfl w.heap.size 5 i0 (.int .u8 0) 1 1 Tryz.underlying43 hi hz0 hz1 hz2 rfl (by decide) _ _ _ rfl hown00 ad J _ ((xs.take J).map (Value.int .u8)) rfl K5.out.1 K5.out.2.1 (bytes_oneCell _) K5.out.2.2.1 K5.out.2.2.2.1 K5.out.2.2.2.2 ?_)
        intro v0 w4 hown1 hgrow1 _
        have hbel1 : Below w.heap.size w w4 := (hb3.alloc hs3 _).grown hgrow1 (by simp; omega) (fun k h => by simp [Value.ownBlock] at h; omega)
        go_wp2
        go_ret
        exact ⟨_, rfl, by simpa using hown1, hbel1⟩
    · have hcmp : ¬ (K : Int) ≤ (n : Int) - (S : Int) := by omega
      obtain ⟨J, hJ⟩ : ∃ J : Nat, J = S + K - (n - S) := ⟨_, rfl⟩
      have hJe : (S : Int) + (K : Int) - ((n : Int) - (S : Int)) = (J : Int) := by omega
      have hJb : J ≤ m := by have := HT2.out; omega
      have hZ1 : Hid (Z = ys.take J) := by show Z = _; rw [hval.out, if_neg hle, hJ]
      have HJ : Hid (J = S + K - (n - S)) := hJ
      clear hJ
      have hZ2 : Hid (Z.length = J) := by show Z.length = _; rw [hZ1.out, List.length_take]; have := hl.out; have := hm.out; omega
      rw [hZ2.out, hZ1.out]
      clear hval hlen
      cases b with
      | none =>
        have hz := rd_none hrb
        exfalso
        have h0 : m = 0 := by have := hm.out; rw [hz] at this; simpa using this.symm
        have := HJ.out
        omega
      | some ad =>
        go_enter Tryz.func35, Tryz.ntmps35
        go_wp2_with fail
        refine (qsteps.out _ (Below.refl _ _)).mono ?_
        rintro e w1 ⟨rfl, q1, hw1⟩
        have hb1 : Below w.heap.size w w1 := by rw [hw1]; exact below_drewN (Below.refl _ _) q1
        clear hw1
        go_wp2_with fail
        refine (qshare.out _ hb1).mono ?_
        rintro e w3 ⟨rfl, q3, hw3⟩
        have hb3 : Below w.heap.size w w3 := by rw [hw3]; exact below_drewN hb1 q3
        have hown00 := World.ownsRow_lit (base := w.heap.size) (e := 5) (size := 1) w3 #[] 0 hb3.size hm0 rfl
        have hs3 := hb3.size
        clear hw3
        have hsrc := rd_src (((rd_take hrb J).later (hb3)).later ((Below.refl w3.heap.size w3).alloc (Nat.le_refl _) (.cells #[] 5)))
        have k0 : ((ys.take J).map (Value.int .u8)).length = J * 1 := by rw [List.length_map, ← hZ1.out, hZ2.out]; omega
        have k3 : 0 + J ≤ maxLen := by unfold maxLen; omega
        have k4 : (0 + J) * 1 ≤ 140737488355328 := by omega
        have k5 : w.heap.size ≤ (w3.alloc (.cells #[] 5)).heap.size := by simp; omega
        have K5 : Hid (_ ∧ _ ∧ _ ∧ _ ∧ _) := ⟨k0, hsrc, k3, k4, k5⟩
        clear k0 k3 k4 k5 hsrc
        go_wp2_with (at_builtin; refine wpList_append_own _ rfl _ _ 43 rfl w.heap.size 5 i0 (.int .u8 0) 1 1 Tryz.underlying43 hi hz0 hz1 hz2 rfl (by decide) _ _ _ rfl hown00 ad J _ ((ys.take J).map (Value.int .u8)) rfl K5.out.1 K5.out.2.1 (bytes_oneCell _) K5.out.2.2.1 K5.out.2.2.2.1 K5.out.2.2.2.2 ?_)
        intro v0 w4 hown1 hgrow1 _
        have hbel1 : Below w.heap.size w w4 := (hb3.alloc hs3 _).grown hgrow1 (by simp; omega) (fun k h => by simp [Value.ownBlock] at h; omega)
        go_wp2
        go_ret
        exact ⟨_, rfl, by simpa using hown1, hbel1⟩

theorem own_base2 {w : World} {base base' : Nat} {e : TypeId} {size : Nat} {v : Value} {n : Nat} {xs : List Value} (h : w.ownsRow base e size v n xs) (hb : base' ≤ base) : w.ownsRow base' e size v n xs := by
  refine ⟨h.1, ?_⟩
  rcases h.2 with h1 | ⟨g, cap, cur, hv, hg, r⟩
  · exact .inl h1
  · exact .inr ⟨g, cap, cur, hv, Nat.le_trans hb hg, r⟩

set_option maxRecDepth 100000 in
set_option maxHeartbeats 2000000 in
theorem implTear_any (a b : Option Addr) (n m ca cb : Nat) (xs ys : List Int) (k : Int) (w : World) (hl : Hid (xs.length = n)) (hm : Hid (ys.length = m)) (hra : Rd w a xs) (hrb : Rd w b ys) (hn : n ≤ 2097152) (hmm : m ≤ 2097152)
    (hca : n ≤ ca) (hcb : m ≤ cb) (hcm : ca ≤ maxLen) (hcn : cb ≤ maxLen) (hna : a = none → ca = 0) (hnb : b = none → cb = 0) (hk1 : -9223372036854775808 ≤ k) (hk2 : k ≤ 9223372036854775807) :
    Calls Tryz.prog 99 #[.slice a n ca, .slice b m cb, .int .i64 k] w fun e w' => ∃ v, e = .returned v ∧ w'.ownsRow w.heap.size 5 1 v (tear xs ys k).length ((tear xs ys k).map (Value.int .u8)) ∧ Below w.heap.size w w' := by
  obtain ⟨i0, hi, hz0, hz1, hz2⟩ := info_parts Tryz.infoB
  have hm0 : (0 : Nat) ≤ maxLen := Nat.zero_le _
  have hlen : Hid ((tear xs ys k).length = if tk xs ys k ≤ xs.length - share xs ys then xs.length - tk xs ys k else share xs ys + tk xs ys k - (xs.length - share xs ys)) := tearAt_len xs ys (tk xs ys k) (tk_le xs ys k)
  have hval : Hid (tear xs ys k = if tk xs ys k ≤ xs.length - share xs ys then xs.take (xs.length - tk xs ys k) else ys.take (share xs ys + tk xs ys k - (xs.length - share xs ys))) := rfl
  have hkle := tk_le xs ys k
  have HK : Hid (tk xs ys k = if k < 0 then 0 else if (tsteps xs ys : Int) < k then tsteps xs ys else k.toNat) := rfl
  obtain ⟨Z, hZ⟩ : ∃ Z, Z = tear xs ys k := ⟨_, rfl⟩
  obtain ⟨K, hK⟩ : ∃ K, K = tk xs ys k := ⟨_, rfl⟩
  obtain ⟨T, hT⟩ : ∃ T, T = tsteps xs ys := ⟨_, rfl⟩
  obtain ⟨S, hS⟩ : ∃ S, S = share xs ys := ⟨_, rfl⟩
  have hT2 : T = (n - S) + (m - S) := by rw [hT, hS]; unfold tsteps; rw [hl.out, hm.out]
  have hSn : S ≤ n := by have := (share_le xs ys).1; rw [hl.out] at this; omega
  have hSm : S ≤ m := by have := (share_le xs ys).2; rw [hm.out] at this; omega
  have qsteps : Hid (∀ w', Below w.heap.size w w' → Calls Tryz.prog 128 #[.slice a n ca, .slice b m cb] w' fun e w'' => e = .returned (.int .i64 T) ∧ ∃ q, w'' = w'.drewN q) := by
    intro w' hb; rw [hT]; exact implSteps_any a b n m _ _ xs ys w' hl hm (hra.later hb) (hrb.later hb) hn hmm
  have qshare : Hid (∀ w', Below w.heap.size w w' → Calls Tryz.prog 127 #[.slice a n ca, .slice b m cb] w' fun e w'' => e = .returned (.int .i64 S) ∧ ∃ q, w'' = w'.drewN q) := by
    intro w' hb; rw [hS]; exact implShare_any a b n m _ _ xs ys w' hl hm (hra.later hb) (hrb.later hb) hn hmm
  rw [← hZ, ← hK, ← hS, hl.out] at hlen
  rw [← hZ, ← hK, ← hS, hl.out] at hval
  rw [← hK, ← hT] at HK
  rw [← hK, ← hT] at hkle
  rw [← hZ]
  clear hZ hK hT hS
  have HT2 : Hid (T = (n - S) + (m - S)) := hT2
  clear hT2
  unfold maxLen at hcm hcn
  by_cases hc0 : k < 0
  · have hKe : K = 0 := by have := HK.out; rw [if_pos hc0] at this; exact this
    subst hKe
    clear HK
    have hmx : ¬ (T : Int) < 0 := by omega
    have hcmp : (0 : Int) ≤ (n : Int) - (S : Int) := by omega
    have hZ1 : Hid (Z = xs.take n) := by show Z = _; rw [hval.out, if_pos (Nat.zero_le _)]; rfl
    have hJb : n ≤ n := Nat.le_refl _
    have hZ2 : Hid (Z.length = n) := by show Z.length = _; rw [hZ1.out, List.length_take]; have := hl.out; have := hm.out; omega
    rw [hZ2.out, hZ1.out]
    clear hval hlen
    go_enter Tryz.func99, Tryz.ntmps99
    go_wp2_with fail
    refine (qshare.out _ (Below.refl _ _)).mono ?_
    rintro e w1 ⟨rfl, q1, hw1⟩
    have hb1 : Below w.heap.size w w1 := by rw [hw1]; exact below_drewN (Below.refl _ _) q1
    clear hw1
    go_wp2_with fail
    refine (qsteps.out _ hb1).mono ?_
    rintro e w2 ⟨rfl, q2, hw2⟩
    have hb3 : Below w.heap.size w w2 := by rw [hw2]; exact below_drewN hb1 q2
    clear hw2
    go_wp2_with fail
    refine (clone_any _ n _ (xs.take n) _ (by show _ = n; rw [← hZ1.out]; exact hZ2.out) ((rd_take hra n).later hb3) (by omega)).mono ?_
    rintro e w4 ⟨v, rfl, hown, hb4⟩
    have hb5 := hb3.trans (hb4.mono hb3.size)
    have hown5 := own_base2 hown hb3.size
    go_wp2
    go_ret
    exact ⟨_, rfl, hown5, hb5⟩
  by_cases hc1 : (T : Int) < k
  · have hKe : K = T := by have := HK.out; rw [if_neg hc0, if_pos hc1] at this; exact this
    subst hKe
    clear HK
    by_cases hle : K ≤ n - S
    · have hcmp : (K : Int) ≤ (n : Int) - (S : Int) := by omega
      obtain ⟨J, hJ⟩ : ∃ J : Nat, J = n - K := ⟨_, rfl⟩
      have hJe : (n : Int) - (K : Int) = (J : Int) := by omega
      have hJb : J ≤ n := by have := HT2.out; omega
      have hZ1 : Hid (Z = xs.take J) := by show Z = _; rw [hval.out, if_pos hle, hJ]
      have HJ : Hid (J = n - K) := hJ
      clear hJ
      have hZ2 : Hid (Z.length = J) := by show Z.length = _; rw [hZ1.out, List.length_take]; have := hl.out; have := hm.out; omega
      rw [hZ2.out, hZ1.out]
      clear hval hlen
      go_enter Tryz.func99, Tryz.ntmps99
      go_wp2_with fail
      refine (qshare.out _ (Below.refl _ _)).mono ?_
      rintro e w1 ⟨rfl, q1, hw1⟩
      have hb1 : Below w.heap.size w w1 := by rw [hw1]; exact below_drewN (Below.refl _ _) q1
      clear hw1
      go_wp2_with fail
      refine (qsteps.out _ hb1).mono ?_
      rintro e w2 ⟨rfl, q2, hw2⟩
      have hb3 : Below w.heap.size w w2 := by rw [hw2]; exact below_drewN hb1 q2
      clear hw2
      go_wp2_with fail
      refine (clone_any _ J _ (xs.take J) _ (by show _ = J; rw [← hZ1.out]; exact hZ2.out) ((rd_take hra J).later hb3) (by omega)).mono ?_
      rintro e w4 ⟨v, rfl, hown, hb4⟩
      have hb5 := hb3.trans (hb4.mono hb3.size)
      have hown5 := own_base2 hown hb3.size
      go_wp2
      go_ret
      exact ⟨_, rfl, hown5, hb5⟩
    · have hcmp : ¬ (K : Int) ≤ (n : Int) - (S : Int) := by omega
      obtain ⟨J, hJ⟩ : ∃ J : Nat, J = S + K - (n - S) := ⟨_, rfl⟩
      have hJe : (S : Int) + (K : Int) - ((n : Int) - (S : Int)) = (J : Int) := by omega
      have hJb : J ≤ m := by have := HT2.out; omega
      have hZ1 : Hid (Z = ys.take J) := by show Z = _; rw [hval.out, if_neg hle, hJ]
      have HJ : Hid (J = S + K - (n - S)) := hJ
      clear hJ
      have hZ2 : Hid (Z.length = J) := by show Z.length = _; rw [hZ1.out, List.length_take]; have := hl.out; have := hm.out; omega
      rw [hZ2.out, hZ1.out]
      clear hval hlen
      go_enter Tryz.func99, Tryz.ntmps99
      go_wp2_with fail
      refine (qshare.out _ (Below.refl _ _)).mono ?_
      rintro e w1 ⟨rfl, q1, hw1⟩
      have hb1 : Below w.heap.size w w1 := by rw [hw1]; exact below_drewN (Below.refl _ _) q1
      clear hw1
      go_wp2_with fail
      refine (qsteps.out _ hb1).mono ?_
      rintro e w2 ⟨rfl, q2, hw2⟩
      have hb3 : Below w.heap.size w w2 := by rw [hw2]; exact below_drewN hb1 q2
      clear hw2
      go_wp2_with fail
      refine (clone_any _ J _ (ys.take J) _ (by show _ = J; rw [← hZ1.out]; exact hZ2.out) ((rd_take hrb J).later hb3) (by omega)).mono ?_
      rintro e w4 ⟨v, rfl, hown, hb4⟩
      have hb5 := hb3.trans (hb4.mono hb3.size)
      have hown5 := own_base2 hown hb3.size
      go_wp2
      go_ret
      exact ⟨_, rfl, hown5, hb5⟩
  · have hKe : k = (K : Int) := by have := HK.out; rw [if_neg hc0, if_neg hc1] at this; omega
    subst hKe
    clear HK
    by_cases hle : K ≤ n - S
    · have hcmp : (K : Int) ≤ (n : Int) - (S : Int) := by omega
      obtain ⟨J, hJ⟩ : ∃ J : Nat, J = n - K := ⟨_, rfl⟩
      have hJe : (n : Int) - (K : Int) = (J : Int) := by omega
      have hJb : J ≤ n := by have := HT2.out; omega
      have hZ1 : Hid (Z = xs.take J) := by show Z = _; rw [hval.out, if_pos hle, hJ]
      have HJ : Hid (J = n - K) := hJ
      clear hJ
      have hZ2 : Hid (Z.length = J) := by show Z.length = _; rw [hZ1.out, List.length_take]; have := hl.out; have := hm.out; omega
      rw [hZ2.out, hZ1.out]
      clear hval hlen
      go_enter Tryz.func99, Tryz.ntmps99
      go_wp2_with fail
      refine (qshare.out _ (Below.refl _ _)).mono ?_
      rintro e w1 ⟨rfl, q1, hw1⟩
      have hb1 : Below w.heap.size w w1 := by rw [hw1]; exact below_drewN (Below.refl _ _) q1
      clear hw1
      go_wp2_with fail
      refine (qsteps.out _ hb1).mono ?_
      rintro e w2 ⟨rfl, q2, hw2⟩
      have hb3 : Below w.heap.size w w2 := by rw [hw2]; exact below_drewN hb1 q2
      clear hw2
      go_wp2_with fail
      refine (clone_any _ J _ (xs.take J) _ (by show _ = J; rw [← hZ1.out]; exact hZ2.out) ((rd_take hra J).later hb3) (by omega)).mono ?_
      rintro e w4 ⟨v, rfl, hown, hb4⟩
      have hb5 := hb3.trans (hb4.mono hb3.size)
      have hown5 := own_base2 hown hb3.size
      go_wp2
      go_ret
      exact ⟨_, rfl, hown5, hb5⟩
    · have hcmp : ¬ (K : Int) ≤ (n : Int) - (S : Int) := by omega
      obtain ⟨J, hJ⟩ : ∃ J : Nat, J = S + K - (n - S) := ⟨_, rfl⟩
      have hJe : (S : Int) + (K : Int) - ((n : Int) - (S : Int)) = (J : Int) := by omega
      have hJb : J ≤ m := by have := HT2.out; omega
      have hZ1 : Hid (Z = ys.take J) := by show Z = _; rw [hval.out, if_neg hle, hJ]
      have HJ : Hid (J = S + K - (n - S)) := hJ
      clear hJ
      have hZ2 : Hid (Z.length = J) := by show Z.length = _; rw [hZ1.out, List.length_take]; have := hl.out; have := hm.out; omega
      rw [hZ2.out, hZ1.out]
      clear hval hlen
      go_enter Tryz.func99, Tryz.ntmps99
      go_wp2_with fail
      refine (qshare.out _ (Below.refl _ _)).mono ?_
      rintro e w1 ⟨rfl, q1, hw1⟩
      have hb1 : Below w.heap.size w w1 := by rw [hw1]; exact below_drewN (Below.refl _ _) q1
      clear hw1
      go_wp2_with fail
      refine (qsteps.out _ hb1).mono ?_
      rintro e w2 ⟨rfl, q2, hw2⟩
      have hb3 : Below w.heap.size w w2 := by rw [hw2]; exact below_drewN hb1 q2
      clear hw2
      go_wp2_with fail
      refine (clone_any _ J _ (ys.take J) _ (by show _ = J; rw [← hZ1.out]; exact hZ2.out) ((rd_take hrb J).later hb3) (by omega)).mono ?_
      rintro e w4 ⟨v, rfl, hown, hb4⟩
      have hb5 := hb3.trans (hb4.mono hb3.size)
      have hown5 := own_base2 hown hb3.size
      go_wp2
      go_ret
      exact ⟨_, rfl, hown5, hb5⟩

end Go.Proofs.YtkaegbhmeonjfaaGreat
