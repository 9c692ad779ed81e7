/-
  FrameRead of the model. By program (rfgen.py).
-/
import Derived.Test.YtbjmjmammpgbmaaRfL
import Derived.Test.YtbjmjmammpgbmaaFrS
import Derived.Test.YtbjmjmammpgbmaaConv
import Derived.Deep.RegionHeld3
import Derived.Handy
namespace Go.Proofs.Ytbjmjmammpgbmaa
open Go.RowKit
set_option linter.unusedVariables false
set_option linter.unusedSimpArgs false

set_option maxRecDepth 100000 in
set_option maxHeartbeats 8000000 in
theorem specRf_far (b off n c : Nat) (zs : List Int) (P s : Nat) (num sm : Int) (w : World) (hl : zs.length = n) (hb : b < w.heap.size) (hc : ∀ i, i < n → w.cell? ⟨b, off + i, none⟩ = some (.int .u8 (zs[i]?.getD 0))) (hz : Byt zs)
    (hcn : n ≤ c) (hcm : c ≤ maxLen) (hn : n ≤ 1048576) (hP : P + 10 ≤ n) (hs : gnum zs P 2 = (s : Int)) (hnum : gnum zs (P + 2) 4 = num) (R : Int × ByteArray × Int × Int) (hR : frAns zs (P : Int) = R) :
    Calls Try.prog 16 #[.slice (some ⟨b, off, none⟩) n c, .int .i64 (P : Int)] w fun e w' => e = .returned (.tuple #[.agg #[.int .i64 R.1, .string R.2.1], .int .i64 R.2.2.1, .int .i64 R.2.2.2]) ∧ Below w.heap.size w w' := by
  have HC : Hid (∀ w', Below w.heap.size w w' → ∀ i, i < n → w'.cell? ⟨b, off + i, none⟩ = some (.int .u8 (zs[i]?.getD 0))) := fun w' hb' i hi => (hb'.cell (p := ⟨b, off + i, none⟩) hb).trans (hc i hi)
  have HRd : Hid (∀ w', Below w.heap.size w w' → Rd w' (some ⟨b, off, none⟩) zs) := fun w' hb' => ⟨hz, .inr ⟨b, off, rfl, Nat.lt_of_lt_of_le hb hb'.size, fun i hi => HC.out w' hb' i (by rw [hl] at hi; exact hi)⟩⟩
  have q1 : Hid (∀ w', Below w.heap.size w w' → Calls Try.prog 35 #[.slice (some ⟨b, off, none⟩) n c, .int .i64 (P : Int), .int .i64 2] w' fun e w'' => e = .returned (.tuple #[.int .i64 (s : Int), .bool true]) ∧ w'' = w') := fun w' hb' => by rw [← hs]; exact specGet_yes _ n c zs P 2 w' hl (HRd.out w' hb') (by omega) (by omega) (by omega) (by omega)
  have q2 : Hid (∀ w', Below w.heap.size w w' → Calls Try.prog 35 #[.slice (some ⟨b, off, none⟩) n c, .int .i64 ((P : Int) + 2), .int .i64 4] w' fun e w'' => e = .returned (.tuple #[.int .i64 num, .bool true]) ∧ w'' = w') := fun w' hb' => by rw [← hnum]; exact specGet_yes _ n c zs (P + 2) 4 w' hl (HRd.out w' hb') (by omega) (by omega) (by omega) (by omega)
  have hnb := gnum4_bd zs hz (P + 2)
  rw [hnum] at hnb
  have hsb := gnum2_bd zs hz P
  rw [hs] at hsb
  have hsn : s < 65536 := by omega
  have hR' := hR
  unfold frAns at hR'
  have eP : ((P : Int)).toNat = P := by omega
  rw [hl, eP, hs, hnum, if_neg (by omega), if_neg (by omega)] at hR'
  have bW0 : Below w.heap.size w (w.alloc (.cells #[.int .i64 0, .string ⟨#[]⟩] 33)) := (Below.refl _ _).alloc (Nat.le_refl _) _
  have t1 : ¬ ((P : Int) < 0) := by omega
  have t2 : ¬ ((n : Int) < (P : Int)) := by omega
  have t3 : ¬ ((n : Int) - (P : Int) < 10) := by omega
  by_cases h3 : s = 0
  · rw [if_pos (by omega)] at hR'
    have HR' : Hid (R = (0, ByteArray.empty, 0, 3)) := hR'.symm
    rw [HR'.out]
    clear hR hR' HR' HC HRd hc hl hz hs hnum
    subst h3
    go_enter Try.func16, Try.ntmps16
    go_wp2_with fail
    refine (q1.out _ bW0).mono ?_
    rintro e w1 ⟨rfl, rfl⟩
    go_wp2_with fail
    refine (q2.out _ bW0).mono ?_
    rintro e w2 ⟨rfl, rfl⟩
    go_wp2
    go_returns
    exact ⟨rfl, bW0⟩
  by_cases h3' : 1000 < s
  · rw [if_pos (by omega)] at hR'
    have HR' : Hid (R = (0, ByteArray.empty, 0, 3)) := hR'.symm
    rw [HR'.out]
    clear hR hR' HR' HC HRd hc hl hz hs hnum
    have s0 : ¬ ((s : Int) = 0) := by omega
    have s1 : ((1000 : Int) < (s : Int)) := by omega
    go_enter Try.func16, Try.ntmps16
    go_wp2_with fail
    refine (q1.out _ bW0).mono ?_
    rintro e w1 ⟨rfl, rfl⟩
    go_wp2_with fail
    refine (q2.out _ bW0).mono ?_
    rintro e w2 ⟨rfl, rfl⟩
    go_wp2
    go_returns
    exact ⟨rfl, bW0⟩
  rw [if_neg (by omega)] at hR'
  have s0 : ¬ ((s : Int) = 0) := by omega
  have s1 : ¬ ((1000 : Int) < (s : Int)) := by omega
  have s2 : ((s : Int) == 0) = false := by simp; omega
  have s3 : decide ((1000 : Int) < (s : Int)) = false := by simp; omega
  have s4 : (s == 0) = false := by simp; omega
  have s5 : decide (1000 < s) = false := by simp; omega
  by_cases h4 : (n : Int) - (P : Int) - 10 < (s : Int)
  · rw [if_pos h4] at hR'
    have HR' : Hid (R = (0, ByteArray.empty, 0, 4)) := hR'.symm
    rw [HR'.out]
    clear hR hR' HR' HC HRd hc hl hz hs hnum
    go_enter Try.func16, Try.ntmps16
    go_wp2_with fail
    refine (q1.out _ bW0).mono ?_
    rintro e w1 ⟨rfl, rfl⟩
    go_wp2_with fail
    refine (q2.out _ bW0).mono ?_
    rintro e w2 ⟨rfl, rfl⟩
    go_wp2
    go_returns
    exact ⟨rfl, bW0⟩
  rw [if_neg h4] at hR'
  by_cases h5 : num = 0
  · rw [if_pos (by omega)] at hR'
    have HR' : Hid (R = (0, ByteArray.empty, 0, 5)) := hR'.symm
    rw [HR'.out]
    clear hR hR' HR' HC HRd hc hl hz hs hnum
    subst h5
    go_enter Try.func16, Try.ntmps16
    go_wp2_with fail
    refine (q1.out _ bW0).mono ?_
    rintro e w1 ⟨rfl, rfl⟩
    go_wp2_with fail
    refine (q2.out _ bW0).mono ?_
    rintro e w2 ⟨rfl, rfl⟩
    go_wp2
    go_returns
    exact ⟨rfl, bW0⟩
  by_cases h5' : 1000000000 < num
  · rw [if_pos (by omega)] at hR'
    have HR' : Hid (R = (0, ByteArray.empty, 0, 5)) := hR'.symm
    rw [HR'.out]
    clear hR hR' HR' HC HRd hc hl hz hs hnum
    go_enter Try.func16, Try.ntmps16
    go_wp2_with fail
    refine (q1.out _ bW0).mono ?_
    rintro e w1 ⟨rfl, rfl⟩
    go_wp2_with fail
    refine (q2.out _ bW0).mono ?_
    rintro e w2 ⟨rfl, rfl⟩
    go_wp2
    go_returns
    exact ⟨rfl, bW0⟩
  rw [if_neg (by omega)] at hR'
  exact specRf_last b off n c zs P s num w hl hb hc hz hcn hcm hn hP hs hnum (by omega) (by omega) (by omega) (by omega) (by omega) R hR'

end Go.Proofs.Ytbjmjmammpgbmaa
