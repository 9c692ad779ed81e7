/-
  EmitGoto, the model's and the program's.
-/
import Derived.Test.YthgbionamelloaaDoorNum
import Derived.Test.YthgbionamelloaaDoorOwC
import Derived.Test.YthgbionamelloaaDoorPlain
namespace Go.Proofs.YthgbionamelloaaDoor
open Go.RowKit
set_option linter.unusedVariables false
set_option linter.unusedSimpArgs false

def decT (n : Nat) : ByteArray := ⟨(Lib.decDigits n).toArray⟩
def gotoT (x y : Nat) : ByteArray := (((⟨#[27, 91]⟩ ++ decT (y + 1)) ++ ⟨#[59]⟩) ++ decT (x + 1)) ++ ⟨#[72]⟩
def bytesZ (s : ByteArray) : List Int := s.data.toList.map fun b => (b.toNat : Int)
def gotoZ (x y : Int) : List Int := if 0 ≤ x ∧ x < 200 ∧ 0 ≤ y ∧ y < 200 then bytesZ (gotoT x.toNat y.toNat) else []

theorem dec_len (n : Nat) (h : n ≤ 99999) : (decT n).size ≤ 5 := by
  show (Lib.decDigits n).toArray.size ≤ 5
  rw [List.size_toArray, Lib.decDigits_length]
  have h1 : Lib.nDigits n ≤ 1 + Lib.nDigits (n / 10) := by
    by_cases h : n < 10
    · rw [Lib.nDigits_small h]; omega
    · rw [Lib.nDigits_big h]; omega
  have h2 : Lib.nDigits (n / 10) ≤ 1 + Lib.nDigits (n / 10 / 10) := by
    by_cases h : n / 10 < 10
    · rw [Lib.nDigits_small h]; omega
    · rw [Lib.nDigits_big h]; omega
  have h3 : Lib.nDigits (n / 10 / 10) ≤ 1 + Lib.nDigits (n / 10 / 10 / 10) := by
    by_cases h : n / 10 / 10 < 10
    · rw [Lib.nDigits_small h]; omega
    · rw [Lib.nDigits_big h]; omega
  have h4 : Lib.nDigits (n / 10 / 10 / 10) ≤ 2 := by
    by_cases h : n / 10 / 10 / 10 < 10
    · rw [Lib.nDigits_small h]; omega
    · rw [Lib.nDigits_big h, Lib.nDigits_small (by omega)]; omega
  omega

theorem gotoT_size {x y : Nat} (hx : x < 200) (hy : y < 200) : (gotoT x y).size ≤ 16 := by
  unfold gotoT
  have h1 := dec_len (x + 1) (by omega)
  have h2 := dec_len (y + 1) (by omega)
  simp only [ByteArray.size_append]
  have e1 : (⟨#[27, 91]⟩ : ByteArray).size = 2 := rfl
  have e2 : (⟨#[59]⟩ : ByteArray).size = 1 := rfl
  have e3 : (⟨#[72]⟩ : ByteArray).size = 1 := rfl
  omega

theorem bytesZ_len (s : ByteArray) : (bytesZ s).length = s.size := by simp [bytesZ]

theorem gotoZ_len (x y : Int) : (gotoZ x y).length ≤ 16 := by
  unfold gotoZ
  split
  · rw [bytesZ_len]; exact gotoT_size (by omega) (by omega)
  · simp


theorem tab_later {w w' : World} {P : Program} {n : String} {k : IntKind} {l : List Int} (h : Lib.TabIs P w n k l) (hb : Below w.heap.size w w') : Lib.TabIs P w' n k l := by
  unfold Lib.TabIs World.var? at h ⊢
  cases hg : P.globalNamed n with
  | none => simp [hg] at h
  | some g =>
    simp only [hg, Option.bind_some] at h ⊢
    have hlt : g < w.heap.size := by
      rcases Nat.lt_or_ge g w.heap.size with h' | h'
      · exact h'
      · simp [Array.getElem?_eq_none h'] at h
    rw [hb.block g hlt]
    exact h

set_option maxRecDepth 100000 in
set_option maxHeartbeats 1000000 in
theorem specGoto_yes (x y : Nat) (w : World) (hx : x < 200) (hy : y < 200) :
    Calls Tryd.prog 15 #[.int .i64 x, .int .i64 y] w fun e w' => ∃ v F, e = .returned v ∧ OwC w' w.heap.size v (bytesZ (gotoT x y)) F ∧ F.Nodup ∧ Below w.heap.size w w' := by
  have qn : Hid (∀ (k : Nat) (z : Int) (w' : World), z = k → k ≤ 200 → Below w.heap.size w w' → Calls Tryd.prog 17 #[.int .i64 z] w' fun e w'' => e = .returned (.string (decT k)) ∧ Below w'.heap.size w' w'') := fun k z w' hz hk _ => by subst hz; exact specNum_yes k (by omega) w'
  have d1 : decide ((x : Int) < 0) = false := decide_eq_false (by omega)
  have d2 : decide ((200 : Int) ≤ (x : Int)) = false := decide_eq_false (by omega)
  have d3 : decide ((y : Int) < 0) = false := decide_eq_false (by omega)
  have d4 : decide ((200 : Int) ≤ (y : Int)) = false := decide_eq_false (by omega)
  have HS : Hid ((gotoT x y).size ≤ maxLen) := by have := gotoT_size hx hy; show _ ≤ maxLen; unfold maxLen; omega
  have q1 := fun w' hb => qn.out (y + 1) ((y : Int) + 1) w' (by omega) (by omega) hb
  have q2 := fun w' hb => qn.out (x + 1) ((x : Int) + 1) w' (by omega) (by omega) hb
  obtain ⟨A, hA⟩ : ∃ A, A = decT (y + 1) := ⟨_, rfl⟩
  obtain ⟨C, hC⟩ : ∃ C, C = decT (x + 1) := ⟨_, rfl⟩
  have HT : Hid ((((⟨#[27, 91]⟩ ++ A) ++ ⟨#[59]⟩) ++ C) ++ ⟨#[72]⟩ = gotoT x y) := by show _ = _; rw [hA, hC]; rfl
  rw [← hA] at q1
  rw [← hC] at q2
  have s1 : A.size ≤ 5 := by rw [hA]; exact dec_len _ (by omega)
  have s2 : C.size ≤ 5 := by rw [hC]; exact dec_len _ (by omega)
  have Q1 : Hid _ := q1
  have Q2 : Hid _ := q2
  have hcv := fun W : World => Lib.run_convert_string_bytes (P := Tryd.prog) W 9 26 5 ((((⟨#[27, 91]⟩ ++ A) ++ ⟨#[59]⟩) ++ C) ++ ⟨#[72]⟩) Tryd.underlying9 Tryd.underlying26 Tryd.underlying5
  clear hA hC q1 q2 qn
  go_enter Tryd.func15, Tryd.ntmps15
  go_wp2_with fail
  refine (Q1.out _ (Below.refl _ _)).mono ?_
  rintro e w1 ⟨rfl, hb1⟩
  go_wp2_with fail
  refine (Q2.out _ hb1).mono ?_
  rintro e w2 ⟨rfl, hb2⟩
  have hb2' := hb1.trans (hb2.mono hb1.size)
  have hz2 := hb2'.size
  clear hb1 hb2
  go_wp2
  go_ret
  have ho := (owC_conv w2 (gotoT x y) HS.out).base hz2
  have hb := hb2'.trans ((below_conv w2 (gotoT x y)).mono hz2)
  have es : ((((⟨#[27, 91]⟩ ++ A) ++ ⟨#[59]⟩) ++ C) ++ ⟨#[72]⟩ : ByteArray).size = 2 + A.size + 1 + C.size + 1 := by simp only [ByteArray.size_append]; rfl
  rw [← HT.out] at ho hb ⊢
  rw [es] at ho
  exact ⟨_, [w2.heap.size], rfl, ho, by simp, hb⟩

set_option maxRecDepth 100000 in
set_option maxHeartbeats 1000000 in
theorem specGoto_no (x y : Int) (w : World) (h : ¬ (0 ≤ x ∧ x < 200 ∧ 0 ≤ y ∧ y < 200)) :
    Calls Tryd.prog 15 #[.int .i64 x, .int .i64 y] w fun e w' => e = .returned (.slice none 0 0) ∧ w' = w := by
  by_cases h1 : x < 0
  · have d1 : decide (x < 0) = true := decide_eq_true h1
    clear h h1
    go_enter Tryd.func15, Tryd.ntmps15
    go_wp2
    go_ret
    exact ⟨rfl, rfl⟩
  have d1 : decide (x < 0) = false := decide_eq_false h1
  by_cases h2 : 200 ≤ x
  · have d2 : decide (200 ≤ x) = true := decide_eq_true h2
    clear h h1 h2
    go_enter Tryd.func15, Tryd.ntmps15
    go_wp2
    go_ret
    exact ⟨rfl, rfl⟩
  have d2 : decide (200 ≤ x) = false := decide_eq_false h2
  by_cases h3 : y < 0
  · have d3 : decide (y < 0) = true := decide_eq_true h3
    clear h h1 h2 h3
    go_enter Tryd.func15, Tryd.ntmps15
    go_wp2
    go_ret
    exact ⟨rfl, rfl⟩
  have d3 : decide (y < 0) = false := decide_eq_false h3
  have d4 : decide (200 ≤ y) = true := decide_eq_true (by omega)
  clear h h1 h2 h3
  go_enter Tryd.func15, Tryd.ntmps15
  go_wp2
  go_ret
  exact ⟨rfl, rfl⟩

theorem specGoto_any (x y : Int) (w : World) :
    Calls Tryd.prog 15 #[.int .i64 x, .int .i64 y] w fun e w' => ∃ v F, e = .returned v ∧ OwC w' w.heap.size v (gotoZ x y) F ∧ F.Nodup ∧ Below w.heap.size w w' := by
  by_cases h : 0 ≤ x ∧ x < 200 ∧ 0 ≤ y ∧ y < 200
  · obtain ⟨a, rfl⟩ : ∃ a : Nat, x = a := ⟨x.toNat, by omega⟩
    obtain ⟨b, rfl⟩ : ∃ a : Nat, y = a := ⟨y.toNat, by omega⟩
    have e : gotoZ a b = bytesZ (gotoT a b) := by unfold gotoZ; rw [if_pos h]; simp
    rw [e]
    exact specGoto_yes a b w (by omega) (by omega)
  · have e : gotoZ x y = [] := by unfold gotoZ; rw [if_neg h]
    rw [e]
    refine (specGoto_no x y w h).mono ?_
    rintro e w1 ⟨rfl, rfl⟩
    exact ⟨_, _, rfl, OwC.nil _ _, by simp, Below.refl _ _⟩

set_option maxRecDepth 100000 in
set_option maxHeartbeats 1000000 in
theorem implGoto_yes (x y : Nat) (w : World) (hx : x < 200) (hy : y < 200) (htab : Lib.TabIs Tryd.prog w "internal/strconv.uint64pow10" .u64 Lib.pow10Tab) :
    Calls Tryd.prog 21 #[.int .i64 x, .int .i64 y] w fun e w' => ∃ v F, e = .returned v ∧ OwC w' w.heap.size v (bytesZ (gotoT x y)) F ∧ F.Nodup ∧ Below w.heap.size w w' := by
  have qn : Hid (∀ (k : Nat) (z : Int) (w' : World), z = k → k ≤ 200 → Below w.heap.size w w' → Calls Tryd.prog 33 #[.int .i64 z] w' fun e w'' => e = .returned (.string (decT k)) ∧ Below w'.heap.size w' w'') := fun k z w' hz hk hb => by subst hz; exact implNum_yes k (by omega) w' (tab_later htab hb)
  have d1 : decide ((x : Int) < 0) = false := decide_eq_false (by omega)
  have d2 : decide ((200 : Int) ≤ (x : Int)) = false := decide_eq_false (by omega)
  have d3 : decide ((y : Int) < 0) = false := decide_eq_false (by omega)
  have d4 : decide ((200 : Int) ≤ (y : Int)) = false := decide_eq_false (by omega)
  have HS : Hid ((gotoT x y).size ≤ maxLen) := by have := gotoT_size hx hy; show _ ≤ maxLen; unfold maxLen; omega
  have q1 := fun w' hb => qn.out (y + 1) ((y : Int) + 1) w' (by omega) (by omega) hb
  have q2 := fun w' hb => qn.out (x + 1) ((x : Int) + 1) w' (by omega) (by omega) hb
  obtain ⟨A, hA⟩ : ∃ A, A = decT (y + 1) := ⟨_, rfl⟩
  obtain ⟨C, hC⟩ : ∃ C, C = decT (x + 1) := ⟨_, rfl⟩
  have HT : Hid ((((⟨#[27, 91]⟩ ++ A) ++ ⟨#[59]⟩) ++ C) ++ ⟨#[72]⟩ = gotoT x y) := by show _ = _; rw [hA, hC]; rfl
  rw [← hA] at q1
  rw [← hC] at q2
  have s1 : A.size ≤ 5 := by rw [hA]; exact dec_len _ (by omega)
  have s2 : C.size ≤ 5 := by rw [hC]; exact dec_len _ (by omega)
  have Q1 : Hid _ := q1
  have Q2 : Hid _ := q2
  have hcv := fun W : World => Lib.run_convert_string_bytes (P := Tryd.prog) W 9 26 5 ((((⟨#[27, 91]⟩ ++ A) ++ ⟨#[59]⟩) ++ C) ++ ⟨#[72]⟩) Tryd.underlying9 Tryd.underlying26 Tryd.underlying5
  clear hA hC q1 q2 qn
  go_enter Tryd.func21, Tryd.ntmps21
  go_wp2_with fail
  refine (Q1.out _ (Below.refl _ _)).mono ?_
  rintro e w1 ⟨rfl, hb1⟩
  go_wp2_with fail
  refine (Q2.out _ hb1).mono ?_
  rintro e w2 ⟨rfl, hb2⟩
  have hb2' := hb1.trans (hb2.mono hb1.size)
  have hz2 := hb2'.size
  clear hb1 hb2
  go_wp2
  go_ret
  have ho := (owC_conv w2 (gotoT x y) HS.out).base hz2
  have hb := hb2'.trans ((below_conv w2 (gotoT x y)).mono hz2)
  have es : ((((⟨#[27, 91]⟩ ++ A) ++ ⟨#[59]⟩) ++ C) ++ ⟨#[72]⟩ : ByteArray).size = 2 + A.size + 1 + C.size + 1 := by simp only [ByteArray.size_append]; rfl
  rw [← HT.out] at ho hb ⊢
  rw [es] at ho
  exact ⟨_, [w2.heap.size], rfl, ho, by simp, hb⟩

set_option maxRecDepth 100000 in
set_option maxHeartbeats 1000000 in
theorem implGoto_no (x y : Int) (w : World) (h : ¬ (0 ≤ x ∧ x < 200 ∧ 0 ≤ y ∧ y < 200)) :
    Calls Tryd.prog 21 #[.int .i64 x, .int .i64 y] w fun e w' => e = .returned (.slice none 0 0) ∧ w' = w := by
  by_cases h1 : x < 0
  · have d1 : decide (x < 0) = true := decide_eq_true h1
    clear h h1
    go_enter Tryd.func21, Tryd.ntmps21
    go_wp2
    go_ret
    exact ⟨rfl, rfl⟩
  have d1 : decide (x < 0) = false := decide_eq_false h1
  by_cases h2 : 200 ≤ x
  · have d2 : decide (200 ≤ x) = true := decide_eq_true h2
    clear h h1 h2
    go_enter Tryd.func21, Tryd.ntmps21
    go_wp2
    go_ret
    exact ⟨rfl, rfl⟩
  have d2 : decide (200 ≤ x) = false := decide_eq_false h2
  by_cases h3 : y < 0
  · have d3 : decide (y < 0) = true := decide_eq_true h3
    clear h h1 h2 h3
    go_enter Tryd.func21, Tryd.ntmps21
    go_wp2
    go_ret
    exact ⟨rfl, rfl⟩
  have d3 : decide (y < 0) = false := decide_eq_false h3
  have d4 : decide (200 ≤ y) = true := decide_eq_true (by omega)
  clear h h1 h2 h3
  go_enter Tryd.func21, Tryd.ntmps21
  go_wp2
  go_ret
  exact ⟨rfl, rfl⟩

theorem implGoto_any (x y : Int) (w : World) (htab : Lib.TabIs Tryd.prog w "internal/strconv.uint64pow10" .u64 Lib.pow10Tab) :
    Calls Tryd.prog 21 #[.int .i64 x, .int .i64 y] w fun e w' => ∃ v F, e = .returned v ∧ OwC w' w.heap.size v (gotoZ x y) F ∧ F.Nodup ∧ Below w.heap.size w w' := by
  by_cases h : 0 ≤ x ∧ x < 200 ∧ 0 ≤ y ∧ y < 200
  · obtain ⟨a, rfl⟩ : ∃ a : Nat, x = a := ⟨x.toNat, by omega⟩
    obtain ⟨b, rfl⟩ : ∃ a : Nat, y = a := ⟨y.toNat, by omega⟩
    have e : gotoZ a b = bytesZ (gotoT a b) := by unfold gotoZ; rw [if_pos h]; simp
    rw [e]
    exact implGoto_yes a b w (by omega) (by omega) htab
  · have e : gotoZ x y = [] := by unfold gotoZ; rw [if_neg h]
    rw [e]
    refine (implGoto_no x y w h).mono ?_
    rintro e w1 ⟨rfl, rfl⟩
    exact ⟨_, _, rfl, OwC.nil _ _, by simp, Below.refl _ _⟩

end Go.Proofs.YthgbionamelloaaDoor
