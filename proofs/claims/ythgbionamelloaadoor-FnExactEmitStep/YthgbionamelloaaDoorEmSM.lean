/-
  Moving the cursor: the pieces of the model.
-/
import Derived.Test.YthgbionamelloaaDoorEmSP
import Derived.Test.YthgbionamelloaaDoorGrT
import Derived.Deep.AppendLies
namespace Go.Proofs.YthgbionamelloaaDoor
open Go.RowKit
set_option linter.unusedVariables false
set_option linter.unusedSimpArgs false

def numT (n : Int) : ByteArray := if 0 ≤ n ∧ n ≤ 4294967295 then decT n.toNat else ⟨#[]⟩
theorem numT_size {n : Int} (h : n ≤ 99999) : (numT n).size ≤ 5 := by
  unfold numT
  split
  · exact dec_len _ (by omega)
  · exact Nat.zero_le _
theorem specNumT_any (n : Int) (w : World) :
    Calls Tryd.prog 17 #[.int .i64 n] w fun e w' => e = .returned (.string (numT n)) ∧ Below w.heap.size w w' := by
  unfold numT
  by_cases h : 0 ≤ n ∧ n ≤ 4294967295
  · rw [if_pos h]
    obtain ⟨k, rfl⟩ : ∃ k : Nat, n = k := ⟨n.toNat, by omega⟩
    exact specNum_yes k (by omega) w
  · rw [if_neg h]
    refine (specNum_no n (by omega) w).mono ?_
    rintro e w1 ⟨rfl, rfl⟩
    exact ⟨rfl, Below.refl _ _⟩

theorem shorter_any (P : Value → List Int → Prop) (hP : ∀ v l, P v l → ∃ p c, v = .slice p l.length c) (va vb : Value) (la lb : List Int) (ok : Bool) (w : World) (ha : P va la) (hb : P vb lb) :
    Calls Tryd.prog 16 #[va, .bool ok, vb] w fun e w' => ∃ v, e = .returned v ∧ P v (shM la ok lb) ∧ w' = w := by
  obtain ⟨pa, ca, rfl⟩ := hP _ _ ha
  obtain ⟨pb, cb, rfl⟩ := hP _ _ hb
  obtain ⟨n, hn⟩ : ∃ n, n = la.length := ⟨_, rfl⟩
  obtain ⟨m, hm⟩ : ∃ n, n = lb.length := ⟨_, rfl⟩
  rw [← hn] at ha ⊢
  rw [← hm] at hb ⊢
  cases ok with
  | false =>
    have e : shM la false lb = lb := by unfold shM; rw [if_neg (by simp)]
    rw [e]
    have HB : Hid (P (.slice pb m cb) lb) := hb
    clear ha hb hn hm e
    go_enter Tryd.func16, Tryd.ntmps16
    go_wp2
    go_ret
    exact ⟨_, rfl, HB.out, rfl⟩
  | true =>
    by_cases h : n ≤ m
    · have e : shM la true lb = la := by unfold shM; rw [if_pos ⟨rfl, by omega⟩]
      rw [e]
      have HA : Hid (P (.slice pa n ca) la) := ha
      have h' : (n : Int) ≤ (m : Int) := by omega
      clear ha hb hn hm e
      go_enter Tryd.func16, Tryd.ntmps16
      go_wp2
      go_ret
      exact ⟨_, rfl, HA.out, rfl⟩
    · have e : shM la true lb = lb := by unfold shM; rw [if_neg (by omega)]
      rw [e]
      have HB : Hid (P (.slice pb m cb) lb) := hb
      have h' : ¬ (n : Int) ≤ (m : Int) := by omega
      clear ha hb hn hm e
      go_enter Tryd.func16, Tryd.ntmps16
      go_wp2
      go_ret
      exact ⟨_, rfl, HB.out, rfl⟩

theorem shorter_txt (w : World) (B : Nat) (va vb : Value) (la lb : List Int) (ok : Bool) (ha : Txt w B va la) (hb : Txt w B vb lb) :
    Calls Tryd.prog 16 #[va, .bool ok, vb] w fun e w' => ∃ v, e = .returned v ∧ Txt w B v (shM la ok lb) ∧ w' = w :=
  shorter_any (fun v l => Txt w B v l) (fun v l h => h.val) va vb la lb ok w ha hb

theorem sgoto_txt (x y : Int) (w : World) (B : Nat) (hB : B ≤ w.heap.size) :
    Calls Tryd.prog 15 #[.int .i64 x, .int .i64 y] w fun e w' => ∃ v, e = .returned v ∧ Txt w' B v (gotoZ x y) ∧ Below w.heap.size w w' :=
  (specGoto_any x y w).mono fun e w' ⟨v, F, h1, h2, h3, h4⟩ => ⟨v, h1, ⟨F, h2.base hB, h3⟩, h4⟩

theorem txt_row {w : World} {B n : Nat} {v : Value} {d : List Int} (hl : d.length = n) (hb : ∀ x ∈ d, 0 ≤ x ∧ x ≤ 255) (h : w.ownsRow B 5 1 v n (d.map (Value.int .u8))) : Txt w B v d := by
  rcases h.2 with ⟨h1, h2⟩ | ⟨g, cap, cur, hv, hg, hh, h1, h2, h3, h4⟩
  · have e : d = [] := List.eq_nil_of_length_eq_zero (by omega)
    rw [h1, e]; exact Txt.nil w B
  · subst hv; subst hl
    refine ⟨[g], owC_row hg hh h1 h2 (fun i hi => ?_) hb, by simp⟩
    have h5 : (d.map (Value.int .u8))[i]? = some (.int .u8 (d[i]?.getD 0)) := by simp [hi]
    rw [← h4, List.getElem?_take_of_lt (by omega)] at h5
    simpa using h5

theorem txt_conv (w : World) (B : Nat) (s : ByteArray) (hB : B ≤ w.heap.size) (hs : s.size ≤ maxLen) : Txt (Lib.bytesWorld w 5 s) B (.slice (some ⟨w.heap.size, 0, none⟩) s.size (grownCap w s.size 0 5)) (bytesZ s) :=
  ⟨[w.heap.size], (owC_conv w s hs).base hB, by simp⟩

/-- A text of the model's: 27, '[', the number's text, a letter. -/
def stT (n : Int) (f : ByteArray) : ByteArray := (⟨#[27, 91]⟩ ++ numT n) ++ f
theorem stT_pos {n : Int} (h : 0 ≤ n ∧ n ≤ 4294967295) (f : ByteArray) : stT n f = colT n.toNat f := by
  unfold stT colT numT; rw [if_pos h]

/-- What the model's EmitStep comes to. -/
def stepM (X : Int) (row calm : Bool) (x y : Int) : List Int :=
  shM [] (calm && decide (x = X))
    (shM [13] (row && decide (x = 0))
      (shM (List.replicate (X - x).toNat 8) (calm && (decide (1 ≤ (X - x).toNat) && decide ((X - x).toNat ≤ 3)))
        (shM (bytesZ (stT (x - X) fC)) (calm && decide (X < x))
          (shM (bytesZ (stT (X - x) fD)) (calm && decide (x < X)) (gotoZ x y)))))

theorem shM_no (l cur : List Int) : shM l false cur = cur := by unfold shM; rw [if_neg (by simp)]
theorem shM_take {l cur : List Int} (h : l.length ≤ cur.length) : shM l true cur = l := by unfold shM; rw [if_pos ⟨rfl, h⟩]

theorem stepM_ok {X Y x y : Int} {wr : Bool} (h : 0 ≤ x ∧ x < 200 ∧ 0 ≤ y ∧ y < 200) (hX : 0 ≤ X ∧ X < 200) :
    stepM X (decide (y = Y)) (decide (y = Y) && !wr) x y = stepZ X Y wr x y := by
  have hg := gotoZ_size h
  have p1 := nD_pos (y.toNat + 1)
  have p2 := nD_pos (x.toNat + 1)
  unfold stepM stepZ
  by_cases hy : y = Y
  rotate_left
  · rw [if_pos hy]
    have d : decide (y = Y) = false := by simpa using hy
    rw [d]
    simp only [Bool.false_and, shM_no]
  rw [if_neg (by simpa using hy)]
  have d : decide (y = Y) = true := by simpa using hy
  rw [d]
  cases wr with
  | true =>
    rw [if_pos rfl]
    simp only [Bool.not_true, Bool.and_false, Bool.false_and, Bool.true_and, shM_no]
    by_cases h0 : x = 0
    · rw [if_pos h0]
      have e : decide (x = 0) = true := by simpa using h0
      rw [e]
      exact shM_take (by rw [hg]; simp; omega)
    · rw [if_neg h0]
      have e : decide (x = 0) = false := by simpa using h0
      rw [e]
      exact shM_no _ _
  | false =>
    rw [if_neg (by simp)]
    simp only [Bool.not_false, Bool.and_true, Bool.true_and]
    by_cases hxx : x = X
    · rw [if_pos hxx]
      have e : decide (x = X) = true := by simpa using hxx
      rw [e]
      exact shM_take (Nat.zero_le _)
    rw [if_neg hxx]
    have e : decide (x = X) = false := by simpa using hxx
    rw [e, shM_no]
    have hlt : ∀ k : Nat, k < 1000 → (bytesZ (colT k fC)).length ≤ 6 ∧ (bytesZ (colT k fD)).length ≤ 6 := by
      intro k hk
      rw [bytesZ_len, bytesZ_len, colT_size _ _ rfl, colT_size _ _ rfl]
      have := nD_le3 hk
      omega
    have hl0 : ∀ k : Nat, 4 ≤ (bytesZ (colT k fC)).length ∧ 4 ≤ (bytesZ (colT k fD)).length := by
      intro k
      rw [bytesZ_len, bytesZ_len, colT_size _ _ rfl, colT_size _ _ rfl]
      have := nD_pos k
      omega
    by_cases hx : X < x
    · have e1 : decide (X < x) = true := by simpa using hx
      have e2 : decide (x < X) = false := by simp; omega
      have e3 : decide (1 ≤ (X - x).toNat) = false := by simp; omega
      have e4 : decide (x = 0) = false := by simp; omega
      rw [e1, e2, e3, e4]
      simp only [Bool.false_and, Bool.and_false, shM_no]
      rw [if_neg (by omega), if_neg (by omega), if_pos hx, stT_pos (by omega)]
      exact shM_take (by rw [hg]; have := (hlt (x - X).toNat (by omega)).1; omega)
    · have e1 : decide (X < x) = false := by simpa using hx
      have e2 : decide (x < X) = true := by simp; omega
      rw [e1, e2, shM_no, stT_pos (by omega)]
      have q1 : shM (bytesZ (colT (X - x).toNat fD)) true (gotoZ x y) = bytesZ (colT (X - x).toNat fD) := shM_take (by rw [hg]; have := (hlt (X - x).toNat (by omega)).2; omega)
      rw [q1]
      have q4 := (hl0 (X - x).toNat).2
      by_cases hb : 1 ≤ X - x ∧ X - x ≤ 3
      · have e3 : decide (1 ≤ (X - x).toNat) = true := by simp; omega
        have e4 : decide ((X - x).toNat ≤ 3) = true := by simp; omega
        rw [e3, e4]
        have q2 : shM (List.replicate (X - x).toNat 8) (true && true) (bytesZ (colT (X - x).toNat fD)) = List.replicate (X - x).toNat 8 := shM_take (by rw [List.length_replicate]; omega)
        rw [q2]
        by_cases h0 : x = 0
        · have e5 : decide (x = 0) = true := by simpa using h0
          rw [e5, if_pos h0]
          exact shM_take (by rw [List.length_replicate]; simp; omega)
        · have e5 : decide (x = 0) = false := by simpa using h0
          rw [e5, if_neg h0, if_pos hb]
          exact shM_no _ _
      · have e3 : decide ((X - x).toNat ≤ 3) = false := by simp; omega
        rw [e3]
        simp only [Bool.and_false, shM_no]
        by_cases h0 : x = 0
        · have e5 : decide (x = 0) = true := by simpa using h0
          rw [e5, if_pos h0]
          exact shM_take (by simp; omega)
        · have e5 : decide (x = 0) = false := by simpa using h0
          rw [e5, if_neg h0, if_neg hb, if_neg hx]
          exact shM_no _ _

end Go.Proofs.YthgbionamelloaaDoor
