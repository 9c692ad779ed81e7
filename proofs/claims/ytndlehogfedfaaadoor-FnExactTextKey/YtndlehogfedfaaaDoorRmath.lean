/-
  Plain arithmetic: the model's way to read a rune (try each size, write it again, compare) finds what the decoder by ranges finds.
-/
import Derived.Test.YtndlehogfedfaaaDoorRb
import Derived.Lib.DecodeN
namespace Go.Proofs.YtndlehogfedfaaaDoor
open Go.RowKit
set_option linter.unusedVariables false
set_option linter.unusedSimpArgs false

/-- The byte at j, nothing beyond the end. -/
def bt (zs : List Int) (j : Nat) : Int := zs[j]?.getD 0

def base (k : Nat) : Int := if k = 2 then 192 else if k = 3 then 224 else if k = 4 then 240 else 0

/-- The number behind j rounds of the inner loop. -/
def accu (zs : List Int) (A k : Nat) : Nat → Int
  | 0 => bt zs A - base k
  | j + 1 => accu zs A k j * 64 + bt zs (A + (j + 1)) - 128

def cnd (zs : List Int) (A k : Nat) : Int := accu zs A k (k - 1)

theorem accu_bd (zs : List Int) (A k j : Nat) (hb : ∀ i, 0 ≤ bt zs i ∧ bt zs i ≤ 255) (hj : j ≤ 3) : -300000000 ≤ accu zs A k j ∧ accu zs A k j ≤ 300000000 := by
  have h0 := hb A
  have hbase : 0 ≤ base k ∧ base k ≤ 240 := by unfold base; repeat' split
                                               all_goals omega
  have h1 := hb (A + (0 + 1)); have h2 := hb (A + (1 + 1)); have h3 := hb (A + (2 + 1))
  have : j = 0 ∨ j = 1 ∨ j = 2 ∨ j = 3 := by omega
  rcases this with rfl | rfl | rfl | rfl <;> simp only [accu] <;> omega

theorem rb_cases (c : Int) : (c < 0 ∧ rb c = []) ∨ (0 ≤ c ∧ c ≤ 127 ∧ rb c = [c]) ∨ (128 ≤ c ∧ c ≤ 2047 ∧ rb c = [192 + c / 64, 128 + c % 64]) ∨
    (((2048 ≤ c ∧ c < 55296) ∨ (57343 < c ∧ c ≤ 65535)) ∧ rb c = [224 + c / 4096, 128 + c / 64 % 64, 128 + c % 64]) ∨
    (65536 ≤ c ∧ c ≤ 1114111 ∧ rb c = [240 + c / 262144, 128 + c / 4096 % 64, 128 + c / 64 % 64, 128 + c % 64]) ∨
    (((55296 ≤ c ∧ c ≤ 57343) ∨ 1114111 < c) ∧ rb c = []) := by
  have ht : ∀ h : (0 ≤ c ∧ c ≤ 1114111 ∧ (c < 55296 ∨ 57343 < c)), rok c = true := fun h => by simpa [rok] using h
  have hf : ∀ h : ¬ (0 ≤ c ∧ c ≤ 1114111 ∧ (c < 55296 ∨ 57343 < c)), rb c = [] := fun h => by
    have : rok c = false := by simp only [rok]; exact decide_eq_false h
    simp [rb, this]
  by_cases h1 : c < 0
  · exact .inl ⟨h1, hf (by omega)⟩
  by_cases h2 : c ≤ 127
  · exact .inr (.inl ⟨by omega, h2, by simp [rb, ht (by omega), Lib.encodeRuneZ_one (show 0 ≤ c by omega) h2]⟩)
  by_cases h3 : c ≤ 2047
  · exact .inr (.inr (.inl ⟨by omega, h3, by simp [rb, ht (by omega), Lib.encodeRuneZ_two (show 128 ≤ c by omega) h3]⟩))
  by_cases h4 : (2048 ≤ c ∧ c < 55296) ∨ (57343 < c ∧ c ≤ 65535)
  · exact .inr (.inr (.inr (.inl ⟨h4, by simp [rb, ht (by omega), Lib.encodeRuneZ_three h4]⟩)))
  by_cases h5 : 65536 ≤ c ∧ c ≤ 1114111
  · exact .inr (.inr (.inr (.inr (.inl ⟨h5.1, h5.2, by simp [rb, ht (by omega), Lib.encodeRuneZ_four h5.1 h5.2]⟩))))
  · exact .inr (.inr (.inr (.inr (.inr ⟨by omega, hf (by omega)⟩))))

theorem m1 (b0 : Int) (h0 : 0 ≤ b0 ∧ b0 ≤ 255) : rb b0 = [b0] ↔ b0 < 128 := by
  rcases rb_cases b0 with ⟨h, e⟩ | ⟨h, h', e⟩ | ⟨h, h', e⟩ | ⟨h, e⟩ | ⟨h, h', e⟩ | ⟨h, e⟩
  all_goals (rw [e]; simp; omega)

theorem m2 (b0 b1 c : Int) (h0 : 0 ≤ b0 ∧ b0 ≤ 255) (h1 : 0 ≤ b1 ∧ b1 ≤ 255) (hc : c = (b0 - 192) * 64 + b1 - 128) :
    rb c = [b0, b1] ↔ (b0 / 32 = 6 ∧ b1 / 64 = 2 ∧ 128 ≤ b0 % 32 * 64 + b1 % 64) := by
  rcases rb_cases c with ⟨h, e⟩ | ⟨h, h', e⟩ | ⟨h, h', e⟩ | ⟨h, e⟩ | ⟨h, h', e⟩ | ⟨h, e⟩
  all_goals (rw [e]; simp; omega)

theorem m3 (b0 b1 b2 c : Int) (h0 : 0 ≤ b0 ∧ b0 ≤ 255) (h1 : 0 ≤ b1 ∧ b1 ≤ 255) (h2 : 0 ≤ b2 ∧ b2 ≤ 255) (hc : c = ((b0 - 224) * 64 + b1 - 128) * 64 + b2 - 128) :
    rb c = [b0, b1, b2] ↔ (b0 / 16 = 14 ∧ b1 / 64 = 2 ∧ b2 / 64 = 2 ∧ 2048 ≤ b0 % 16 * 4096 + b1 % 64 * 64 + b2 % 64 ∧ (b0 % 16 * 4096 + b1 % 64 * 64 + b2 % 64 < 55296 ∨ 57344 ≤ b0 % 16 * 4096 + b1 % 64 * 64 + b2 % 64)) := by
  rcases rb_cases c with ⟨h, e⟩ | ⟨h, h', e⟩ | ⟨h, h', e⟩ | ⟨h, e⟩ | ⟨h, h', e⟩ | ⟨h, e⟩
  all_goals (rw [e]; simp; omega)

theorem m4 (b0 b1 b2 b3 c : Int) (h0 : 0 ≤ b0 ∧ b0 ≤ 255) (h1 : 0 ≤ b1 ∧ b1 ≤ 255) (h2 : 0 ≤ b2 ∧ b2 ≤ 255) (h3 : 0 ≤ b3 ∧ b3 ≤ 255) (hc : c = (((b0 - 240) * 64 + b1 - 128) * 64 + b2 - 128) * 64 + b3 - 128) :
    rb c = [b0, b1, b2, b3] ↔ (b0 / 8 = 30 ∧ b1 / 64 = 2 ∧ b2 / 64 = 2 ∧ b3 / 64 = 2 ∧ 65536 ≤ b0 % 8 * 262144 + b1 % 64 * 4096 + b2 % 64 * 64 + b3 % 64 ∧ b0 % 8 * 262144 + b1 % 64 * 4096 + b2 % 64 * 64 + b3 % 64 ≤ 1114111) := by
  rcases rb_cases c with ⟨h, e⟩ | ⟨h, h', e⟩ | ⟨h, h', e⟩ | ⟨h, e⟩ | ⟨h, h', e⟩ | ⟨h, e⟩
  all_goals (rw [e]; simp; omega)

def goAns (p : Nat × Nat) : Int × Int := if p.1 = 65533 ∧ p.2 < 2 then (0, 0) else ((p.1 : Int), (p.2 : Int))

/-- What RuneRead answers at A. -/
def rrd (zs : List Int) (A : Nat) : Int × Int := goAns (Lib.decodeN (zs.length - A) (bt zs A).toNat (bt zs (A + 1)).toNat (bt zs (A + 2)).toNat (bt zs (A + 3)).toNat)

/-- The size k fits. -/
def hit (zs : List Int) (A k : Nat) : Prop := rb (cnd zs A k) = (zs.drop A).take k

theorem bt_drop (zs : List Int) (A j : Nat) (h : A + j < zs.length) : (zs.drop A)[j]? = some (bt zs (A + j)) := by
  simp [bt, h]

theorem take_bytes (zs : List Int) (A : Nat) :
    (A < zs.length → (zs.drop A).take 1 = [bt zs A]) ∧ (A + 1 < zs.length → (zs.drop A).take 2 = [bt zs A, bt zs (A + 1)]) ∧
    (A + 2 < zs.length → (zs.drop A).take 3 = [bt zs A, bt zs (A + 1), bt zs (A + 2)]) ∧
    (A + 3 < zs.length → (zs.drop A).take 4 = [bt zs A, bt zs (A + 1), bt zs (A + 2), bt zs (A + 3)]) := by
  have key : ∀ k : Nat, A + k ≤ zs.length → (zs.drop A).take k = (List.range k).map fun j => bt zs (A + j) := by
    intro k hk
    apply List.ext_getElem?
    intro i
    by_cases h : i < k
    · rw [List.getElem?_take_of_lt h, bt_drop zs A i (by omega)]
      simp [h]
    · rw [List.getElem?_eq_none (by simp; omega), List.getElem?_eq_none (by simp; omega)]
  refine ⟨fun h => key 1 (by omega), fun h => key 2 (by omega), fun h => key 3 (by omega), fun h => key 4 (by omega)⟩

theorem hit1 (zs : List Int) (A : Nat) (hb : ∀ i, 0 ≤ bt zs i ∧ bt zs i ≤ 255) (h : A < zs.length) : hit zs A 1 ↔ bt zs A < 128 := by
  unfold hit
  rw [(take_bytes zs A).1 h, ← m1 _ (hb A)]
  simp [cnd, accu, base]

theorem hit2 (zs : List Int) (A : Nat) (hb : ∀ i, 0 ≤ bt zs i ∧ bt zs i ≤ 255) (h : A + 1 < zs.length) : hit zs A 2 ↔ (bt zs A / 32 = 6 ∧ bt zs (A + 1) / 64 = 2 ∧ 128 ≤ bt zs A % 32 * 64 + bt zs (A + 1) % 64) := by
  unfold hit
  rw [(take_bytes zs A).2.1 h]
  exact m2 _ _ _ (hb A) (hb _) (by simp [cnd, accu, base])

theorem hit3 (zs : List Int) (A : Nat) (hb : ∀ i, 0 ≤ bt zs i ∧ bt zs i ≤ 255) (h : A + 2 < zs.length) : hit zs A 3 ↔ (bt zs A / 16 = 14 ∧ bt zs (A + 1) / 64 = 2 ∧ bt zs (A + 2) / 64 = 2 ∧ 2048 ≤ bt zs A % 16 * 4096 + bt zs (A + 1) % 64 * 64 + bt zs (A + 2) % 64 ∧ (bt zs A % 16 * 4096 + bt zs (A + 1) % 64 * 64 + bt zs (A + 2) % 64 < 55296 ∨ 57344 ≤ bt zs A % 16 * 4096 + bt zs (A + 1) % 64 * 64 + bt zs (A + 2) % 64)) := by
  unfold hit
  rw [(take_bytes zs A).2.2.1 h]
  exact m3 _ _ _ _ (hb A) (hb _) (hb _) (by simp [cnd, accu, base])

theorem hit4 (zs : List Int) (A : Nat) (hb : ∀ i, 0 ≤ bt zs i ∧ bt zs i ≤ 255) (h : A + 3 < zs.length) : hit zs A 4 ↔ (bt zs A / 8 = 30 ∧ bt zs (A + 1) / 64 = 2 ∧ bt zs (A + 2) / 64 = 2 ∧ bt zs (A + 3) / 64 = 2 ∧ 65536 ≤ bt zs A % 8 * 262144 + bt zs (A + 1) % 64 * 4096 + bt zs (A + 2) % 64 * 64 + bt zs (A + 3) % 64 ∧ bt zs A % 8 * 262144 + bt zs (A + 1) % 64 * 4096 + bt zs (A + 2) % 64 * 64 + bt zs (A + 3) % 64 ≤ 1114111) := by
  unfold hit
  rw [(take_bytes zs A).2.2.2 h]
  exact m4 _ _ _ _ _ (hb A) (hb _) (hb _) (hb _) (by simp [cnd, accu, base])

theorem bt_end (zs : List Int) (j : Nat) (h : ¬ j < zs.length) : bt zs j = 0 := by simp [bt, h]

set_option maxHeartbeats 2000000 in
/-- The first size that fits is what the decoder finds. -/
theorem rrd_hit (zs : List Int) (A k : Nat) (hb : ∀ i, 0 ≤ bt zs i ∧ bt zs i ≤ 255) (hk1 : 1 ≤ k) (hk4 : k ≤ 4) (hkl : A + k ≤ zs.length) (h : hit zs A k) : rrd zs A = (cnd zs A k, (k : Int)) := by
  obtain ⟨n0, e0⟩ := Int.eq_ofNat_of_zero_le (hb A).1
  obtain ⟨n1, e1⟩ := Int.eq_ofNat_of_zero_le (hb (A + 1)).1
  obtain ⟨n2, e2⟩ := Int.eq_ofNat_of_zero_le (hb (A + 2)).1
  obtain ⟨n3, e3⟩ := Int.eq_ofNat_of_zero_le (hb (A + 3)).1
  have l0 := (hb A).2; have l1 := (hb (A + 1)).2; have l2 := (hb (A + 2)).2; have l3 := (hb (A + 3)).2
  have : k = 1 ∨ k = 2 ∨ k = 3 ∨ k = 4 := by omega
  rcases this with rfl | rfl | rfl | rfl
  · rw [hit1 zs A hb (by omega)] at h
    simp only [e0, e1, e2, e3] at h l0 l1 l2 l3
    have hd : Lib.decodeN (zs.length - A) n0 n1 n2 n3 = (n0, 1) := by
      unfold Lib.decodeN
      rw [if_pos (by omega)]
    have hg : ¬ ((n0) = 65533 ∧ 1 < 2) := by omega
    simp only [rrd, e0, e1, e2, e3, Int.toNat_natCast, hd, goAns, if_neg hg, cnd]
    simp [e0, e1, e2, e3, accu, base]
    try omega
  · rw [hit2 zs A hb (by omega)] at h
    simp only [e0, e1, e2, e3] at h l0 l1 l2 l3
    have hd : Lib.decodeN (zs.length - A) n0 n1 n2 n3 = (n0 % 32 * 64 + n1 % 64, 2) := by
      unfold Lib.decodeN
      rw [if_neg (by omega), if_pos (by omega), if_pos (by omega)]
    have hg : ¬ ((n0 % 32 * 64 + n1 % 64) = 65533 ∧ 2 < 2) := by omega
    simp only [rrd, e0, e1, e2, e3, Int.toNat_natCast, hd, goAns, if_neg hg, cnd]
    simp [e0, e1, e2, e3, accu, base]
    try omega
  · rw [hit3 zs A hb (by omega)] at h
    simp only [e0, e1, e2, e3] at h l0 l1 l2 l3
    have hd : Lib.decodeN (zs.length - A) n0 n1 n2 n3 = (n0 % 16 * 4096 + n1 % 64 * 64 + n2 % 64, 3) := by
      unfold Lib.decodeN
      rw [if_neg (by omega), if_neg (by omega), if_pos (by omega), if_pos (by omega)]
    have hg : ¬ ((n0 % 16 * 4096 + n1 % 64 * 64 + n2 % 64) = 65533 ∧ 3 < 2) := by omega
    simp only [rrd, e0, e1, e2, e3, Int.toNat_natCast, hd, goAns, if_neg hg, cnd]
    simp [e0, e1, e2, e3, accu, base]
    try omega
  · rw [hit4 zs A hb (by omega)] at h
    simp only [e0, e1, e2, e3] at h l0 l1 l2 l3
    have hd : Lib.decodeN (zs.length - A) n0 n1 n2 n3 = (n0 % 8 * 262144 + n1 % 64 * 4096 + n2 % 64 * 64 + n3 % 64, 4) := by
      unfold Lib.decodeN
      rw [if_neg (by omega), if_neg (by omega), if_neg (by omega), if_pos (by omega), if_pos (by omega)]
    have hg : ¬ ((n0 % 8 * 262144 + n1 % 64 * 4096 + n2 % 64 * 64 + n3 % 64) = 65533 ∧ 4 < 2) := by omega
    simp only [rrd, e0, e1, e2, e3, Int.toNat_natCast, hd, goAns, if_neg hg, cnd]
    simp [e0, e1, e2, e3, accu, base]
    try omega

set_option maxHeartbeats 2000000 in
theorem rrd_none (zs : List Int) (A : Nat) (hb : ∀ i, 0 ≤ bt zs i ∧ bt zs i ≤ 255) (hA : A < zs.length) (h : ∀ k, 1 ≤ k → k ≤ 4 → A + k ≤ zs.length → ¬ hit zs A k) : rrd zs A = (0, 0) := by
  have h1 := h 1 (by omega) (by omega) (by omega)
  rw [hit1 zs A hb hA] at h1
  have h2 := h 2 (by omega) (by omega)
  have h3 := h 3 (by omega) (by omega)
  have h4 := h 4 (by omega) (by omega)
  obtain ⟨n0, e0⟩ := Int.eq_ofNat_of_zero_le (hb A).1
  obtain ⟨n1, e1⟩ := Int.eq_ofNat_of_zero_le (hb (A + 1)).1
  obtain ⟨n2, e2⟩ := Int.eq_ofNat_of_zero_le (hb (A + 2)).1
  obtain ⟨n3, e3⟩ := Int.eq_ofNat_of_zero_le (hb (A + 3)).1
  have g2 := fun q : A + 1 < zs.length => fun x => h2 (by omega) ((hit2 zs A hb q).2 x)
  have g3 := fun q : A + 2 < zs.length => fun x => h3 (by omega) ((hit3 zs A hb q).2 x)
  have g4 := fun q : A + 3 < zs.length => fun x => h4 (by omega) ((hit4 zs A hb q).2 x)
  clear h h2 h3 h4
  have l0 := (hb A).2; have l1 := (hb (A + 1)).2; have l2 := (hb (A + 2)).2; have l3 := (hb (A + 3)).2
  rw [e0] at h1 l0; rw [e1] at l1; rw [e2] at l2; rw [e3] at l3
  rw [e0, e1] at g2; rw [e0, e1, e2] at g3; rw [e0, e1, e2, e3] at g4
  have hd : Lib.decodeN (zs.length - A) n0 n1 n2 n3 = (65533, 1) := by
    unfold Lib.decodeN
    rw [if_neg (by omega)]
    by_cases c2 : n0 / 32 = 6 ∧ 1 < zs.length - A ∧ n1 / 64 = 2
    · have : ¬ _ := g2 (by omega)
      rw [if_pos c2, if_neg (by omega)]
    · rw [if_neg c2]
      by_cases c3 : n0 / 16 = 14 ∧ (1 < zs.length - A ∧ n1 / 64 = 2) ∧ 2 < zs.length - A ∧ n2 / 64 = 2
      · have : ¬ _ := g3 (by omega)
        rw [if_pos c3, if_neg (by omega)]
      · rw [if_neg c3]
        by_cases c4 : n0 / 8 = 30 ∧ (1 < zs.length - A ∧ n1 / 64 = 2) ∧ (2 < zs.length - A ∧ n2 / 64 = 2) ∧ 3 < zs.length - A ∧ n3 / 64 = 2
        · have : ¬ _ := g4 (by omega)
          rw [if_pos c4, if_neg (by omega)]
        · rw [if_neg c4]
  simp [rrd, e0, e1, e2, e3, hd, goAns]

end Go.Proofs.YtndlehogfedfaaaDoor
