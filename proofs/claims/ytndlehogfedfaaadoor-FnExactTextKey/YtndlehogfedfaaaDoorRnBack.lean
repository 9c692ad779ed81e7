/-
  Plain: the text of runes is read as these runes; what is read as a rune is that rune's text. And sameInts.
-/
import Derived.Test.YtndlehogfedfaaaDoorRofI
import Derived.Test.YtndlehogfedfaaaDoorText
namespace Go.Proofs.YtndlehogfedfaaaDoor
open Go.RowKit
set_option linter.unusedVariables false

def cat (ys : List Int) : List Int := ys.flatMap rb

theorem txt_eq (ys : List Int) : ∀ k, k ≤ ys.length → txt ys k = cat (ys.take k)
  | 0, _ => by simp [txt, cat]
  | k + 1, h => by
    have hk : k < ys.length := by omega
    have e : ys.take (k + 1) = ys.take k ++ [ys[k]] := List.take_succ_eq_append_getElem hk
    rw [txt, txt_eq ys k (by omega), e]
    unfold cat
    rw [List.flatMap_append]
    simp [hk]

theorem cat_byte (ys : List Int) : ∀ x ∈ cat ys, 0 ≤ x ∧ x < 256 := by
  intro x hx
  obtain ⟨y, _, h⟩ := List.mem_flatMap.1 hx
  exact rb_byte y x h

theorem numsS_strOfNums (t : List Int) (h : ∀ x ∈ t, 0 ≤ x ∧ x < 256) : numsS (strOfNums t) = t := by
  unfold numsS
  rw [strOfNums_data, List.map_map]
  conv => rhs; rw [← List.map_id t]
  apply List.map_congr_left
  intro x hx
  have := h x hx
  simp [Function.comp]
  omega

theorem bt_mid (pre mid post : List Int) (i : Nat) (h : i < mid.length) : bt (pre ++ (mid ++ post)) (pre.length + i) = mid[i] := by
  unfold bt
  rw [List.getElem?_append_right (by omega), List.getElem?_append_left (by omega)]
  simp [h]

theorem hit_of (pre post : List Int) (r : Int) (hr : rok r = true) (hb : ∀ i, 0 ≤ bt (pre ++ (rb r ++ post)) i ∧ bt (pre ++ (rb r ++ post)) i ≤ 255) :
    rrd (pre ++ (rb r ++ post)) pre.length = (r, ((rb r).length : Int)) := by
  obtain ⟨h0, h1, h2⟩ := rok_true hr
  have ht : ((pre ++ (rb r ++ post)).drop pre.length).take (rb r).length = rb r := by simp
  have m0 := bt_mid pre (rb r) post
  have key : cnd (pre ++ (rb r ++ post)) pre.length (rb r).length = r := by
    rcases rb_cases r with ⟨h, e⟩ | ⟨h, h', e⟩ | ⟨h, h', e⟩ | ⟨h, e⟩ | ⟨h, h', e⟩ | ⟨h, e⟩
    · omega
    · have g0 := m0 0 (by rw [e]; simp)
      simp only [e] at g0 ⊢
      simp at g0
      simp [cnd, accu, base, g0]
    · have g0 := m0 0 (by rw [e]; simp)
      have g1 := m0 1 (by rw [e]; simp)
      simp only [e] at g0 g1 ⊢
      simp at g0 g1
      simp [cnd, accu, base, g0, g1]
      omega
    · have g0 := m0 0 (by rw [e]; simp)
      have g1 := m0 1 (by rw [e]; simp)
      have g2 := m0 2 (by rw [e]; simp)
      simp only [e] at g0 g1 g2 ⊢
      simp at g0 g1 g2
      simp [cnd, accu, base, g0, g1, g2]
      omega
    · have g0 := m0 0 (by rw [e]; simp)
      have g1 := m0 1 (by rw [e]; simp)
      have g2 := m0 2 (by rw [e]; simp)
      have g3 := m0 3 (by rw [e]; simp)
      simp only [e] at g0 g1 g2 g3 ⊢
      simp at g0 g1 g2 g3
      simp [cnd, accu, base, g0, g1, g2, g3]
      omega
    · omega
  have hp := rb_pos hr
  have h4 := rb_len r
  have := rrd_hit (pre ++ (rb r ++ post)) pre.length (rb r).length hb (by omega) h4 (by simp) (by unfold hit; rw [key, ht])
  rw [this, key]

theorem goAns_inv {p : Nat × Nat} {r : Int} {k : Nat} (hk : 1 ≤ k) (h : goAns p = (r, (k : Int))) : (p.1 : Int) = r ∧ p.2 = k ∧ ¬ (p.1 = 65533 ∧ p.2 = 1) := by
  unfold goAns at h
  split at h
  · simp at h; omega
  · simp at h
    exact ⟨h.1, by omega, by omega⟩

theorem back (ys : List Int) : ∀ (pre : List Int) (f : Nat), (∀ y ∈ ys, rok y = true) → (∀ x ∈ pre, 0 ≤ x ∧ x < 256) → (strOfNums (pre ++ cat ys)).size ≤ pre.length + f →
    rn (strOfNums (pre ++ cat ys)) f pre.length = ys ∧ Lib.validD ((strOfNums (pre ++ cat ys)).data.toList.drop pre.length) = true := by
  induction ys with
  | nil =>
    intro pre f _ _ hf
    have e : (strOfNums (pre ++ cat [])).size = pre.length := by rw [strOfNums_size]; simp [cat]
    refine ⟨rn_end _ f _ (by omega), ?_⟩
    rw [List.drop_eq_nil_of_le (by rw [strOfNums_data]; simp [cat])]
    rfl
  | cons r ys ih =>
    intro pre f hys hpre hf
    have hr : rok r = true := hys r (by simp)
    have e : pre ++ cat (r :: ys) = pre ++ (rb r ++ cat ys) := by simp [cat]
    have e2 : pre ++ cat (r :: ys) = (pre ++ rb r) ++ cat ys := by simp [cat]
    have hbytes : ∀ x ∈ pre ++ cat (r :: ys), 0 ≤ x ∧ x < 256 := by
      intro x hx
      rcases List.mem_append.1 hx with h | h
      · exact hpre x h
      · exact cat_byte _ x h
    have hn := numsS_strOfNums _ hbytes
    have hbt := numsS_bd (strOfNums (pre ++ cat (r :: ys)))
    rw [hn, e] at hbt
    have hrr := hit_of pre (cat ys) r hr hbt
    have hp := rb_pos hr
    have hA : pre.length < (strOfNums (pre ++ cat (r :: ys))).size := by rw [strOfNums_size, e]; simp; omega
    have hd := rrd_decode (strOfNums (pre ++ cat (r :: ys))) pre.length hA
    rw [hn] at hd
    rw [← e, hd] at hrr
    obtain ⟨g1, g2, g3⟩ := goAns_inv (by omega) hrr
    obtain ⟨f', hf1, hf2⟩ := rn_step _ f pre.length hA hf
    have hv := valid_step _ pre.length hA
    rw [if_neg g3] at hv
    rw [g1] at hf1
    rw [g2] at hf1 hf2 hv
    have hpre2 : ∀ x ∈ pre ++ rb r, 0 ≤ x ∧ x < 256 := by
      intro x hx
      rcases List.mem_append.1 hx with h | h
      · exact hpre x h
      · exact rb_byte r x h
    have hl2 : (pre ++ rb r).length = pre.length + (rb r).length := by simp
    have := ih (pre ++ rb r) f' (fun y hy => hys y (by simp [hy])) hpre2 (by rw [← e2, hl2]; exact hf2)
    rw [← e2, hl2] at this
    rw [hf1, hv, this.1, this.2]
    exact ⟨rfl, rfl⟩

theorem text_back (ys : List Int) (hys : ∀ y ∈ ys, rok y = true) (hl : ys.length ≤ 16384) : rofOk (strOfNums (txt ys ys.length)) ∧ runes (strOfNums (txt ys ys.length)) = ys := by
  have hsz : (strOfNums (txt ys ys.length)).size ≤ 65536 := by
    rw [strOfNums_size]
    have := txt_len ys ys.length
    omega
  have e : txt ys ys.length = [] ++ cat ys := by rw [txt_eq ys ys.length (Nat.le_refl _)]; simp
  have h := back ys [] (strOfNums (txt ys ys.length)).size hys (fun x hx => by cases hx) (by rw [e]; simp)
  rw [← e] at h
  refine ⟨⟨hsz, ?_⟩, h.1⟩
  have := h.2
  simpa using this

theorem rrd_inv (zs : List Int) (A : Nat) (hb : ∀ i, 0 ≤ bt zs i ∧ bt zs i ≤ 255) (hA : A < zs.length) (h : (rrd zs A).2 ≠ 0) :
    ∃ k : Nat, 1 ≤ k ∧ A + k ≤ zs.length ∧ (rrd zs A).2 = (k : Int) ∧ rb (rrd zs A).1 = (zs.drop A).take k ∧ rok (rrd zs A).1 = true := by
  by_cases hex : ∃ k, 1 ≤ k ∧ k ≤ 4 ∧ A + k ≤ zs.length ∧ hit zs A k
  · obtain ⟨k, h1, h4, hkl, hh⟩ := hex
    have e := rrd_hit zs A k hb h1 h4 hkl hh
    rw [e]
    refine ⟨k, h1, hkl, rfl, hh, ?_⟩
    cases hr : rok (cnd zs A k) with
    | true => rfl
    | false =>
      unfold hit at hh
      simp only [rb, hr] at hh
      have := congrArg List.length hh
      simp at this
      omega
  · exfalso
    apply h
    rw [rrd_none zs A hb hA (fun k h1 h4 hkl hh => hex ⟨k, h1, h4, hkl, hh⟩)]

end Go.Proofs.YtndlehogfedfaaaDoor
