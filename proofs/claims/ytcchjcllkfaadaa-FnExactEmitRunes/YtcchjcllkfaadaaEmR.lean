/-
  EmitRunes, the model's and the program's: the bytes of the printable runes, one behind the other.
-/
import Derived.Test.YtcchjcllkfaadaaRbI
import Derived.Test.YtcchjcllkfaadaaPrn
import Derived.Test.YtcchjcllkfaadaaVI
import Derived.Test.YtcchjcllkfaadaaVB
import Derived.Deep.AppendLies
import Derived.Laws.AppendOwnNone
namespace Go.Proofs.Ytcchjcllkfaadaa
open Go.RowKit
set_option linter.unusedVariables false

def emr1 (x : Int) : List Int := if prn x = true then rb x else []
def emr (zs : List Int) : Nat → List Int
  | 0 => []
  | k + 1 => emr zs k ++ emr1 (zs[k]?.getD 0)

theorem prn_rok {x : Int} (h : prn x = true) : rok x = true := by
  unfold prn at h; simp only [Bool.and_eq_true] at h; exact h.1

theorem emr1_len (x : Int) : (emr1 x).length ≤ 4 := by
  unfold emr1; split
  · exact rb_len x
  · simp

theorem emr_len (zs : List Int) : ∀ k, (emr zs k).length ≤ 4 * k
  | 0 => by simp [emr]
  | k + 1 => by
    have h1 := emr_len zs k
    have h2 := emr1_len (zs[k]?.getD 0)
    simp only [emr, List.length_append]
    omega

theorem emr1_byte (x : Int) : ∀ y ∈ emr1 x, 0 ≤ y ∧ y < 256 := by
  intro y h
  unfold emr1 at h; split at h
  · exact rb_byte x y h
  · cases h

theorem emr_byte (zs : List Int) : ∀ k, ∀ y ∈ emr zs k, 0 ≤ y ∧ y < 256
  | 0 => by simp [emr]
  | k + 1 => by
    intro y h
    simp only [emr, List.mem_append] at h
    rcases h with h | h
    · exact emr_byte zs k y h
    · exact emr1_byte _ y h

theorem emr_bd (zs : List Int) (k i : Nat) : 0 ≤ (emr zs k)[i]?.getD 0 ∧ (emr zs k)[i]?.getD 0 ≤ 255 := by
  by_cases h : i < (emr zs k).length
  · have := emr_byte zs k _ (List.getElem_mem h)
    simp [h]; omega
  · simp [h]

theorem own_rowU8 {w : World} {B n : Nat} {v : Value} {d : List Int} (hl : d.length = n) (hb : ∀ i : Nat, 0 ≤ d[i]?.getD 0 ∧ d[i]?.getD 0 ≤ 255) (h : w.ownsRow B 5 1 v n (d.map (Value.int .u8))) : ∃ F, Own (.sl .u8) w B [v] d F ∧ F.Nodup := by
  rcases h.2 with ⟨h1, h2⟩ | ⟨g, cap, cur, hv, _⟩
  · refine ⟨[], .inl ⟨by rw [h1], ?_, rfl⟩, by simp⟩
    show d.length = 0; omega
  · subst hv
    exact ⟨[g], own_bytes hl hb h, by simp⟩

set_option maxRecDepth 100000 in
set_option maxHeartbeats 1000000 in
theorem specEmR_any (a : Option Addr) (n cap : Nat) (zs : List Int) (w : World) (hl : Hid (zs.length = n)) (hr : RdI w a zs) (hn : n ≤ 2097152) :
    Calls Try.prog 4 #[.slice a n cap] w fun e w' => ∃ v, e = .returned v ∧ w'.ownsRow w.heap.size 5 1 v (emr zs n).length ((emr zs n).map (Value.int .u8)) ∧ Below w.heap.size w w' := by
  obtain ⟨i0, hi, hz0, hz1, hz2⟩ := info_parts Try.infoB
  have hown0 := World.ownsRow_lit (base := w.heap.size) (e := 5) (size := 1) w #[] 0 (Nat.le_refl _) (Nat.zero_le _) rfl
  go_enter Try.func4, Try.ntmps4
  go_wp2
  go_loopw [3, 9] (fun v i wr => ∃ (k c : Nat) (g : Option Addr), k ≤ n ∧ v = .slice g (emr zs k).length c ∧ i = .int .i64 k ∧ wr.ownsRow w.heap.size 5 1 (.slice g (emr zs k).length c) (emr zs k).length ((emr zs k).map (Value.int .u8)) ∧ Below w.heap.size w wr)
    (fun _ i _ => n - (intOf i).toNat)
  case atStart => exact ⟨0, _, _, Nat.zero_le _, rfl, rfl, hown0, (Below.refl _ _).alloc (Nat.le_refl _) _⟩
  case round =>
    obtain ⟨k, c, g, hk, rfl, rfl, hown, hbel⟩ := hrel
    obtain ⟨t, ht⟩ : ∃ t, t = emr zs k := ⟨_, rfl⟩
    have HT : Hid (t = _) := ht
    rw [← ht] at hown ⊢
    have htl : t.length ≤ 4 * k := by rw [ht]; exact emr_len zs k
    clear ht
    obtain ⟨m, hm⟩ : ∃ m, m = t.length := ⟨_, rfl⟩
    have HM : Hid (m = _) := hm
    rw [← hm] at hown htl ⊢
    clear hm
    by_cases hlt : k < n
    · have hne : zs ≠ [] := by intro h; have := hl.out; subst h; simp at this; omega
      obtain ⟨b, off, rfl, hb, hc⟩ := hr.resolve_left hne
      obtain ⟨x, hx⟩ : ∃ x, x = zs[k]?.getD 0 := ⟨_, rfl⟩
      have hcell : wr.cell? ⟨b, off + k, none⟩ = some (.int .i64 x) := by rw [hx]; exact (hbel.cell (p := ⟨b, off + k, none⟩) hb).trans (hc k (by have := hl.out; omega))
      have HD : Hid (emr zs (k + 1) = t ++ emr1 x) := by show emr zs (k + 1) = _; rw [emr, hx, HT.out]
      have hbs := hbel.size
      have hg := fun gg (e : (Value.slice g m c).ownBlock = some gg) => hown.lt gg e
      clear hx hc hne hr
      by_cases hk0 : prn x = true
      · have hk1 := prn_rok hk0
        have HP : Hid (prn x = true) := hk0
        have HE : Hid (emr1 x = rb x) := by show _ = _; unfold emr1; rw [if_pos hk0]
        obtain ⟨y, hy⟩ : ∃ y, y = (rb x).length := ⟨_, rfl⟩
        have hy4 : y ≤ 4 := by rw [hy]; exact rb_len x
        have hy0 : 0 < y := by rw [hy]; exact rb_pos hk1
        have himp : Hid (∀ w', Calls Try.prog 13 #[.int .i64 x] w' fun e w1 => ∃ g c, e = .returned (.slice (some ⟨g, 0, none⟩) y c) ∧
          w1.ownsRow w'.heap.size 5 1 (.slice (some ⟨g, 0, none⟩) y c) y ((rb x).map (Value.int .u8)) ∧ Below w'.heap.size w' w1) := by
          intro w'; rw [hy]; exact specRb_yes x w' hk1
        have HY : Hid (y = _) := hy
        clear hy hk0 hk1
        go_wp2_with fail
        refine (specPrn_any x _).mono ?_
        rintro e w1 ⟨rfl, rfl⟩
        rw [HP.out]
        go_wp2_with fail
        refine (himp.out _).mono ?_
        rintro e w2 ⟨g2, c2, rfl, ho2, hb2⟩
        have hown2 := own_later hown hb2
        have hg2 := ho2.lt g2 rfl
        have hbel2 := hbel.trans (hb2.mono hbel.size)
        have hs2 := hb2.size
        go_wp2_with (at_builtin; refine wpList_append_lies _ rfl _ _ 23 rfl w.heap.size 5 i0 (.int .u8 0) 1 1 Try.underlying23 hi hz0 hz1 hz2 rfl (by decide) _ m _ rfl hown2 ⟨g2, 0, none⟩ y _ ((rb x).map (Value.int .u8)) rfl ?c0 ?c1 ?c2 hy0 ?c3 ?c4 ?c5 _ rfl ?_)
        case c0 => rw [HY.out]; simp
        case c1 =>
          intro j u hu
          have hj : j < y := by rw [HY.out]; have := (List.getElem?_eq_some_iff.1 hu).1; simpa using this
          have e : (⟨g2, 0, none⟩ : Addr).add j = ⟨g2, j, none⟩ := by cases j <;> simp [Addr.add]
          rw [e, ho2.cellAt j (by omega)]; exact hu
        case c2 => intro u hu; simp at hu; obtain ⟨z, _, rfl⟩ := hu; rfl
        case c3 => unfold maxLen; omega
        case c4 => omega
        case c5 => omega
        intro gg cap1 w3 hown3 hgrow3 _ _
        have hbel3 : Below w.heap.size w w3 := hbel2.grown hgrow3 (by omega) (fun z h => (hg z h).1)
        have hq : (emr zs (k + 1)).length = m + y := by rw [HD.out, HE.out, List.length_append, HM.out, HY.out]
        have hown4 : w3.ownsRow w.heap.size 5 1 (.slice (some ⟨gg, 0, none⟩) (emr zs (k + 1)).length cap1) (emr zs (k + 1)).length ((emr zs (k + 1)).map (Value.int .u8)) := by
          rw [hq, HD.out, HE.out, List.map_append]
          exact hown3
        have HQ : Hid (_ = m + y) := hq
        clear hown3 hgrow3 hown hown2 ho2 hq
        go_wp2
        go_roundw
        case rel => exact ⟨k + 1, cap1, some ⟨gg, 0, none⟩, by omega, by rw [HQ.out], by go_num, hown4, hbel3⟩
        case measure => simp [intOf]; omega
      · have hk2 : prn x = false := by simpa using hk0
        have hq : emr zs (k + 1) = t := by rw [HD.out]; simp [emr1, hk2]
        have HQ : Hid (_ = t) := hq
        have HP : Hid (prn x = false) := hk2
        clear hq hk0 hk2
        go_wp2_with fail
        refine (specPrn_any x _).mono ?_
        rintro e w1 ⟨rfl, rfl⟩
        rw [HP.out]
        go_wp2
        go_roundw
        case rel => exact ⟨k + 1, c, g, by omega, by rw [HQ.out, HM.out], by go_num, by rw [HQ.out, ← HM.out]; exact hown, hbel⟩
        case measure => simp [intOf]; omega
    · have e : k = n := by omega
      subst e
      have HO : Hid (wr.ownsRow w.heap.size 5 1 (.slice g m c) (emr zs k).length ((emr zs k).map (Value.int .u8))) := by show World.ownsRow _ _ _ _ _ _ _; rw [← HT.out, ← HM.out]; exact hown
      clear hown
      go_wp2
      go_ret
      exact ⟨_, rfl, HO.out, hbel⟩

set_option maxRecDepth 100000 in
set_option maxHeartbeats 1000000 in
theorem implEmR_any (a : Option Addr) (n cap : Nat) (zs : List Int) (w : World) (hl : Hid (zs.length = n)) (hr : RdI w a zs) (hn : n ≤ 2097152) :
    Calls Try.prog 6 #[.slice a n cap] w fun e w' => ∃ v, e = .returned v ∧ w'.ownsRow w.heap.size 5 1 v (emr zs n).length ((emr zs n).map (Value.int .u8)) ∧ Below w.heap.size w w' := by
  obtain ⟨i0, hi, hz0, hz1, hz2⟩ := info_parts Try.infoB
  have hown0 := World.ownsRow_nil w w.heap.size 5 1
  go_enter Try.func6, Try.ntmps6
  go_wp2
  go_loopw [3, 8] (fun v i wr => ∃ (k c : Nat) (g : Option Addr), k ≤ n ∧ v = .slice g (emr zs k).length c ∧ i = .int .i64 k ∧ wr.ownsRow w.heap.size 5 1 (.slice g (emr zs k).length c) (emr zs k).length ((emr zs k).map (Value.int .u8)) ∧ Below w.heap.size w wr)
    (fun _ i _ => n - (intOf i).toNat)
  case atStart => exact ⟨0, _, _, Nat.zero_le _, rfl, rfl, hown0, Below.refl _ _⟩
  case round =>
    obtain ⟨k, c, g, hk, rfl, rfl, hown, hbel⟩ := hrel
    obtain ⟨t, ht⟩ : ∃ t, t = emr zs k := ⟨_, rfl⟩
    have HT : Hid (t = _) := ht
    rw [← ht] at hown ⊢
    have htl : t.length ≤ 4 * k := by rw [ht]; exact emr_len zs k
    clear ht
    obtain ⟨m, hm⟩ : ∃ m, m = t.length := ⟨_, rfl⟩
    have HM : Hid (m = _) := hm
    rw [← hm] at hown htl ⊢
    clear hm
    by_cases hlt : k < n
    · have hne : zs ≠ [] := by intro h; have := hl.out; subst h; simp at this; omega
      obtain ⟨b, off, rfl, hb, hc⟩ := hr.resolve_left hne
      obtain ⟨x, hx⟩ : ∃ x, x = zs[k]?.getD 0 := ⟨_, rfl⟩
      have hcell : wr.cell? ⟨b, off + k, none⟩ = some (.int .i64 x) := by rw [hx]; exact (hbel.cell (p := ⟨b, off + k, none⟩) hb).trans (hc k (by have := hl.out; omega))
      have HD : Hid (emr zs (k + 1) = t ++ emr1 x) := by show emr zs (k + 1) = _; rw [emr, hx, HT.out]
      have hbs := hbel.size
      have hg := fun gg (e : (Value.slice g m c).ownBlock = some gg) => hown.lt gg e
      clear hx hc hne hr
      by_cases hk0 : prn x = true
      · have hk1 := prn_rok hk0
        have HP : Hid (prn x = true) := hk0
        have HE : Hid (emr1 x = rb x) := by show _ = _; unfold emr1; rw [if_pos hk0]
        obtain ⟨y, hy⟩ : ∃ y, y = (rb x).length := ⟨_, rfl⟩
        have hy4 : y ≤ 4 := by rw [hy]; exact rb_len x
        have hy0 : 0 < y := by rw [hy]; exact rb_pos hk1
        have himp : Hid (∀ w', Calls Try.prog 15 #[.int .i64 x] w' fun e w1 => ∃ g c, e = .returned (.slice (some ⟨g, 0, none⟩) y c) ∧
          w1.ownsRow w'.heap.size 5 1 (.slice (some ⟨g, 0, none⟩) y c) y ((rb x).map (Value.int .u8)) ∧ Below w'.heap.size w' w1) := by
          intro w'; rw [hy]; exact implRb_yes x w' hk1
        have HY : Hid (y = _) := hy
        clear hy hk0 hk1
        go_wp2_with fail
        refine (implPrn_any x _).mono ?_
        rintro e w1 ⟨rfl, rfl⟩
        rw [HP.out]
        go_wp2_with fail
        refine (himp.out _).mono ?_
        rintro e w2 ⟨g2, c2, rfl, ho2, hb2⟩
        have hown2 := own_later hown hb2
        have hg2 := ho2.lt g2 rfl
        have hbel2 := hbel.trans (hb2.mono hbel.size)
        have hs2 := hb2.size
        go_wp2_with (at_builtin; refine wpList_append_lies _ rfl _ _ 23 rfl w.heap.size 5 i0 (.int .u8 0) 1 1 Try.underlying23 hi hz0 hz1 hz2 rfl (by decide) _ m _ rfl hown2 ⟨g2, 0, none⟩ y _ ((rb x).map (Value.int .u8)) rfl ?c0 ?c1 ?c2 hy0 ?c3 ?c4 ?c5 _ rfl ?_)
        case c0 => rw [HY.out]; simp
        case c1 =>
          intro j u hu
          have hj : j < y := by rw [HY.out]; have := (List.getElem?_eq_some_iff.1 hu).1; simpa using this
          have e : (⟨g2, 0, none⟩ : Addr).add j = ⟨g2, j, none⟩ := by cases j <;> simp [Addr.add]
          rw [e, ho2.cellAt j (by omega)]; exact hu
        case c2 => intro u hu; simp at hu; obtain ⟨z, _, rfl⟩ := hu; rfl
        case c3 => unfold maxLen; omega
        case c4 => omega
        case c5 => omega
        intro gg cap1 w3 hown3 hgrow3 _ _
        have hbel3 : Below w.heap.size w w3 := hbel2.grown hgrow3 (by omega) (fun z h => (hg z h).1)
        have hq : (emr zs (k + 1)).length = m + y := by rw [HD.out, HE.out, List.length_append, HM.out, HY.out]
        have hown4 : w3.ownsRow w.heap.size 5 1 (.slice (some ⟨gg, 0, none⟩) (emr zs (k + 1)).length cap1) (emr zs (k + 1)).length ((emr zs (k + 1)).map (Value.int .u8)) := by
          rw [hq, HD.out, HE.out, List.map_append]
          exact hown3
        have HQ : Hid (_ = m + y) := hq
        clear hown3 hgrow3 hown hown2 ho2 hq
        go_wp2
        go_roundw
        case rel => exact ⟨k + 1, cap1, some ⟨gg, 0, none⟩, by omega, by rw [HQ.out], by go_num, hown4, hbel3⟩
        case measure => simp [intOf]; omega
      · have hk2 : prn x = false := by simpa using hk0
        have hq : emr zs (k + 1) = t := by rw [HD.out]; simp [emr1, hk2]
        have HQ : Hid (_ = t) := hq
        have HP : Hid (prn x = false) := hk2
        clear hq hk0 hk2
        go_wp2_with fail
        refine (implPrn_any x _).mono ?_
        rintro e w1 ⟨rfl, rfl⟩
        rw [HP.out]
        go_wp2
        go_roundw
        case rel => exact ⟨k + 1, c, g, by omega, by rw [HQ.out, HM.out], by go_num, by rw [HQ.out, ← HM.out]; exact hown, hbel⟩
        case measure => simp [intOf]; omega
    · have e : k = n := by omega
      subst e
      have HO : Hid (wr.ownsRow w.heap.size 5 1 (.slice g m c) (emr zs k).length ((emr zs k).map (Value.int .u8))) := by show World.ownsRow _ _ _ _ _ _ _; rw [← HT.out, ← HM.out]; exact hown
      clear hown
      go_wp2
      go_ret
      exact ⟨_, rfl, HO.out, hbel⟩

end Go.Proofs.Ytcchjcllkfaadaa
