/-
  EmitCost of the program: the loop.
-/
import Derived.Test.YtcchjcllkfaadaaDoorEmB
namespace Go.Proofs.YtcchjcllkfaadaaDoor
open Go.RowKit
set_option linter.unusedVariables false
set_option linter.unusedSimpArgs false

set_option maxRecDepth 100000 in
set_option maxHeartbeats 4000000 in
theorem implCost_any (a : Option Addr) (n cap : Nat) (zs : List Int) (w : World) (hl : zs.length = n) (hr : Rd w a zs) (hn : n ≤ 2097152) (hc : n ≤ cap) (hm : cap ≤ maxLen) :
    Calls Tryd.prog 12 #[.slice a n cap] w fun e w' => e = .returned (.int .i64 (costZ zs)) ∧ Below w.heap.size w w' := by
  have HA : Hid (AnsB w (.slice a n cap) zs) := ⟨a, cap, by rw [hl], by omega, hm, hr⟩
  have HL : Hid (zs.length = n) := hl
  clear hl hr hc hm
  go_enter Tryd.func12, Tryd.ntmps12
  go_wp2
  go_loopw [0, 3] (fun b c wr => ∃ (l : List Int) (p : Option Addr) (cp m : Nat), b = .slice p l.length cp ∧ c = .int .i64 m ∧ Hid (m + costZ l = costZ zs ∧ m + l.length ≤ n ∧ AnsB wr (.slice p l.length cp) l) ∧ Below w.heap.size w wr) (fun b _ _ => match b with | .slice _ k _ => k | _ => 0)
  case atStart => exact ⟨zs, a, cap, 0, by rw [HL.out], rfl, ⟨by simp, by rw [HL.out]; omega, by rw [HL.out]; exact HA.out⟩, Below.refl _ _⟩
  case round =>
    obtain ⟨l, p, cp, m, rfl, rfl, HI, hb⟩ := hrel
    obtain ⟨k, hk⟩ : ∃ k, k = l.length := ⟨_, rfl⟩
    have HK : Hid (k = l.length) := hk
    rw [← hk] at HI ⊢
    have hmn := HI.out.2.1
    clear hk
    by_cases h0 : 0 < k
    · obtain ⟨x, t, hx⟩ : ∃ x t, l = x :: t := by
        cases l with
        | nil => have := HK.out; simp at this; omega
        | cons x t => exact ⟨x, t, rfl⟩
      subst hx
      obtain ⟨q, c9, he, hlc, hcm, hrd⟩ := HI.out.2.2
      simp only [Value.slice.injEq] at he
      obtain ⟨rfl, hkx, rfl⟩ := he
      clear hkx
      obtain ⟨b, off, rfl, h1, h2⟩ := hrd.2.resolve_left (by simp)
      have g1 : wr.cell? ⟨b, off, none⟩ = some (.int .u8 x) := h2 0 (by simp)
      have hl1 : t.length + 1 = k := by have := HK.out; simp only [List.length_cons] at this; omega
      have hkc : k ≤ cp := by have := HK.out; omega
      have h0' : (0 : Int) < (k : Int) := by omega
      have hkc' : (k : Int) ≤ (cp : Int) := by omega
      have h1' : (1 : Int) ≤ (k : Int) := by omega
      have h1c : (1 : Int) ≤ (cp : Int) := by omega
      by_cases hx7 : x = 27
      · subst hx7
        have HQ : Hid (Calls Tryd.prog 15 #[.slice (some ⟨b, off, none⟩) k cp] wr fun e w' => ∃ v, e = .returned v ∧ AnsB w' v (behZ t) ∧ Below wr.heap.size wr w') := implBeh_any b off k cp t wr hl1 hkc hcm hrd
        have HC : Hid (m + costZ (behZ t) = costZ zs ∧ (behZ t).length ≤ t.length) := ⟨by rw [← HI.out.1, costZ_esc], behZ_len t⟩
        have HF : Hid (t.length + 1 = k ∧ m + k ≤ n) := ⟨hl1, by have := HK.out; omega⟩
        clear h2 hrd hcm hl1 hlc hmn hkc h0
        go_wp2_with fail
        refine HQ.out.mono ?_
        rintro e w2 ⟨v, rfl, hA, hb2⟩
        obtain ⟨q, c9, rfl, r1, r2, r3⟩ := hA
        have hb' := hb.trans (hb2.mono hb.size)
        have HN : Hid (AnsB w2 (.slice q (behZ t).length c9) (behZ t)) := ⟨q, c9, rfl, r1, r2, r3⟩
        have hlt : (behZ t).length < k := by have := HC.out.2; have := HF.out; omega
        clear r1 r2 r3
        go_wp2
        go_roundw
        case rel => exact ⟨behZ t, q, c9, m, rfl, rfl, ⟨HC.out.1, by have := HC.out.2; have := HF.out; omega, HN.out⟩, hb'⟩
        case measure => first | exact hlt | (simp; omega) | omega
      · have d1 : (x == 27) = false := by simpa using hx7
        have hw : IntKind.i64.wrap ((m : Int) + 1) = (m : Int) + 1 := wrap_i64_in _ (by omega) (by omega)
        have HC : Hid (m + 1 + costZ t = costZ zs) := by show _ = _; rw [← HI.out.1, costZ_one hx7]; omega
        by_cases hc1 : cp = 1
        · subst hc1
          have hk1 : k = 1 := by omega
          subst hk1
          have HV : Hid (AnsB wr (.slice (some ⟨b, off, none⟩) (1 - 1) 0) t) := ansB_tail1 hl1 hkc hrd
          have HF : Hid (t.length + 1 = 1 ∧ m + 1 ≤ n) := ⟨hl1, by have := HK.out; omega⟩
          clear h2 hrd hcm hx7 hl1 hlc hmn hkc h0
          go_wp2
          go_roundw
          case rel => exact ⟨t, some ⟨b, off, none⟩, 0, m + 1, by have := HF.out; congr 1 <;> omega, by go_num, ⟨HC.out, by have := HF.out; omega, by have := HV.out; rw [show 1 - 1 = t.length by have := HF.out; omega] at this; exact this⟩, hb⟩
          case measure => first | (simp; done) | (have := HF.out; omega) | (have := HF.out; simp; omega)
        · have HV : Hid (AnsB wr (.slice (some ⟨b, off + 1, none⟩) (k - 1) (cp - 1)) t) := ansB_tail2 hl1 hkc hcm hc1 hrd
          unfold maxLen at hcm
          have HF : Hid (t.length + 1 = k ∧ m + k ≤ n) := ⟨hl1, by have := HK.out; omega⟩
          clear h2 hrd hx7 hl1 hlc hmn hkc h0
          go_wp2
          go_roundw
          case rel => exact ⟨t, some ⟨b, off + 1, none⟩, cp - 1, m + 1, by have := HF.out; congr 1 <;> omega, by go_num, ⟨HC.out, by have := HF.out; omega, by have := HV.out; rw [show k - 1 = t.length by have := HF.out; omega] at this; exact this⟩, hb⟩
          case measure => have := HF.out; first | omega | (simp; omega)
    · have e0 : k = 0 := by omega
      subst e0
      have e1 : l = [] := List.eq_nil_of_length_eq_zero HK.out.symm
      have HM : Hid (m = costZ zs) := by show _ = _; rw [← HI.out.1, e1, costZ_nil]; omega
      go_wp2
      go_ret
      exact ⟨by rw [← HM.out]; rfl, hb⟩

end Go.Proofs.YtcchjcllkfaadaaDoor
