/-
  Moving the cursor: the pieces of the program.
-/
import Derived.Test.YthgbionamelloaaDoorEmS
namespace Go.Proofs.YthgbionamelloaaDoor
open Go.RowKit
set_option linter.unusedVariables false
set_option linter.unusedSimpArgs false

theorem edge_any (x : Int) (w : World) :
    Calls Tryd.prog 23 #[.int .i64 x] w fun e w' => ∃ v F, e = .returned v ∧ OwC w' w.heap.size v (edgeZ x) F ∧ F.Nodup ∧ Below w.heap.size w w' := by
  unfold edgeZ
  by_cases h : x = 0
  · subst h
    have ho : OwC (w.alloc (.cells #[.int .u8 13] 5)) w.heap.size (.slice (some ⟨w.heap.size, 0, none⟩) 1 1) [13] [w.heap.size] :=
      owC_row (d := [13]) (Nat.le_refl _) (heap_alloc_new _ _) (Nat.le_refl _) (by unfold maxLen; omega) (fun i hi => by simp at hi; subst hi; rfl) (by simp)
    rw [if_pos rfl]
    have HO : Hid _ := ho
    clear ho
    go_enter Tryd.func23, Tryd.ntmps23
    go_wp2
    go_ret
    exact ⟨_, _, rfl, HO.out, by simp, (Below.refl _ _).alloc (Nat.le_refl _) _⟩
  · have d : (x != 0) = true := by simpa using h
    rw [if_neg h]
    clear h
    go_enter Tryd.func23, Tryd.ntmps23
    go_wp2
    go_ret
    exact ⟨_, _, rfl, OwC.nil _ _, by simp, Below.refl _ _⟩

set_option maxRecDepth 100000 in
set_option maxHeartbeats 1000000 in
theorem col_any (n : Int) (f : ByteArray) (hf : f.size = 1) (hn : n ≤ 1000) (w : World) (htab : Lib.TabIs Tryd.prog w "internal/strconv.uint64pow10" .u64 Lib.pow10Tab) :
    Calls Tryd.prog 25 #[.int .i64 n, .string f] w fun e w' => ∃ v F, e = .returned v ∧ OwC w' w.heap.size v (colZ n f) F ∧ F.Nodup ∧ Below w.heap.size w w' := by
  unfold colZ
  by_cases h : 1 ≤ n
  · obtain ⟨k, rfl⟩ : ∃ k : Nat, n = k := ⟨n.toNat, by omega⟩
    have q : Hid (Calls Tryd.prog 33 #[.int .i64 k] w fun e w'' => e = .returned (.string (decT k)) ∧ Below w.heap.size w w'') := implNum_yes k (by omega) w htab
    rw [if_pos h]
    have d : decide ((k : Int) < 1) = false := decide_eq_false (by omega)
    have hA5 := dec_len k (by omega)
    have HS : Hid ((colT k f).size ≤ maxLen) := by
      have := colT_size k f hf
      have := nD_le3 (n := k)
      rw [decT_size] at hA5
      show _ ≤ maxLen
      unfold maxLen; omega
    obtain ⟨A, hA⟩ : ∃ A, A = decT k := ⟨_, rfl⟩
    have HT : Hid ((⟨#[27, 91]⟩ ++ A) ++ f = colT k f) := by show _ = _; rw [hA]; rfl
    rw [← hA] at q hA5
    have hcv := fun W : World => Lib.run_convert_string_bytes (P := Tryd.prog) W 9 26 5 ((⟨#[27, 91]⟩ ++ A) ++ f) Tryd.underlying9 Tryd.underlying26 Tryd.underlying5
    have HF : Hid (f.size = 1) := hf
    have hf2 : f.size ≤ 5 := by omega
    clear hA h hf htab
    go_enter Tryd.func25, Tryd.ntmps25
    go_wp2_with fail
    refine q.out.mono ?_
    rintro e w2 ⟨rfl, hb2⟩
    have hz2 := hb2.size
    go_wp2
    go_ret
    have ho := (owC_conv w2 (colT k f) HS.out).base hz2
    have hb := hb2.trans ((below_conv w2 (colT k f)).mono hz2)
    have es : ((⟨#[27, 91]⟩ ++ A) ++ f : ByteArray).size = 2 + A.size + f.size := by simp only [ByteArray.size_append]; rfl
    have ek : ((k : Int)).toNat = k := rfl
    rw [ek]
    rw [← HT.out] at ho hb ⊢
    rw [es] at ho
    exact ⟨_, [w2.heap.size], rfl, ho, by simp, hb⟩
  · have d : decide (n < 1) = true := decide_eq_true (by omega)
    rw [if_neg h]
    clear h
    go_enter Tryd.func25, Tryd.ntmps25
    go_wp2
    go_ret
    exact ⟨_, _, rfl, OwC.nil _ _, by simp, Below.refl _ _⟩

set_option maxRecDepth 100000 in
set_option maxHeartbeats 1000000 in
theorem shortest_any (P : Value → List Int → Prop) (hP : ∀ v l, P v l → ∃ p c, v = .slice p l.length c) (vs : List Value) (ls : List (List Int)) (g n : Nat) (t : TypeId) (w : World)
    (hl : vs.length = n) (hll : ls.length = n) (hn : n ≤ 100) (hh : w.heap[g]? = some (.cells vs.toArray t (0, 0))) (hv : ∀ i, i < n → P (vs[i]?.getD undef) (ls[i]?.getD [])) (h0 : P (.slice none 0 0) []) :
    Calls Tryd.prog 22 #[.slice (some ⟨g, 0, none⟩) n n] w fun e w' => ∃ v, e = .returned v ∧ P v (pickL ls) ∧ ∃ q, w' = w.drewN q := by
  have HH : Hid (∀ i, i < n → w.cell? ⟨g, i, none⟩ = some (vs[i]?.getD undef)) := fun i hi => by
    have : i < vs.length := by omega
    simp [World.cell?, hh, this]
  have HV : Hid (∀ i, i < n → P (vs[i]?.getD undef) (ls[i]?.getD [])) := hv
  have HL : Hid (ls.length = n) := hll
  clear hh hv hl hll
  go_enter Tryd.func22, Tryd.ntmps22
  go_wp2
  go_loopw [3, 8] (fun f i wr => ∃ (k : Nat) (p : Option Addr) (c m : Nat), k ≤ n ∧ i = .int .i64 k ∧ f = .slice p m c ∧ Hid (m = (pickL (ls.take k)).length ∧ P (.slice p m c) (pickL (ls.take k))) ∧ ∃ q, wr = w.drewN q) (fun _ i _ => n - (intOf i).toNat)
  case atStart => exact ⟨0, none, 0, 0, Nat.zero_le _, rfl, rfl, ⟨rfl, h0⟩, 0, rfl⟩
  case round =>
    obtain ⟨k, p, c, m, hk, rfl, rfl, HI, q, rfl⟩ := hrel
    by_cases hlt : k < n
    · obtain ⟨l, hle⟩ : ∃ l, l = ls[k]?.getD [] := ⟨_, rfl⟩
      have hp := HV.out k hlt
      rw [← hle] at hp
      obtain ⟨p1, c1, e1⟩ := hP _ _ hp
      rw [e1] at hp
      have g1 : w.cell? ⟨g, k, none⟩ = some (.slice p1 l.length c1) := by rw [← e1]; exact HH.out k hlt
      have HT : Hid (pickL (ls.take (k + 1)) = shL (pickL (ls.take k)) l) := by show _ = _; rw [hle]; exact pickL_take (by rw [HL.out]; exact hlt)
      obtain ⟨m1, hm1⟩ : ∃ m, m = l.length := ⟨_, rfl⟩
      rw [← hm1] at g1 hp
      have HM1 : Hid (m1 = l.length) := hm1
      have HP1 : Hid (P (.slice p1 m1 c1) l) := hp
      have hlt' : (k : Int) < (n : Int) := by omega
      clear hle hp e1 hm1
      by_cases a0 : 0 < m1
      · have a0' : decide ((0 : Int) < (m1 : Int)) = true := decide_eq_true (by omega)
        by_cases b0 : m = 0
        · subst b0
          have HE : Hid (shL (pickL (ls.take k)) l = l) := by show _ = _; unfold shL; rw [if_pos ⟨by rw [← HM1.out]; exact a0, .inl HI.out.1.symm⟩]
          go_wp2
          go_roundw
          case rel => exact ⟨k + 1, p1, c1, m1, by omega, by go_num, rfl, ⟨by rw [HT.out, HE.out]; exact HM1.out, by rw [HT.out, HE.out]; exact HP1.out⟩, _, rfl⟩
          case measure => simp [intOf]; omega
        · have b0' : ((m : Int) == 0) = false := by simp; omega
          by_cases c0 : m1 < m
          · have c0' : decide ((m1 : Int) < (m : Int)) = true := decide_eq_true (by omega)
            have HE : Hid (shL (pickL (ls.take k)) l = l) := by show _ = _; unfold shL; rw [if_pos ⟨by rw [← HM1.out]; exact a0, .inr (by rw [← HM1.out, ← HI.out.1]; exact c0)⟩]
            go_wp2
            go_roundw
            case rel => exact ⟨k + 1, p1, c1, m1, by omega, by go_num, rfl, ⟨by rw [HT.out, HE.out]; exact HM1.out, by rw [HT.out, HE.out]; exact HP1.out⟩, _, rfl⟩
            case measure => simp [intOf]; omega
          · have c0' : decide ((m1 : Int) < (m : Int)) = false := decide_eq_false (by omega)
            have HE : Hid (shL (pickL (ls.take k)) l = pickL (ls.take k)) := by
              show _ = _; unfold shL; rw [if_neg]
              rw [← HM1.out, ← HI.out.1]; omega
            go_wp2
            go_roundw
            case rel => exact ⟨k + 1, p, c, m, by omega, by go_num, rfl, ⟨by rw [HT.out, HE.out]; exact HI.out.1, by rw [HT.out, HE.out]; exact HI.out.2⟩, _, rfl⟩
            case measure => simp [intOf]; omega
      · have e0 : m1 = 0 := by omega
        subst e0
        have HE : Hid (shL (pickL (ls.take k)) l = pickL (ls.take k)) := by
          show _ = _; unfold shL; rw [if_neg]
          rw [← HM1.out]; omega
        go_wp2
        go_roundw
        case rel => exact ⟨k + 1, p, c, m, by omega, by go_num, rfl, ⟨by rw [HT.out, HE.out]; exact HI.out.1, by rw [HT.out, HE.out]; exact HI.out.2⟩, _, rfl⟩
        case measure => simp [intOf]; omega
    · have e : k = n := by omega
      subst e
      have HF : Hid (P (.slice p m c) (pickL ls)) := by have := HI.out.2; rw [List.take_of_length_le (by rw [HL.out]; exact Nat.le_refl _)] at this; exact this
      go_wp2
      go_ret
      exact ⟨_, rfl, HF.out, _, rfl⟩

end Go.Proofs.YthgbionamelloaaDoor
