/-
  EmitCost of the model.
-/
import Derived.Test.YtcchjcllkfaadaaDoorEmP
namespace Go.Proofs.YtcchjcllkfaadaaDoor
open Go.RowKit
set_option linter.unusedVariables false
set_option linter.unusedSimpArgs false

set_option maxRecDepth 100000 in
set_option maxHeartbeats 4000000 in
theorem specCost_any (a : Option Addr) (n cap : Nat) (zs : List Int) (w : World) (hl : Hid (zs.length = n)) (hr : Rd w a zs) (hn : n ≤ 2097152) :
    Calls Tryd.prog 10 #[.slice a n cap] w fun e w' => e = .returned (.int .i64 (costZ zs)) ∧ ∃ q, w' = w.drewN q := by
  go_enter Tryd.func10, Tryd.ntmps10
  go_wp2
  go_loopw [3, 4] (fun c i wr => ∃ k m : Nat, k ≤ n + 1 ∧ m ≤ k ∧ c = .int .i64 m ∧ i = .int .i64 k ∧ Hid (m + costZ (zs.drop k) = costZ zs) ∧ ∃ q, wr = w.drewN q) (fun _ i _ => n + 1 - (intOf i).toNat)
  case atStart => exact ⟨0, 0, by omega, by omega, rfl, rfl, by simp [Hid], 0, rfl⟩
  case round =>
    obtain ⟨k, m, hk, hmk, rfl, rfl, HI, q, rfl⟩ := hrel
    by_cases hlt : k < n
    · have hne : zs ≠ [] := by intro h; have := hl.out; subst h; simp at this; omega
      obtain ⟨b, off, rfl, hb, hc⟩ := hr.2.resolve_left hne
      have HC : Hid (∀ i, i < n → w.cell? ⟨b, off + i, none⟩ = some (.int .u8 (zs[i]?.getD 0))) := fun i hi => hc i (by rw [hl.out]; exact hi)
      obtain ⟨x, hx⟩ : ∃ x, x = zs[k]?.getD 0 := ⟨_, rfl⟩
      have HD : Hid (zs.drop k = x :: zs.drop (k + 1)) := by show _ = _; rw [hx]; exact drop_at (by rw [hl.out]; exact hlt)
      have g1 : w.cell? ⟨b, off + k, none⟩ = some (.int .u8 x) := by rw [hx]; exact HC.out k hlt
      have hlt' : (k : Int) < (n : Int) := by omega
      clear hc hne hr hx
      by_cases hx7 : x = 27
      · subst hx7
        by_cases hk1 : k + 1 < n
        · obtain ⟨y, hy⟩ : ∃ y, y = zs[k + 1]?.getD 0 := ⟨_, rfl⟩
          have HD2 : Hid (zs.drop (k + 1) = y :: zs.drop (k + 1 + 1)) := by show _ = _; rw [hy]; exact drop_at (by rw [hl.out]; exact hk1)
          have g2 : w.cell? ⟨b, off + (k + 1), none⟩ = some (.int .u8 y) := by rw [hy]; exact HC.out (k + 1) hk1
          have hk1' : (k : Int) + 1 < (n : Int) := by omega
          clear hy
          by_cases hy9 : y = 91
          · subst hy9
            have HB : Hid (m + costZ (((zs.drop (k + 1 + 1)).dropWhile argC).drop 1) = costZ zs) := by show _ = _; rw [← HI.out, HD.out, costZ_esc, HD2.out, behZ_yes]
            clear HI HD HD2
            go_wp2
            go_loopw [4] (fun i wr => ∃ j : Nat, k + 2 ≤ j ∧ j ≤ n ∧ i = .int .i64 j ∧ Hid ((zs.drop j).dropWhile argC = (zs.drop (k + 1 + 1)).dropWhile argC) ∧ ∃ q, wr = w.drewN q) (fun i _ => n - (intOf i).toNat)
            case atStart => exact ⟨k + 2, Nat.le_refl _, by omega, by go_num, rfl, _, rfl⟩
            case round =>
              obtain ⟨j, hkj, hjn, rfl, HJ, q, rfl⟩ := hrel
              by_cases hj : j < n
              · obtain ⟨z, hz⟩ : ∃ z, z = zs[j]?.getD 0 := ⟨_, rfl⟩
                have HDj : Hid (zs.drop j = z :: zs.drop (j + 1)) := by show _ = _; rw [hz]; exact drop_at (by rw [hl.out]; exact hj)
                have g3 : w.cell? ⟨b, off + j, none⟩ = some (.int .u8 z) := by rw [hz]; exact HC.out j hj
                have hj' : (j : Int) < (n : Int) := by omega
                clear hz g1 g2 hlt' hk1'
                by_cases hd : (48 ≤ z ∧ z ≤ 57) ∨ z = 59
                · have HA : Hid ((zs.drop (j + 1)).dropWhile argC = (zs.drop (k + 1 + 1)).dropWhile argC) := by show _ = _; rw [← HJ.out, HDj.out, List.dropWhile_cons, argC_yes hd]; rfl
                  rcases (show (48 ≤ z ∧ z ≤ 57) ∨ (48 ≤ z ∧ 57 < z ∧ z = 59) by omega) with ⟨h1, h2⟩ | ⟨h1, h2, h3⟩
                  · have d1 : decide ((48 : Int) ≤ z) = true := decide_eq_true h1
                    have d2 : decide (z ≤ (57 : Int)) = true := decide_eq_true h2
                    clear hd h1 h2
                    go_wp2
                    go_roundw
                    case rel => exact ⟨j + 1, by omega, by omega, by go_num, HA.out, _, rfl⟩
                    case measure => simp [intOf]; omega
                  · subst h3
                    clear hd h1 h2
                    go_wp2
                    go_roundw
                    case rel => exact ⟨j + 1, by omega, by omega, by go_num, HA.out, _, rfl⟩
                    case measure => simp [intOf]; omega
                · have HA : Hid (((zs.drop (k + 1 + 1)).dropWhile argC).drop 1 = zs.drop (j + 1)) := by show _ = _; rw [← HJ.out, HDj.out, List.dropWhile_cons, argC_no hd]; rfl
                  have h59 : (z == 59) = false := by simp; omega
                  rcases (show (z < 48) ∨ (48 ≤ z ∧ 57 < z) by omega) with h1 | ⟨h1, h2⟩
                  · have d1 : decide ((48 : Int) ≤ z) = false := decide_eq_false (by omega)
                    clear hd h1
                    go_wp2
                    go_roundw
                    case rel => exact ⟨j + 1, m, by omega, by omega, rfl, by go_num, by show _ = _; rw [← HB.out, HA.out], _, rfl⟩
                    case measure => simp [intOf]; omega
                  · have d1 : decide ((48 : Int) ≤ z) = true := decide_eq_true h1
                    have d2 : decide (z ≤ (57 : Int)) = false := decide_eq_false (by omega)
                    clear hd h1 h2
                    go_wp2
                    go_roundw
                    case rel => exact ⟨j + 1, m, by omega, by omega, rfl, by go_num, by show _ = _; rw [← HB.out, HA.out], _, rfl⟩
                    case measure => simp [intOf]; omega
              · have hj' : ¬ (j : Int) < (n : Int) := by omega
                have e0 : zs.drop j = [] := List.drop_eq_nil_of_le (by rw [hl.out]; omega)
                have HA : Hid (((zs.drop (k + 1 + 1)).dropWhile argC).drop 1 = zs.drop (j + 1)) := by show _ = _; rw [← HJ.out, e0]; simp; rw [hl.out]; omega
                clear e0 g1 g2 hlt' hk1'
                go_wp2
                go_roundw
                case rel => exact ⟨j + 1, m, by omega, by omega, rfl, by go_num, by show _ = _; rw [← HB.out, HA.out], _, rfl⟩
                case measure => simp [intOf]; omega
          · have d2 : (y == 91) = false := by simpa using hy9
            have HY : Hid (y ≠ 91) := hy9
            clear hy9
            go_wp2
            go_roundw
            case rel => exact ⟨k + 1, m, by omega, by omega, rfl, by go_num, by show _ = _; rw [← HI.out, HD.out, costZ_esc, HD2.out, behZ_no HY.out], _, rfl⟩
            case measure => simp [intOf]; omega
        · have hk1' : ¬ (k : Int) + 1 < (n : Int) := by omega
          have e0 : zs.drop (k + 1) = [] := List.drop_eq_nil_of_le (by rw [hl.out]; omega)
          have E0 : Hid (zs.drop (k + 1) = []) := e0
          clear e0
          go_wp2
          go_roundw
          case rel => exact ⟨k + 1, m, by omega, by omega, rfl, by go_num, by show _ = _; rw [← HI.out, HD.out, costZ_esc, E0.out]; rfl, _, rfl⟩
          case measure => simp [intOf]; omega
      · have d1 : (x != 27) = true := by simpa using hx7
        have HX : Hid (x ≠ 27) := hx7
        clear hx7
        go_wp2
        go_roundw
        case rel => exact ⟨k + 1, m + 1, by omega, by omega, by go_num, by go_num, by show _ = _; rw [← HI.out, HD.out, costZ_one HX.out]; omega, _, rfl⟩
        case measure => simp [intOf]; omega
    · have e0 : zs.drop k = [] := List.drop_eq_nil_of_le (by rw [hl.out]; omega)
      have HM : Hid (m = costZ zs) := by show _ = _; rw [← HI.out, e0, costZ_nil]; omega
      clear e0
      go_wp2
      go_ret
      exact ⟨by rw [← HM.out]; rfl, _, rfl⟩

end Go.Proofs.YtcchjcllkfaadaaDoor
