/-
  TextKey of the model. By program (tksgen.py).
-/
import Derived.Test.YtndlehogfedfaaaDoorTkT
import Derived.Test.YtndlehogfedfaaaDoorKtS
import Derived.Test.YtndlehogfedfaaaDoorRofX
namespace Go.Proofs.YtndlehogfedfaaaDoor
open Go.RowKit
set_option linter.unusedVariables false
set_option linter.unusedSimpArgs false
set_option maxRecDepth 100000

theorem kl_pos {k r : Int} (h : kok k r = true) : 0 < (kl k r).length := by
  have hz : kForm k r ≠ 0 := of_decide_eq_true (show decide _ = true from h)
  rcases kForm_le k r with h1 | h1 | h1 | h1 | h1
  · exact absurd h1 hz
  · unfold kl; rw [if_pos h1]; split <;> simp
  · unfold kl; rw [h1]; simp
  · unfold kl; rw [h1]; simp
  · obtain ⟨h2, h3, rfl⟩ := kForm_4 h1
    have : k = 4 ∨ k = 5 ∨ k = 6 ∨ k = 7 ∨ k = 8 ∨ k = 9 ∨ k = 10 ∨ k = 11 ∨ k = 12 ∨ k = 13 ∨ k = 14 ∨ k = 15 ∨ k = 16 := by omega
    rcases this with rfl | rfl | rfl | rfl | rfl | rfl | rfl | rfl | rfl | rfl | rfl | rfl | rfl
    all_goals decide +kernel

theorem last_right {k r : Int} {s : ByteArray} {m : Nat} (h : kok k r = true) (e : ktx k r = s) (hk : k ≤ 3) (hm : (runes s).length = m + 1) :
    1 ≤ k ∧ r = if s = ⟨#[83, 80, 67]⟩ then 32 else (runes s)[m]?.getD 0 := by
  have hz : kForm k r ≠ 0 := of_decide_eq_true (show decide _ = true from h)
  have hr := (ktx_runes h).2
  rw [e] at hr
  have hspc : runes ⟨#[83, 80, 67]⟩ = [83, 80, 67] := by
    have := (ktx_runes spc_right.1).2
    rw [spc_right.2] at this
    exact this
  rcases kt_cases k r with ⟨h1, e1⟩ | ⟨h1, h32, e1⟩ | ⟨h1, h32, e1⟩ | ⟨h1, e1⟩ | ⟨h1, e1⟩ | ⟨h1, h2⟩
  · exact absurd h1 hz
  · obtain rfl := kForm_1 h1
    rw [e] at e1
    rw [if_pos e1]
    exact ⟨by decide, h32⟩
  · obtain rfl := kForm_1 h1
    have e2 : kl 1 r = [r] := by unfold kl; rw [if_pos h1, if_neg h32]
    rw [e2] at hr
    rw [if_neg (fun x => by rw [x, hspc] at hr; simp at hr)]
    rw [hr] at hm ⊢
    have : m = 0 := by simp at hm; omega
    subst this
    exact ⟨by decide, rfl⟩
  · obtain rfl := kForm_2 h1
    have e2 : kl 2 r = [67, 45, r] := by unfold kl; rw [h1]; rfl
    rw [e2] at hr
    rw [if_neg (fun x => by rw [x, hspc] at hr; simp at hr)]
    rw [hr] at hm ⊢
    have : m = 2 := by simp at hm; omega
    subst this
    exact ⟨by decide, rfl⟩
  · obtain rfl := kForm_3 h1
    have e2 : kl 3 r = [77, 45, r] := by unfold kl; rw [h1]; rfl
    rw [e2] at hr
    rw [if_neg (fun x => by rw [x, hspc] at hr; simp at hr)]
    rw [hr] at hm ⊢
    have : m = 2 := by simp at hm; omega
    subst this
    exact ⟨by decide, rfl⟩
  · obtain ⟨rfl, h2⟩ := (⟨h1, h2⟩ : _ ∧ _)
    omega

theorem big_name {k r : Int} (h : kok k r = true) (hk : ¬ k ≤ 3) : ∃ i, i < 13 ∧ ktx k r = nmA i := by
  have hz : kForm k r ≠ 0 := of_decide_eq_true (show decide _ = true from h)
  rcases kForm_le k r with h1 | h1 | h1 | h1 | h1
  · exact absurd h1 hz
  · have := kForm_1 h1; omega
  · have := kForm_2 h1; omega
  · have := kForm_3 h1; omega
  · obtain ⟨h2, h3, rfl⟩ := kForm_4 h1
    refine ⟨(k - 4).toNat, by omega, ?_⟩
    have e := (nm_right (k - 4).toNat (by omega)).2
    have e2 : (4 : Int) + ((k - 4).toNat : Int) = k := by omega
    rw [e2] at e
    exact e

set_option maxHeartbeats 8000000 in
theorem specTk_any (s : ByteArray) (w : World) (hs : s.size ≤ 1048576) :
    Calls Tryd.prog 9 #[.string s] w fun e w' => ∃ k r b, e = .returned (.tuple #[.agg #[.int .i64 k, .int .i64 r], .bool b]) ∧ Below w.heap.size w w' ∧ TkA s k r b := by
  obtain ⟨W1, hW1⟩ : ∃ U, U = w.alloc (.cells #[.int .i64 0, .int .i64 0] 25) := ⟨_, rfl⟩
  have b1 : Below w.heap.size w W1 := by rw [hW1]; exact (Below.refl _ _).alloc (Nat.le_refl _) _
  have i1 : W1.heap[w.heap.size]? = some (.cells #[.int .i64 0, .int .i64 0] 25 (0, 0)) := by rw [hW1]; exact heap_alloc_new w _
  have z1 : W1.heap.size = w.heap.size + 1 := by rw [hW1]; simp
  have HW : Hid (W1 = _) := hW1
  have HI : Hid (∀ w', Below W1.heap.size W1 w' → w'.heap[w.heap.size]? = some (.cells #[.int .i64 0, .int .i64 0] 25 (0, 0))) := fun w' h => (h.block _ (by omega)).trans i1
  have HB1 : Hid (Below w.heap.size w W1) := b1
  have HS : Hid (s.size ≤ 1048576) := hs
  have QT : Hid (∀ k r w', Calls Tryd.prog 6 #[.agg #[.int .i64 k, .int .i64 r]] w' fun e w'' => e = .returned (.string (ktx k r)) ∧ Below w'.heap.size w' w'') := fun k r w' => specKt_any k r w'
  have hRN : Hid (¬ rofOk s → ∀ w', Calls Tryd.prog 22 #[.string s] w' fun e w'' => e = .returned (.tuple #[.slice none 0 0, .bool false]) ∧ Below w'.heap.size w' w'') := fun h w' => specRof_nil s w' hs h
  have hRY : Hid (rofOk s → ∀ w', Calls Tryd.prog 22 #[.string s] w' fun e w'' => ∃ g c, e = .returned (.tuple #[.slice (some ⟨g, 0, none⟩) (runes s).length c, .bool true]) ∧
      w''.ownsRow w'.heap.size 3 1 (.slice (some ⟨g, 0, none⟩) (runes s).length c) (runes s).length ((runes s).map (Value.int .i64)) ∧ Below w'.heap.size w' w'') := fun h w' => specRof_yes s w' h
  clear hW1 b1 i1 z1 hs
  go_enter Tryd.func9, Tryd.ntmps9
  go_wp2
  rw [← HW.out]
  go_loopw [4] (fun kv wr => ∃ j : Nat, j ≤ 13 ∧ kv = .int .i64 ((4 + j : Nat) : Int) ∧ Hid ((∀ i, i < j → nmA i ≠ s) ∧ Below W1.heap.size W1 wr)) (fun kv _ => 17 - (intOf kv).toNat)
  case atStart => exact ⟨0, by omega, rfl, fun i hi => by omega, Below.refl _ _⟩
  case round =>
    obtain ⟨j, hj, rfl, HJ⟩ := hrel
    by_cases hlt : j < 13
    · have hk4 : ((4 + j : Nat) : Int) ≤ 16 := by omega
      have hnm := nm_right j hlt
      have hcast : ((4 + j : Nat) : Int) = 4 + (j : Int) := by omega
      have QJ : Hid (Calls Tryd.prog 6 #[.agg #[.int .i64 ((4 + j : Nat) : Int), .int .i64 0]] wr fun e w'' => e = .returned (.string (nmA j)) ∧ Below wr.heap.size wr w'') := by
        have := QT.out ((4 + j : Nat) : Int) 0 wr
        rw [hcast, hnm.2] at this
        rw [hcast]
        exact this
      have HK : Hid (kok ((4 + j : Nat) : Int) 0 = true ∧ ktx ((4 + j : Nat) : Int) 0 = nmA j) := by rw [hcast]; exact hnm
      obtain ⟨kk, hkk⟩ : ∃ kk : Int, kk = ((4 + j : Nat) : Int) := ⟨_, rfl⟩
      have HKK : Hid (kk = ((4 + j : Nat) : Int)) := hkk
      rw [← hkk] at QJ HK hk4 ⊢
      have hb17 : 0 ≤ kk ∧ kk ≤ 16 := by omega
      obtain ⟨hb0, hb1⟩ := hb17
      clear hnm hcast hkk
      go_wp2_with fail
      refine QJ.out.mono ?_
      rintro e w6 ⟨rfl, hb6⟩
      have b6 : Below W1.heap.size W1 w6 := HJ.out.2.trans (hb6.mono HJ.out.2.size)
      by_cases hT : nmA j = s
      · have HA : Hid (TkA s kk 0 true) := .inl ⟨rfl, HK.out.1, HK.out.2.trans hT⟩
        have hne : ((nmA j).toList == s.toList) = true := by rw [hT]; simp
        have i6 := HI.out _ b6
        have HB : Hid (Below w.heap.size w w6) := HB1.out.trans (b6.mono HB1.out.size)
        clear b6 hb6 hT
        have HLD : (loadVar 25 ⟨w.heap.size, 0, none⟩).run Tryd.prog (w6.setRow w.heap.size #[.int .i64 kk, .int .i64 0]) = .ok (.agg #[.int .i64 kk, .int .i64 0]) (w6.setRow w.heap.size #[.int .i64 kk, .int .i64 0]) := run_loadVar_row _ _ _ _ _ _ _ (setRow_heap _ _ _ _ _ _ i6) Tryd.underlying25 rfl (by kernel_rfl)
        have HF : Hid (Below w.heap.size w (w6.setRow w.heap.size #[.int .i64 kk, .int .i64 0])) := below_setRow HB.out (Nat.le_refl _) _
        go_wp2_with (refine wpList_store_row rfl _ _ _ rfl _ _ rfl rfl _ _ i6 (by kernel_rfl) rfl (by simp [Value.oneCell']) ?_)
        (try simp only [Exit.inBlock, Exit.then])
        (try go_wp2)
        refine bodyPost_ret (by simp [results, Tryd.results9, asAddr, Act.put, HLD]; try rfl) rfl ?_
        first | exact ⟨kk, 0, true, rfl, HF.out, HA.out⟩ | exact ⟨kk, 0, .inr ⟨rfl, HF.out, HA.out⟩⟩
      · have hne : ((nmA j).toList == s.toList) = false := neq_str hT
        have HN : Hid ((∀ i, i < j + 1 → nmA i ≠ s) ∧ Below W1.heap.size W1 w6) := ⟨fun i hi => by
          by_cases e : i = j
          · subst e; exact hT
          · exact HJ.out.1 i (by omega), b6⟩
        clear b6 hb6 hT
        go_wp2
        go_roundw
        case rel => exact ⟨j + 1, by omega, by rw [HKK.out]; go_num, HN.out⟩
        case measure => rw [HKK.out]; simp [intOf]; omega
    · have hk4 : ¬ ((4 + j : Nat) : Int) ≤ 16 := by omega
      have HNN : Hid ((∀ i, i < 13 → nmA i ≠ s) ∧ Below W1.heap.size W1 wr) := ⟨fun i hi => HJ.out.1 i (by omega), HJ.out.2⟩
      obtain ⟨kk, hkk⟩ : ∃ kk : Int, kk = ((4 + j : Nat) : Int) := ⟨_, rfl⟩
      rw [← hkk] at hk4 ⊢
      clear hkk hlt hj HJ
      by_cases hrof : rofOk s
      rotate_left
      · have QR := hRN.out hrof
        have HA : Hid (TkA s 0 0 false) := .inr ⟨rfl, rfl, rfl, fun k' r' h1 h2 => hrof (by rw [← h2]; exact (ktx_runes h1).1)⟩
        clear hrof
        go_wp2_with fail
        refine (QR wr).mono ?_
        rintro e w6 ⟨rfl, hb6⟩
        have b6 : Below W1.heap.size W1 w6 := HNN.out.2.trans (hb6.mono HNN.out.2.size)
        have i6 := HI.out _ b6
        have HB : Hid (Below w.heap.size w w6) := HB1.out.trans (b6.mono HB1.out.size)
        clear b6 hb6
        have HLD : (loadVar 25 ⟨w.heap.size, 0, none⟩).run Tryd.prog (w6.setRow w.heap.size #[.int .i64 0, .int .i64 0]) = .ok (.agg #[.int .i64 0, .int .i64 0]) (w6.setRow w.heap.size #[.int .i64 0, .int .i64 0]) := run_loadVar_row _ _ _ _ _ _ _ (setRow_heap _ _ _ _ _ _ i6) Tryd.underlying25 rfl (by kernel_rfl)
        have HF : Hid (Below w.heap.size w (w6.setRow w.heap.size #[.int .i64 0, .int .i64 0])) := below_setRow HB.out (Nat.le_refl _) _
        go_wp2_with (refine wpList_store_row rfl _ _ _ rfl _ _ rfl rfl _ _ i6 (by kernel_rfl) rfl (by simp [Value.oneCell']) ?_)
        (try simp only [Exit.inBlock, Exit.then])
        (try go_wp2)
        refine bodyPost_ret (by simp [results, Tryd.results9, asAddr, Act.put, HLD]; try rfl) rfl ?_
        first | exact ⟨0, 0, false, rfl, HF.out, HA.out⟩ | exact ⟨0, 0, .inl ⟨rfl, HF.out, HA.out⟩⟩
      · have QR := hRY.out hrof
        obtain ⟨n, hn⟩ : ∃ n, n = (runes s).length := ⟨_, rfl⟩
        have HRN : Hid (n = (runes s).length) := hn
        rw [← hn] at QR
        go_wp2_with fail
        refine (QR wr).mono ?_
        rintro e w6 ⟨g, c, rfl, ho, hb6⟩
        have b6 : Below W1.heap.size W1 w6 := HNN.out.2.trans (hb6.mono HNN.out.2.size)
        clear hb6
        cases n with
        | zero =>
          have HA : Hid (TkA s 0 0 false) := .inr ⟨rfl, rfl, rfl, fun k' r' h1 h2 => by
            have e1 := (ktx_runes h1).2
            have e2 := kl_pos h1
            rw [h2] at e1
            rw [← e1] at e2
            omega⟩
          have i6 := HI.out _ b6
          have HB : Hid (Below w.heap.size w w6) := HB1.out.trans (b6.mono HB1.out.size)
          clear b6 ho QR hn
          have HLD : (loadVar 25 ⟨w.heap.size, 0, none⟩).run Tryd.prog (w6.setRow w.heap.size #[.int .i64 0, .int .i64 0]) = .ok (.agg #[.int .i64 0, .int .i64 0]) (w6.setRow w.heap.size #[.int .i64 0, .int .i64 0]) := run_loadVar_row _ _ _ _ _ _ _ (setRow_heap _ _ _ _ _ _ i6) Tryd.underlying25 rfl (by kernel_rfl)
          have HF : Hid (Below w.heap.size w (w6.setRow w.heap.size #[.int .i64 0, .int .i64 0])) := below_setRow HB.out (Nat.le_refl _) _
          go_wp2_with (refine wpList_store_row rfl _ _ _ rfl _ _ rfl rfl _ _ i6 (by kernel_rfl) rfl (by simp [Value.oneCell']) ?_)
          (try simp only [Exit.inBlock, Exit.then])
          (try go_wp2)
          refine bodyPost_ret (by simp [results, Tryd.results9, asAddr, Act.put, HLD]; try rfl) rfl ?_
          first | exact ⟨0, 0, false, rfl, HF.out, HA.out⟩ | exact ⟨0, 0, .inl ⟨rfl, HF.out, HA.out⟩⟩
        | succ m =>
          obtain ⟨lr, hlr⟩ : ∃ lr, lr = (runes s)[m]?.getD 0 := ⟨_, rfl⟩
          have gx : w6.cell? ⟨g, m, none⟩ = some (.int .i64 lr) ∧ g < w6.heap.size ∧ m + 1 ≤ c := by
            rcases ho.2 with ⟨hv, h0⟩ | ⟨g', cap, cur, hv, hB', hh, k1, k2, k3, k4⟩
            · cases hv
            · simp only [Value.slice.injEq, Option.some.injEq, Addr.mk.injEq, and_true, true_and] at hv
              obtain ⟨rfl, rfl⟩ := hv
              refine ⟨?_, (Array.getElem?_eq_some_iff.1 hh).1, k1⟩
              have e := congrArg (·[m]?) k4
              simp only [Nat.mul_one, List.getElem?_take, List.getElem?_map] at e
              rw [if_pos (by omega), Array.getElem?_toList] at e
              have hr : (runes s)[m]? = some lr := by
                rw [hlr]
                have : m < (runes s).length := by rw [← hn]; omega
                simp [this]
              rw [hr] at e
              exact box_cell hh (by simpa using e)
          obtain ⟨gx, hglt, hmc⟩ := gx
          have HL : Hid ((runes s).length = m + 1 ∧ lr = (runes s)[m]?.getD 0) := ⟨hn.symm, hlr⟩
          have hmb : m ≤ 1048576 := by
            have h9 : (runes s).length ≤ s.size := rn_len s s.size 0
            have := HS.out
            have := HL.out.1
            omega
          have hmm : ((m + 1 : Nat) : Int) - 1 = (m : Int) := by omega
          have hm0 : ((m : Int) + 1 == 0) = false := by simp; omega
          have HB6 : Hid (Below W1.heap.size W1 w6) := b6
          clear ho QR hn hlr b6 hrof
          obtain ⟨R, hR⟩ : ∃ R : Int, R = if s = ⟨#[83, 80, 67]⟩ then 32 else lr := ⟨_, rfl⟩
          have HR : Hid (∀ k' r', kok k' r' = true → ktx k' r' = s → 1 ≤ k' ∧ k' ≤ 3 ∧ r' = R) := fun k' r' h1 h2 => by
            by_cases h3 : k' ≤ 3
            · have := last_right h1 h2 h3 HL.out.1
              rw [← HL.out.2, ← hR] at this
              exact ⟨this.1, h3, this.2⟩
            · obtain ⟨i, hi, e⟩ := big_name h1 h3
              exact absurd (e.symm.trans h2) (HNN.out.1 i hi)
          have HNE : Hid (s ≠ ⟨#[]⟩) := fun x => by
            have := HL.out.1
            rw [x] at this
            have e0 : runes ⟨#[]⟩ = [] := rfl
            rw [e0] at this
            simp at this
          by_cases hspc : s = ⟨#[83, 80, 67]⟩
          · have hsp : (s.toList == [83, 80, 67]) = true := by rw [hspc]; decide +kernel
            rw [if_pos hspc] at hR
            subst hR
            clear hspc
            go_wp2
            go_loopw [8] (fun kv wr => ∃ j : Nat, 1 ≤ j ∧ j ≤ 4 ∧ kv = .int .i64 (j : Int) ∧ Hid ((∀ i : Nat, 1 ≤ i → i < j → ktx i 32 ≠ s) ∧ Below W1.heap.size W1 wr)) (fun kv _ => 5 - (intOf kv).toNat)
            case atStart => exact ⟨1, by omega, by omega, rfl, fun i h1 h2 => by omega, HB6.out⟩
            case round =>
              obtain ⟨j, hj1, hj4, rfl, HJ⟩ := hrel
              by_cases hlt : j ≤ 3
              · have hk3 : (j : Int) ≤ 3 := by omega
                obtain ⟨T, hT⟩ : ∃ T, T = ktx j 32 := ⟨_, rfl⟩
                have HTT : Hid (T = ktx j 32) := hT
                have QJ : Hid (∀ w', Calls Tryd.prog 6 #[.agg #[.int .i64 (j : Int), .int .i64 32]] w' fun e w'' => e = .returned (.string T) ∧ Below w'.heap.size w' w'') := fun w' => by rw [hT]; exact QT.out j 32 w'
                clear hT
                go_wp2_with fail
                refine (QJ.out _).mono ?_
                rintro e w7 ⟨rfl, hb7⟩
                have b7 : Below W1.heap.size W1 w7 := HJ.out.2.trans (hb7.mono HJ.out.2.size)
                by_cases hTs : T = s
                · have HA : Hid (TkA s (j : Int) 32 true) := .inl ⟨rfl, ktx_pos (by rw [← HTT.out, hTs]; exact HNE.out), by rw [← HTT.out, hTs]⟩
                  have hne : (T.toList == s.toList) = true := by rw [hTs]; simp
                  have i6 := HI.out _ b7
                  have HB : Hid (Below w.heap.size w w7) := HB1.out.trans (b7.mono HB1.out.size)
                  clear b7 hb7 hTs
                  have HLD : (loadVar 25 ⟨w.heap.size, 0, none⟩).run Tryd.prog (w7.setRow w.heap.size #[.int .i64 (j : Int), .int .i64 32]) = .ok (.agg #[.int .i64 (j : Int), .int .i64 32]) (w7.setRow w.heap.size #[.int .i64 (j : Int), .int .i64 32]) := run_loadVar_row _ _ _ _ _ _ _ (setRow_heap _ _ _ _ _ _ i6) Tryd.underlying25 rfl (by kernel_rfl)
                  have HF : Hid (Below w.heap.size w (w7.setRow w.heap.size #[.int .i64 (j : Int), .int .i64 32])) := below_setRow HB.out (Nat.le_refl _) _
                  go_wp2_with (refine wpList_store_row rfl _ _ _ rfl _ _ rfl rfl _ _ i6 (by kernel_rfl) rfl (by simp [Value.oneCell']) ?_)
                  (try simp only [Exit.inBlock, Exit.then])
                  (try go_wp2)
                  refine bodyPost_ret (by simp [results, Tryd.results9, asAddr, Act.put, HLD]; try rfl) rfl ?_
                  first | exact ⟨(j : Int), 32, true, rfl, HF.out, HA.out⟩ | exact ⟨(j : Int), 32, .inr ⟨rfl, HF.out, HA.out⟩⟩
                · have hne : (T.toList == s.toList) = false := neq_str hTs
                  have HN : Hid ((∀ i : Nat, 1 ≤ i → i < j + 1 → ktx i 32 ≠ s) ∧ Below W1.heap.size W1 w7) := ⟨fun i h1 h2 => by
                    by_cases e : i = j
                    · subst e; rw [← HTT.out]; exact hTs
                    · exact HJ.out.1 i h1 (by omega), b7⟩
                  clear b7 hb7 hTs
                  go_wp2
                  go_roundw
                  case rel => exact ⟨j + 1, by omega, by omega, by go_num, HN.out⟩
                  case measure => simp [intOf]; omega
              · have hk3 : ¬ (j : Int) ≤ 3 := by omega
                have HA : Hid (TkA s 0 0 false) := .inr ⟨rfl, rfl, rfl, fun k' r' h1 h2 => by
                  obtain ⟨h3, h4, h5⟩ := HR.out k' r' h1 h2
                  subst h5
                  have e : ((k'.toNat : Nat) : Int) = k' := by omega
                  have := HJ.out.1 k'.toNat (by omega) (by omega)
                  rw [e] at this
                  exact this h2⟩
                have i6 := HI.out _ HJ.out.2
                have HB : Hid (Below w.heap.size w wr) := HB1.out.trans (HJ.out.2.mono HB1.out.size)
                have HLD : (loadVar 25 ⟨w.heap.size, 0, none⟩).run Tryd.prog (wr.setRow w.heap.size #[.int .i64 0, .int .i64 0]) = .ok (.agg #[.int .i64 0, .int .i64 0]) (wr.setRow w.heap.size #[.int .i64 0, .int .i64 0]) := run_loadVar_row _ _ _ _ _ _ _ (setRow_heap _ _ _ _ _ _ i6) Tryd.underlying25 rfl (by kernel_rfl)
                have HF : Hid (Below w.heap.size w (wr.setRow w.heap.size #[.int .i64 0, .int .i64 0])) := below_setRow HB.out (Nat.le_refl _) _
                go_wp2_with (refine wpList_store_row rfl _ _ _ rfl _ _ rfl rfl _ _ i6 (by kernel_rfl) rfl (by simp [Value.oneCell']) ?_)
                (try simp only [Exit.inBlock, Exit.then])
                (try go_wp2)
                refine bodyPost_ret (by simp [results, Tryd.results9, asAddr, Act.put, HLD]; try rfl) rfl ?_
                first | exact ⟨0, 0, false, rfl, HF.out, HA.out⟩ | exact ⟨0, 0, .inl ⟨rfl, HF.out, HA.out⟩⟩
          · have hsp : (s.toList == [83, 80, 67]) = false := (show (s.toList == [83, 80, 67]) = (s.toList == (ByteArray.mk #[83, 80, 67]).toList) from congrArg (s.toList == ·) (by decide +kernel)).trans (neq_str hspc)
            rw [if_neg hspc] at hR
            subst hR
            clear hspc
            go_wp2
            go_loopw [8] (fun kv wr => ∃ j : Nat, 1 ≤ j ∧ j ≤ 4 ∧ kv = .int .i64 (j : Int) ∧ Hid ((∀ i : Nat, 1 ≤ i → i < j → ktx i R ≠ s) ∧ Below W1.heap.size W1 wr)) (fun kv _ => 5 - (intOf kv).toNat)
            case atStart => exact ⟨1, by omega, by omega, rfl, fun i h1 h2 => by omega, HB6.out⟩
            case round =>
              obtain ⟨j, hj1, hj4, rfl, HJ⟩ := hrel
              by_cases hlt : j ≤ 3
              · have hk3 : (j : Int) ≤ 3 := by omega
                obtain ⟨T, hT⟩ : ∃ T, T = ktx j R := ⟨_, rfl⟩
                have HTT : Hid (T = ktx j R) := hT
                have QJ : Hid (∀ w', Calls Tryd.prog 6 #[.agg #[.int .i64 (j : Int), .int .i64 R]] w' fun e w'' => e = .returned (.string T) ∧ Below w'.heap.size w' w'') := fun w' => by rw [hT]; exact QT.out j R w'
                clear hT
                go_wp2_with fail
                refine (QJ.out _).mono ?_
                rintro e w7 ⟨rfl, hb7⟩
                have b7 : Below W1.heap.size W1 w7 := HJ.out.2.trans (hb7.mono HJ.out.2.size)
                by_cases hTs : T = s
                · have HA : Hid (TkA s (j : Int) R true) := .inl ⟨rfl, ktx_pos (by rw [← HTT.out, hTs]; exact HNE.out), by rw [← HTT.out, hTs]⟩
                  have hne : (T.toList == s.toList) = true := by rw [hTs]; simp
                  have i6 := HI.out _ b7
                  have HB : Hid (Below w.heap.size w w7) := HB1.out.trans (b7.mono HB1.out.size)
                  clear b7 hb7 hTs
                  have HLD : (loadVar 25 ⟨w.heap.size, 0, none⟩).run Tryd.prog (w7.setRow w.heap.size #[.int .i64 (j : Int), .int .i64 R]) = .ok (.agg #[.int .i64 (j : Int), .int .i64 R]) (w7.setRow w.heap.size #[.int .i64 (j : Int), .int .i64 R]) := run_loadVar_row _ _ _ _ _ _ _ (setRow_heap _ _ _ _ _ _ i6) Tryd.underlying25 rfl (by kernel_rfl)
                  have HF : Hid (Below w.heap.size w (w7.setRow w.heap.size #[.int .i64 (j : Int), .int .i64 R])) := below_setRow HB.out (Nat.le_refl _) _
                  go_wp2_with (refine wpList_store_row rfl _ _ _ rfl _ _ rfl rfl _ _ i6 (by kernel_rfl) rfl (by simp [Value.oneCell']) ?_)
                  (try simp only [Exit.inBlock, Exit.then])
                  (try go_wp2)
                  refine bodyPost_ret (by simp [results, Tryd.results9, asAddr, Act.put, HLD]; try rfl) rfl ?_
                  first | exact ⟨(j : Int), R, true, rfl, HF.out, HA.out⟩ | exact ⟨(j : Int), R, .inr ⟨rfl, HF.out, HA.out⟩⟩
                · have hne : (T.toList == s.toList) = false := neq_str hTs
                  have HN : Hid ((∀ i : Nat, 1 ≤ i → i < j + 1 → ktx i R ≠ s) ∧ Below W1.heap.size W1 w7) := ⟨fun i h1 h2 => by
                    by_cases e : i = j
                    · subst e; rw [← HTT.out]; exact hTs
                    · exact HJ.out.1 i h1 (by omega), b7⟩
                  clear b7 hb7 hTs
                  go_wp2
                  go_roundw
                  case rel => exact ⟨j + 1, by omega, by omega, by go_num, HN.out⟩
                  case measure => simp [intOf]; omega
              · have hk3 : ¬ (j : Int) ≤ 3 := by omega
                have HA : Hid (TkA s 0 0 false) := .inr ⟨rfl, rfl, rfl, fun k' r' h1 h2 => by
                  obtain ⟨h3, h4, h5⟩ := HR.out k' r' h1 h2
                  subst h5
                  have e : ((k'.toNat : Nat) : Int) = k' := by omega
                  have := HJ.out.1 k'.toNat (by omega) (by omega)
                  rw [e] at this
                  exact this h2⟩
                have i6 := HI.out _ HJ.out.2
                have HB : Hid (Below w.heap.size w wr) := HB1.out.trans (HJ.out.2.mono HB1.out.size)
                have HLD : (loadVar 25 ⟨w.heap.size, 0, none⟩).run Tryd.prog (wr.setRow w.heap.size #[.int .i64 0, .int .i64 0]) = .ok (.agg #[.int .i64 0, .int .i64 0]) (wr.setRow w.heap.size #[.int .i64 0, .int .i64 0]) := run_loadVar_row _ _ _ _ _ _ _ (setRow_heap _ _ _ _ _ _ i6) Tryd.underlying25 rfl (by kernel_rfl)
                have HF : Hid (Below w.heap.size w (wr.setRow w.heap.size #[.int .i64 0, .int .i64 0])) := below_setRow HB.out (Nat.le_refl _) _
                go_wp2_with (refine wpList_store_row rfl _ _ _ rfl _ _ rfl rfl _ _ i6 (by kernel_rfl) rfl (by simp [Value.oneCell']) ?_)
                (try simp only [Exit.inBlock, Exit.then])
                (try go_wp2)
                refine bodyPost_ret (by simp [results, Tryd.results9, asAddr, Act.put, HLD]; try rfl) rfl ?_
                first | exact ⟨0, 0, false, rfl, HF.out, HA.out⟩ | exact ⟨0, 0, .inl ⟨rfl, HF.out, HA.out⟩⟩

end Go.Proofs.YtndlehogfedfaaaDoor
