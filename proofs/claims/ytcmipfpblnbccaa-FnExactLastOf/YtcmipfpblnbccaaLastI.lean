/-
  LastOf of the program. By program (lastgen.py).
-/
import Derived.Test.YtcmipfpblnbccaaCpE
import Derived.Test.YtcmipfpblnbccaaLastS
import Derived.Test.YtcmipfpblnbccaaPlain
namespace Go.Proofs.Ytcmipfpblnbccaa
open Go.RowKit
set_option linter.unusedVariables false

set_option maxRecDepth 100000 in
set_option maxHeartbeats 2000000 in
theorem implLast_nil (N : Int) (w : World) :
    Calls Try.prog 26 #[.slice none 0 0, .int .i64 N] w fun e w' => ∃ v, e = .returned v ∧ w'.ownsRow w.heap.size 26 2 v 0 [] ∧ Below w.heap.size w w' := by
  have qK : Hid (∀ ad c', c' ≤ maxLen → Calls Try.prog 37 #[.slice ad 0 c'] w fun e w' => ∃ v, e = .returned v ∧ w'.ownsRow w.heap.size 26 2 v 0 [] ∧ Below w.heap.size w w') := fun ad c' h => copyEnts_any ad 0 c' [] w (reads_none w ad c' h) (by omega) (fun x hx => by cases hx)
  by_cases h0 : N < 0
  · go_enter Try.func26, Try.ntmps26
    go_wp2_with fail
    all_goals (refine (qK.out _ _ (Nat.zero_le _)).mono ?_; rintro e w1 ⟨v1, rfl, o1, b1⟩; go_wp2; go_ret; exact ⟨_, rfl, o1, b1⟩)
  · by_cases h1 : N = 0
    · subst h1
      go_enter Try.func26, Try.ntmps26
      go_wp2_with fail
      all_goals (refine (qK.out _ _ (Nat.zero_le _)).mono ?_; rintro e w1 ⟨v1, rfl, o1, b1⟩; go_wp2; go_ret; exact ⟨_, rfl, o1, b1⟩)
    · have h2 : 0 < N := by omega
      go_enter Try.func26, Try.ntmps26
      go_wp2_with fail
      all_goals (refine (qK.out _ _ (Nat.zero_le _)).mono ?_; rintro e w1 ⟨v1, rfl, o1, b1⟩; go_wp2; go_ret; exact ⟨_, rfl, o1, b1⟩)

set_option maxRecDepth 100000 in
set_option maxHeartbeats 2000000 in
theorem implLast_some (b off n c K m : Nat) (N : Int) (d : List EntD) (w : World) (hr : Reads (.sl shEntry) w [.slice (some ⟨b, off, none⟩) n c] d) (hn : n ≤ 1048576) (hs : ∀ x ∈ d, ByteArray.size x.2.1 ≤ 1048576)
    (hm : m = lastN n N) (hK : K + m = n) :
    Calls Try.prog 26 #[.slice (some ⟨b, off, none⟩) n c, .int .i64 N] w fun e w' => ∃ v, e = .returned v ∧ w'.ownsRow w.heap.size 26 2 v m (cellsE (d.drop K)) ∧ Below w.heap.size w w' := by
  obtain ⟨hl, hc1, hc2⟩ := reads_len hr
  have hcm := hc2
  unfold maxLen at hc2
  have hl' : List.length (α := EntD) d = n := hl
  obtain ⟨L, hL⟩ : ∃ L, L = d.drop K := ⟨_, rfl⟩
  have hLl : L.length = m := by rw [hL, List.length_drop, hl']; omega
  have qK : Hid (∀ ad c', Reads (.sl shEntry) w [.slice ad m c'] L → Calls Try.prog 37 #[.slice ad m c'] w fun e w' => ∃ v, e = .returned v ∧ w'.ownsRow w.heap.size 26 2 v m (cellsE L) ∧ Below w.heap.size w w') := fun ad c' h => copyEnts_any ad m c' L w h (by omega) (fun x hx => hs x (List.mem_of_mem_drop (hL ▸ hx)))
  rw [← hL]
  have R1 : Hid (Reads (.sl shEntry) w [.slice (some ⟨b, off + K * 2, none⟩) m (c - K)] L) := by
    have := reads_drop hr K (by omega)
    rw [hL]
    rw [show n - K = m by omega] at this
    exact this
  have R0 : Hid (m = 0 → ∀ ad' c', c' ≤ maxLen → Reads (.sl shEntry) w [.slice ad' m c'] L) := fun h ad' c' hc' => by
    rw [show L = [] from List.eq_nil_of_length_eq_zero (hLl.trans h), h]; exact reads_none w _ _ hc'
  clear hr hl hl' hL hLl hs
  have hMM : min (max N 0) (n : Int) = (m : Int) := by
    rw [hm]; unfold lastN
    split
    · omega
    · split <;> omega
  have hmK : (n : Int) - (m : Int) = (K : Int) := by omega
  have hnm : n - K = m := by omega
  clear hm
  by_cases hcK : c = K
  · have R2 : Hid (Reads (.sl shEntry) w [.slice (some ⟨b, off, none⟩) m 0] L) := R0.out (by omega) _ _ (Nat.zero_le _)
    clear R0 R1
    go_enter Try.func26, Try.ntmps26
    go_wp2_with fail
    refine (qK.out _ _ R2.out).mono ?_
    rintro e w1 ⟨v1, rfl, o1, b1⟩
    go_wp2
    go_ret
    exact ⟨_, rfl, o1, b1⟩
  · clear R0
    go_enter Try.func26, Try.ntmps26
    go_wp2_with fail
    refine (qK.out _ _ R1.out).mono ?_
    rintro e w1 ⟨v1, rfl, o1, b1⟩
    go_wp2
    go_ret
    exact ⟨_, rfl, o1, b1⟩

end Go.Proofs.Ytcmipfpblnbccaa
