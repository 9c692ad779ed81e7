/-
  keyOfSign of the program: kosF. By program (tkigen.py).
-/
import Derived.Test.YtndlehogfedfaaaDoorTkK
import Derived.Laws.Rows
import Derived.Laws.Tables
import Derived.Laws.CopyOwn
namespace Go.Proofs.YtndlehogfedfaaaDoor
open Go.RowKit
set_option linter.unusedVariables false
set_option linter.unusedSimpArgs false
set_option maxRecDepth 100000

set_option maxHeartbeats 8000000 in
theorem implKos_any (s : ByteArray) (w : World) (hs : s.size ≤ maxLen) (hT : Tabs w) :
    Calls Tryd.prog 24 #[.string s] w fun e w' => e = .returned (.agg #[.int .i64 (kosF s).1, .int .i64 (kosF s).2]) ∧ Below w.heap.size w w' := by
  obtain ⟨W1, hW1⟩ : ∃ U, U = w.alloc (.cells #[.int .i64 0, .int .i64 0] 25) := ⟨_, rfl⟩
  have b1 : Below w.heap.size w W1 := by rw [hW1]; exact (Below.refl _ _).alloc (Nat.le_refl _) _
  have i1 : W1.heap[w.heap.size]? = some (.cells #[.int .i64 0, .int .i64 0] 25 (0, 0)) := by rw [hW1]; exact heap_alloc_new w _
  have z1 : W1.heap.size = w.heap.size + 1 := by rw [hW1]; simp
  have hT1 : Tabs W1 := hT.later b1
  have HW : Hid (W1 = _) := hW1
  have HI : Hid (W1.heap[w.heap.size]? = some (.cells #[.int .i64 0, .int .i64 0] 25 (0, 0))) := i1
  have HB1 : Hid (Below w.heap.size w W1) := b1
  clear hW1 i1 b1
  have q67 := cutPre_any ⟨#[67, 45]⟩ s rfl
  have q77 := cutPre_any ⟨#[77, 45]⟩ s rfl
  cases h67 : preB ⟨#[67, 45]⟩ s
  case true =>
    have hgoal : kosF s = gF 2 (s.extract 2 s.size) := by unfold kosF; rw [if_pos h67]
    rw [h67, if_pos rfl] at q67
    have Q67 : Hid (∀ w', Calls Tryd.prog 32 #[.string s, .string ⟨#[67, 45]⟩] w' fun e w'' => e = .returned (.tuple #[.string (s.extract 2 s.size), .bool true]) ∧ w'' = w') := q67
    clear q67 q77 h67
    have QR : Hid (∀ w', Tabs w' → Calls Tryd.prog 33 #[.string (s.extract 2 s.size)] w' fun e w'' => Below w'.heap.size w' w'' ∧ ∃ a n c b, e = .returned (.tuple #[.slice a n c, .bool b]) ∧
      ((n = 1 ∧ (∀ k, gF k (s.extract 2 s.size) = (k, (runes (s.extract 2 s.size))[0]?.getD 0)) ∧ ∃ g, a = some ⟨g, 0, none⟩ ∧ g < w''.heap.size ∧ c ≤ maxLen ∧ 1 ≤ c ∧ w''.cell? ⟨g, 0, none⟩ = some (.int .i64 ((runes (s.extract 2 s.size))[0]?.getD 0))) ∨ (n ≠ 1 ∧ n ≤ 1000000 ∧ ∀ k, gF k (s.extract 2 s.size) = (0, 0)))) := fun w' hT' => rofOne_any (s.extract 2 s.size) w' (by rw [ByteArray.size_extract]; omega) hT'
    obtain ⟨T, hTT⟩ : ∃ T, T = (s.extract 2 s.size) := ⟨_, rfl⟩
    rw [← hTT] at QR hgoal Q67
    have HT9 : Hid (Tabs W1) := hT1
    clear hTT hT1 hT hs
    go_enter Tryd.func24, Tryd.ntmps24
    go_wp2_with fail
    refine (Q67.out _).mono ?_
    rintro e w9 ⟨rfl, rfl⟩
    go_wp2_with fail
    rw [← HW.out]
    refine (QR.out _ HT9.out).mono ?_
    rintro e w6 ⟨hb6, a, n, c, b, rfl, hcase⟩
    have i6 := (hb6.block _ (by omega)).trans HI.out
    have HB : Hid (Below w.heap.size w w6) := HB1.out.trans (hb6.mono HB1.out.size)
    rcases hcase with ⟨rfl, hg, g, rfl, hglt, hcm, hc1, hcell⟩ | ⟨hn, hn2, hg⟩
    · obtain ⟨r, hr⟩ : ∃ r, r = (runes T)[0]?.getD 0 := ⟨_, rfl⟩
      rw [← hr] at hcell
      have HE : Hid (kosF s = (2, r)) := by show _ = _; rw [hgoal, hg 2, hr]
      clear hg hr hb6 hgoal
      have HLD : (loadVar 25 ⟨w.heap.size, 0, none⟩).run Tryd.prog (w6.setRow (w.heap.size) #[.int .i64 2, .int .i64 r]) = .ok (.agg #[.int .i64 2, .int .i64 r]) (w6.setRow (w.heap.size) #[.int .i64 2, .int .i64 r]) := run_loadVar_row _ _ _ _ _ _ _ (setRow_heap _ _ _ _ _ _ i6) Tryd.underlying25 rfl (by kernel_rfl)
      have HF : Hid (Below w.heap.size w (w6.setRow w.heap.size #[.int .i64 2, .int .i64 r])) := below_setRow HB.out (Nat.le_refl _) _
      go_wp2_with (refine wpList_store_row rfl _ _ _ rfl _ _ rfl rfl _ _ i6 (by kernel_rfl) rfl (by simp [Value.oneCell']) ?_)
      (try simp only [Exit.inBlock, Exit.then])
      refine bodyPost_ret (by simp [results, Tryd.results24, asAddr, Act.put, HLD]; try rfl) rfl ?_
      exact ⟨by rw [HE.out], HF.out⟩
    · have HE : Hid (kosF s = (0, 0)) := by show _ = _; rw [hgoal, hg 2]
      have hn' : ((n : Int) != 1) = true := by simp; omega
      clear hg hb6 hgoal hn
      have HLD : (loadVar 25 ⟨w.heap.size, 0, none⟩).run Tryd.prog (w6.setRow (w.heap.size) #[.int .i64 0, .int .i64 0]) = .ok (.agg #[.int .i64 0, .int .i64 0]) (w6.setRow (w.heap.size) #[.int .i64 0, .int .i64 0]) := run_loadVar_row _ _ _ _ _ _ _ (setRow_heap _ _ _ _ _ _ i6) Tryd.underlying25 rfl (by kernel_rfl)
      have HF : Hid (Below w.heap.size w (w6.setRow w.heap.size #[.int .i64 0, .int .i64 0])) := below_setRow HB.out (Nat.le_refl _) _
      go_wp2_with (refine wpList_store_row rfl _ _ _ rfl _ _ rfl rfl _ _ i6 (by kernel_rfl) rfl (by simp [Value.oneCell']) ?_)
      (try simp only [Exit.inBlock, Exit.then])
      refine bodyPost_ret (by simp [results, Tryd.results24, asAddr, Act.put, HLD]; try rfl) rfl ?_
      exact ⟨by rw [HE.out], HF.out⟩
  case false =>
  rw [h67, if_neg (by decide)] at q67
  cases h77 : preB ⟨#[77, 45]⟩ s
  case true =>
    have hgoal : kosF s = gF 3 (s.extract 2 s.size) := by unfold kosF; rw [h67, h77]; rfl
    rw [h77, if_pos rfl] at q77
    have Q67 : Hid (∀ w', Calls Tryd.prog 32 #[.string s, .string ⟨#[67, 45]⟩] w' fun e w'' => e = .returned (.tuple #[.string s, .bool false]) ∧ w'' = w') := q67
    have Q77 : Hid (∀ w', Calls Tryd.prog 32 #[.string s, .string ⟨#[77, 45]⟩] w' fun e w'' => e = .returned (.tuple #[.string (s.extract 2 s.size), .bool true]) ∧ w'' = w') := q77
    clear q67 q77 h67 h77
    have QR : Hid (∀ w', Tabs w' → Calls Tryd.prog 33 #[.string (s.extract 2 s.size)] w' fun e w'' => Below w'.heap.size w' w'' ∧ ∃ a n c b, e = .returned (.tuple #[.slice a n c, .bool b]) ∧
      ((n = 1 ∧ (∀ k, gF k (s.extract 2 s.size) = (k, (runes (s.extract 2 s.size))[0]?.getD 0)) ∧ ∃ g, a = some ⟨g, 0, none⟩ ∧ g < w''.heap.size ∧ c ≤ maxLen ∧ 1 ≤ c ∧ w''.cell? ⟨g, 0, none⟩ = some (.int .i64 ((runes (s.extract 2 s.size))[0]?.getD 0))) ∨ (n ≠ 1 ∧ n ≤ 1000000 ∧ ∀ k, gF k (s.extract 2 s.size) = (0, 0)))) := fun w' hT' => rofOne_any (s.extract 2 s.size) w' (by rw [ByteArray.size_extract]; omega) hT'
    obtain ⟨T, hTT⟩ : ∃ T, T = (s.extract 2 s.size) := ⟨_, rfl⟩
    rw [← hTT] at QR hgoal Q77
    have HT9 : Hid (Tabs W1) := hT1
    clear hTT hT1 hT hs
    go_enter Tryd.func24, Tryd.ntmps24
    go_wp2_with fail
    refine (Q67.out _).mono ?_
    rintro e w9 ⟨rfl, rfl⟩
    go_wp2_with fail
    refine (Q77.out _).mono ?_
    rintro e w9 ⟨rfl, rfl⟩
    go_wp2_with fail
    rw [← HW.out]
    refine (QR.out _ HT9.out).mono ?_
    rintro e w6 ⟨hb6, a, n, c, b, rfl, hcase⟩
    have i6 := (hb6.block _ (by omega)).trans HI.out
    have HB : Hid (Below w.heap.size w w6) := HB1.out.trans (hb6.mono HB1.out.size)
    rcases hcase with ⟨rfl, hg, g, rfl, hglt, hcm, hc1, hcell⟩ | ⟨hn, hn2, hg⟩
    · obtain ⟨r, hr⟩ : ∃ r, r = (runes T)[0]?.getD 0 := ⟨_, rfl⟩
      rw [← hr] at hcell
      have HE : Hid (kosF s = (3, r)) := by show _ = _; rw [hgoal, hg 3, hr]
      clear hg hr hb6 hgoal
      have HLD : (loadVar 25 ⟨w.heap.size, 0, none⟩).run Tryd.prog (w6.setRow (w.heap.size) #[.int .i64 3, .int .i64 r]) = .ok (.agg #[.int .i64 3, .int .i64 r]) (w6.setRow (w.heap.size) #[.int .i64 3, .int .i64 r]) := run_loadVar_row _ _ _ _ _ _ _ (setRow_heap _ _ _ _ _ _ i6) Tryd.underlying25 rfl (by kernel_rfl)
      have HF : Hid (Below w.heap.size w (w6.setRow w.heap.size #[.int .i64 3, .int .i64 r])) := below_setRow HB.out (Nat.le_refl _) _
      go_wp2_with (refine wpList_store_row rfl _ _ _ rfl _ _ rfl rfl _ _ i6 (by kernel_rfl) rfl (by simp [Value.oneCell']) ?_)
      (try simp only [Exit.inBlock, Exit.then])
      refine bodyPost_ret (by simp [results, Tryd.results24, asAddr, Act.put, HLD]; try rfl) rfl ?_
      exact ⟨by rw [HE.out], HF.out⟩
    · have HE : Hid (kosF s = (0, 0)) := by show _ = _; rw [hgoal, hg 3]
      have hn' : ((n : Int) != 1) = true := by simp; omega
      clear hg hb6 hgoal hn
      have HLD : (loadVar 25 ⟨w.heap.size, 0, none⟩).run Tryd.prog (w6.setRow (w.heap.size) #[.int .i64 0, .int .i64 0]) = .ok (.agg #[.int .i64 0, .int .i64 0]) (w6.setRow (w.heap.size) #[.int .i64 0, .int .i64 0]) := run_loadVar_row _ _ _ _ _ _ _ (setRow_heap _ _ _ _ _ _ i6) Tryd.underlying25 rfl (by kernel_rfl)
      have HF : Hid (Below w.heap.size w (w6.setRow w.heap.size #[.int .i64 0, .int .i64 0])) := below_setRow HB.out (Nat.le_refl _) _
      go_wp2_with (refine wpList_store_row rfl _ _ _ rfl _ _ rfl rfl _ _ i6 (by kernel_rfl) rfl (by simp [Value.oneCell']) ?_)
      (try simp only [Exit.inBlock, Exit.then])
      refine bodyPost_ret (by simp [results, Tryd.results24, asAddr, Act.put, HLD]; try rfl) rfl ?_
      exact ⟨by rw [HE.out], HF.out⟩
  case false =>
    have hgoal : kosF s = gF 1 s := by unfold kosF; rw [h67, h77]; rfl
    rw [h77, if_neg (by decide)] at q77
    have Q67 : Hid (∀ w', Calls Tryd.prog 32 #[.string s, .string ⟨#[67, 45]⟩] w' fun e w'' => e = .returned (.tuple #[.string s, .bool false]) ∧ w'' = w') := q67
    have Q77 : Hid (∀ w', Calls Tryd.prog 32 #[.string s, .string ⟨#[77, 45]⟩] w' fun e w'' => e = .returned (.tuple #[.string s, .bool false]) ∧ w'' = w') := q77
    clear q67 q77 h67 h77
    have QR : Hid (∀ w', Tabs w' → Calls Tryd.prog 33 #[.string s] w' fun e w'' => Below w'.heap.size w' w'' ∧ ∃ a n c b, e = .returned (.tuple #[.slice a n c, .bool b]) ∧
      ((n = 1 ∧ (∀ k, gF k s = (k, (runes s)[0]?.getD 0)) ∧ ∃ g, a = some ⟨g, 0, none⟩ ∧ g < w''.heap.size ∧ c ≤ maxLen ∧ 1 ≤ c ∧ w''.cell? ⟨g, 0, none⟩ = some (.int .i64 ((runes s)[0]?.getD 0))) ∨ (n ≠ 1 ∧ n ≤ 1000000 ∧ ∀ k, gF k s = (0, 0)))) := fun w' hT' => rofOne_any s w' hs hT'
    have HT9 : Hid (Tabs W1) := hT1
    clear hT1 hT hs
    go_enter Tryd.func24, Tryd.ntmps24
    go_wp2_with fail
    refine (Q67.out _).mono ?_
    rintro e w9 ⟨rfl, rfl⟩
    go_wp2_with fail
    refine (Q77.out _).mono ?_
    rintro e w9 ⟨rfl, rfl⟩
    go_wp2_with fail
    rw [← HW.out]
    refine (QR.out _ HT9.out).mono ?_
    rintro e w6 ⟨hb6, a, n, c, b, rfl, hcase⟩
    have i6 := (hb6.block _ (by omega)).trans HI.out
    have HB : Hid (Below w.heap.size w w6) := HB1.out.trans (hb6.mono HB1.out.size)
    rcases hcase with ⟨rfl, hg, g, rfl, hglt, hcm, hc1, hcell⟩ | ⟨hn, hn2, hg⟩
    · obtain ⟨r, hr⟩ : ∃ r, r = (runes s)[0]?.getD 0 := ⟨_, rfl⟩
      rw [← hr] at hcell
      have HE : Hid (kosF s = (1, r)) := by show _ = _; rw [hgoal, hg 1, hr]
      clear hg hr hb6 hgoal
      have HLD : (loadVar 25 ⟨w.heap.size, 0, none⟩).run Tryd.prog (w6.setRow (w.heap.size) #[.int .i64 1, .int .i64 r]) = .ok (.agg #[.int .i64 1, .int .i64 r]) (w6.setRow (w.heap.size) #[.int .i64 1, .int .i64 r]) := run_loadVar_row _ _ _ _ _ _ _ (setRow_heap _ _ _ _ _ _ i6) Tryd.underlying25 rfl (by kernel_rfl)
      have HF : Hid (Below w.heap.size w (w6.setRow w.heap.size #[.int .i64 1, .int .i64 r])) := below_setRow HB.out (Nat.le_refl _) _
      go_wp2_with (refine wpList_store_row rfl _ _ _ rfl _ _ rfl rfl _ _ i6 (by kernel_rfl) rfl (by simp [Value.oneCell']) ?_)
      (try simp only [Exit.inBlock, Exit.then])
      refine bodyPost_ret (by simp [results, Tryd.results24, asAddr, Act.put, HLD]; try rfl) rfl ?_
      exact ⟨by rw [HE.out], HF.out⟩
    · have HE : Hid (kosF s = (0, 0)) := by show _ = _; rw [hgoal, hg 1]
      have hn' : ((n : Int) != 1) = true := by simp; omega
      clear hg hb6 hgoal hn
      have HLD : (loadVar 25 ⟨w.heap.size, 0, none⟩).run Tryd.prog (w6.setRow (w.heap.size) #[.int .i64 0, .int .i64 0]) = .ok (.agg #[.int .i64 0, .int .i64 0]) (w6.setRow (w.heap.size) #[.int .i64 0, .int .i64 0]) := run_loadVar_row _ _ _ _ _ _ _ (setRow_heap _ _ _ _ _ _ i6) Tryd.underlying25 rfl (by kernel_rfl)
      have HF : Hid (Below w.heap.size w (w6.setRow w.heap.size #[.int .i64 0, .int .i64 0])) := below_setRow HB.out (Nat.le_refl _) _
      go_wp2_with (refine wpList_store_row rfl _ _ _ rfl _ _ rfl rfl _ _ i6 (by kernel_rfl) rfl (by simp [Value.oneCell']) ?_)
      (try simp only [Exit.inBlock, Exit.then])
      refine bodyPost_ret (by simp [results, Tryd.results24, asAddr, Act.put, HLD]; try rfl) rfl ?_
      exact ⟨by rw [HE.out], HF.out⟩

end Go.Proofs.YtndlehogfedfaaaDoor
