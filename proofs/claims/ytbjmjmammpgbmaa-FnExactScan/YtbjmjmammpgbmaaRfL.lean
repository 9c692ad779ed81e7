/-
  FrameRead of the model. By program (rfgen.py).
-/
import Derived.Test.YtbjmjmammpgbmaaRfC
import Derived.Test.YtbjmjmammpgbmaaPlain
import Derived.Test.YtbjmjmammpgbmaaFrS
import Derived.Test.YtbjmjmammpgbmaaConv
import Derived.Deep.RegionHeld3
import Derived.Handy
namespace Go.Proofs.Ytbjmjmammpgbmaa
open Go.RowKit
set_option linter.unusedVariables false
set_option linter.unusedSimpArgs false

set_option maxRecDepth 100000 in
set_option maxHeartbeats 8000000 in
theorem specRf_last (b off n c : Nat) (zs : List Int) (P s : Nat) (num : Int) (w : World) (hl : zs.length = n) (hb : b < w.heap.size) (hc : ∀ i, i < n → w.cell? ⟨b, off + i, none⟩ = some (.int .u8 (zs[i]?.getD 0))) (hz : Byt zs)
    (hcn : n ≤ c) (hcm : c ≤ maxLen) (hn : n ≤ 1048576) (hP : P + 10 ≤ n) (hs : gnum zs P 2 = (s : Int)) (hnum : gnum zs (P + 2) 4 = num) (h3 : ¬ s = 0) (h3' : ¬ 1000 < s) (h4 : ¬ (n : Int) - (P : Int) - 10 < (s : Int)) (h5 : ¬ num = 0) (h5' : ¬ 1000000000 < num)
    (R : Int × ByteArray × Int × Int) (hR' : (if gnum zs (P + 6) 4 = crcI (cutL zs P 6 ++ cutL zs (P + 10) ((s : Int)).toNat) then (num, strOfNums (cutL zs (P + 10) ((s : Int)).toNat), (P : Int) + 10 + (s : Int), (0 : Int)) else (0, ByteArray.empty, 0, 6)) = R) :
    Calls Try.prog 16 #[.slice (some ⟨b, off, none⟩) n c, .int .i64 (P : Int)] w fun e w' => e = .returned (.tuple #[.agg #[.int .i64 R.1, .string R.2.1], .int .i64 R.2.2.1, .int .i64 R.2.2.2]) ∧ Below w.heap.size w w' := by
  unfold maxLen at hcm
  have HC : Hid (∀ w', Below w.heap.size w w' → ∀ i, i < n → w'.cell? ⟨b, off + i, none⟩ = some (.int .u8 (zs[i]?.getD 0))) := fun w' hb' i hi => (hb'.cell (p := ⟨b, off + i, none⟩) hb).trans (hc i hi)
  have HRd : Hid (∀ w', Below w.heap.size w w' → Rd w' (some ⟨b, off, none⟩) zs) := fun w' hb' => ⟨hz, .inr ⟨b, off, rfl, Nat.lt_of_lt_of_le hb hb'.size, fun i hi => HC.out w' hb' i (by rw [hl] at hi; exact hi)⟩⟩
  have q1 : Hid (∀ w', Below w.heap.size w w' → Calls Try.prog 35 #[.slice (some ⟨b, off, none⟩) n c, .int .i64 (P : Int), .int .i64 2] w' fun e w'' => e = .returned (.tuple #[.int .i64 (s : Int), .bool true]) ∧ w'' = w') := fun w' hb' => by rw [← hs]; exact specGet_yes _ n c zs P 2 w' hl (HRd.out w' hb') (by omega) (by omega) (by omega) (by omega)
  have q2 : Hid (∀ w', Below w.heap.size w w' → Calls Try.prog 35 #[.slice (some ⟨b, off, none⟩) n c, .int .i64 ((P : Int) + 2), .int .i64 4] w' fun e w'' => e = .returned (.tuple #[.int .i64 num, .bool true]) ∧ w'' = w') := fun w' hb' => by rw [← hnum]; exact specGet_yes _ n c zs (P + 2) 4 w' hl (HRd.out w' hb') (by omega) (by omega) (by omega) (by omega)
  have hnb := gnum4_bd zs hz (P + 2)
  rw [hnum] at hnb
  have bW0 : Below w.heap.size w (w.alloc (.cells #[.int .i64 0, .string ⟨#[]⟩] 33)) := (Below.refl _ _).alloc (Nat.le_refl _) _
  have t1 : ¬ ((P : Int) < 0) := by omega
  have t2 : ¬ ((n : Int) < (P : Int)) := by omega
  have t3 : ¬ ((n : Int) - (P : Int) < 10) := by omega
  have s0 : ¬ ((s : Int) = 0) := by omega
  have s1 : ¬ ((1000 : Int) < (s : Int)) := by omega
  have s2 : ((s : Int) == 0) = false := by simp; omega
  have s3 : decide ((1000 : Int) < (s : Int)) = false := by simp; omega
  have s4 : (s == 0) = false := by simp; omega
  have s5 : decide (1000 < s) = false := by simp; omega
  have n2 : (num == 0) = false := by simp; omega
  have n3 : decide ((1000000000 : Int) < num) = false := by simp; omega
  obtain ⟨A, hA⟩ : ∃ A : Nat, A = P + 10 := ⟨_, rfl⟩
  obtain ⟨Z, hZ⟩ : ∃ Z : Nat, Z = A + s := ⟨_, rfl⟩
  have a1 : (P : Int) + 10 = (A : Int) := by omega
  have a2 : (A : Int) + (s : Int) = (Z : Int) := by omega
  have aw1 : IntKind.i64.wrap (A : Int) = (A : Int) := wrap_i64_in _ (by omega) (by omega)
  have aw2 : IntKind.i64.wrap (Z : Int) = (Z : Int) := wrap_i64_in _ (by omega) (by omega)
  have a3 : Z ≤ n := by omega
  have a4 : Z - A = s := by omega
  have a5 : Z - P = 10 + s := by omega
  have a6 : ¬ (c = A) := by omega
  have a7 : ¬ (c = P) := by omega
  obtain ⟨tx, htx⟩ : ∃ tx, tx = strOfNums (cutL zs A s) := ⟨_, rfl⟩
  have htl : tx.size = s := by rw [htx, strOfNums_size, cutL_len _ _ _ (by omega)]
  have htB : sB tx = cutL zs A s := by rw [htx]; exact sB_nums _ (byt_cutL zs hz _ _)
  have hcv : (convert 22 9 (.slice (some ⟨b, off + A, none⟩) s (c - A))).run Try.prog (w.alloc (.cells #[.int .i64 0, .string ⟨#[]⟩] 33)) = .ok (.string tx) (w.alloc (.cells #[.int .i64 0, .string ⟨#[]⟩] 33)) := by
    rw [htx]; exact cut_conv b off n (c - A) zs A s _ (HC.out _ bW0) (by omega) hl
  have hent : entB num tx.size = true := (entB_iff _ _).2 ⟨by omega, by omega, by omega, by omega⟩
  have qF : Hid (∀ w', Calls Try.prog 36 #[.agg #[.int .i64 num, .string tx]] w' fun e w'' => ∃ v, e = .returned (.tuple #[v, .bool true]) ∧ w''.ownsRow w'.heap.size 5 1 v (10 + s) ((frameL num (cutL zs A s)).map (Value.int .u8)) ∧ Below w'.heap.size w' w'') := fun w' => by
    have := specFrame_yes num tx w' hent
    rw [htB, htl] at this
    exact this
  obtain ⟨X, hX⟩ : ∃ X, X = strOfNums (frameL num (cutL zs A s)) := ⟨_, rfl⟩
  obtain ⟨Y, hY⟩ : ∃ Y, Y = strOfNums (cutL zs P (10 + s)) := ⟨_, rfl⟩
  have hFl : (frameL num (cutL zs A s)).length = 10 + s := by rw [frameL_len, cutL_len _ _ _ (by omega)]
  have qX : Hid (∀ w' B g c', w'.ownsRow B 5 1 (.slice (some ⟨g, 0, none⟩) (10 + s) c') (10 + s) ((frameL num (cutL zs A s)).map (Value.int .u8)) → (convert 22 9 (.slice (some ⟨g, 0, none⟩) (10 + s) c')).run Try.prog w' = .ok (.string X) w') := fun w' B g c' ho => by rw [hX]; exact own_conv hFl ho
  have qY : Hid (∀ w', Below w.heap.size w w' → (convert 22 9 (.slice (some ⟨b, off + P, none⟩) (10 + s) (c - P))).run Try.prog w' = .ok (.string Y) w') := fun w' hb' => by rw [hY]; exact cut_conv b off n (c - P) zs P (10 + s) w' (HC.out w' hb') (by omega) hl
  have hXY : X = Y ↔ gnum zs (P + 6) 4 = crcI (cutL zs P 6 ++ cutL zs A s) := by
    have h1 := frame_at zs hz P s (by omega) hs
    rw [hnum, ← hA] at h1
    rw [← h1, hX, hY]
    constructor
    · exact strNums_inj _ _ (byt_frameL _ _ (byt_cutL zs hz _ _)) (byt_cutL zs hz _ _)
    · intro e; rw [e]
  rw [← hA, show ((s : Int)).toNat = s by omega, ← htx] at hR'
  have hAb : A ≤ n := by omega
  have hAZ : A ≤ Z := by omega
  have hZc : Z ≤ c := by omega
  have hZc' : ¬ c < Z := by omega
  have hPZ : P ≤ Z := by omega
  clear HC HRd hc hl hz hs hnum htx htB hent hX hY hFl hA hZ
  go_enter Try.func16, Try.ntmps16
  go_wp2_with fail
  refine (q1.out _ bW0).mono ?_
  rintro e w1 ⟨rfl, rfl⟩
  go_wp2_with fail
  refine (q2.out _ bW0).mono ?_
  rintro e w2 ⟨rfl, rfl⟩
  go_wp2_with fail
  obtain ⟨W2, hW2⟩ : ∃ W2, W2 = (w.alloc (.cells #[.int .i64 0, .string ⟨#[]⟩] 33)).alloc (.cells #[.int .i64 num, .string tx] 33) := ⟨_, rfl⟩
  have bW2 : Below w.heap.size w W2 := by rw [hW2]; exact bW0.alloc bW0.size _
  have hA2 : W2.heap[w.heap.size]? = some (.cells #[.int .i64 0, .string ⟨#[]⟩] 33 (0, 0)) := by
    rw [hW2]; exact (heap_alloc_old _ _ (by simp)).trans (heap_alloc_new w _)
  have hB2 : W2.heap[w.heap.size + 1]? = some (.cells #[.int .i64 num, .string tx] 33 (0, 0)) := by
    have h9 := heap_alloc_new (w.alloc (.cells #[.int .i64 0, .string ⟨#[]⟩] 33)) (.cells #[.int .i64 num, .string tx] 33)
    rw [hW2]; simpa using h9
  have zW2 : w.heap.size + 1 < W2.heap.size := by rw [hW2]; simp
  rw [← hW2]
  clear hW2 hcv bW0 q1 q2
  refine (qF.out _).mono ?_
  rintro e w5 ⟨v5, rfl, o5, hb5⟩
  obtain ⟨g5, c5, rfl, hg5, hl5⟩ := own_form o5 (by omega)
  have b5 : Below w.heap.size w w5 := bW2.trans (hb5.mono bW2.size)
  have hA5 := (hb5.block _ (by omega : w.heap.size < W2.heap.size)).trans hA2
  have hB5 := (hb5.block _ zW2).trans hB2
  have u0 : w5.cell? ⟨w.heap.size, 0, none⟩ = some (.int .i64 0) := box_cell hA5 rfl
  have u1 : w5.cell? ⟨w.heap.size, 1, none⟩ = some (.string ⟨#[]⟩) := box_cell hA5 rfl
  have f0 : w5.frozen? ⟨w.heap.size, 0, none⟩ = false := box_frozen hA5
  have f1 : w5.frozen? ⟨w.heap.size, 1, none⟩ = false := box_frozen hA5
  have k0 : w5.cell? ⟨w.heap.size + 1, 0, none⟩ = some (.int .i64 num) := box_cell hB5 rfl
  have k1 : w5.cell? ⟨w.heap.size + 1, 1, none⟩ = some (.string tx) := box_cell hB5 rfl
  have cX : (convert 22 9 (.slice (some ⟨g5, 0, none⟩) (10 + s) c5)).run Try.prog w5.drew = .ok (.string X) w5.drew := qX.out _ _ _ _ (own_later o5 (Below.refl _ _).drew)
  have cY : (convert 22 9 (.slice (some ⟨b, off + P, none⟩) (10 + s) (c - P))).run Try.prog w5.drew = .ok (.string Y) w5.drew := qY.out _ b5.drew
  have hws : w.heap.size < w5.heap.size := by have := hb5.size; omega
  have hws1 : w.heap.size + 1 < w5.heap.size := by have := hb5.size; omega
  clear o5 qX qY qF hA2 hB2 hb5 hg5 hl5
  by_cases hE : X = Y
  · rw [if_pos (hXY.1 hE)] at hR'
    have HR' : Hid (R = (num, tx, (Z : Int), 0)) := by show _ = _; rw [← hR', ← a2, ← a1]
    have hq1 : (X.toList == Y.toList) = true := by rw [hE]; simp
    have r0 : (w5.setCell ⟨w.heap.size, 0, none⟩ (.int .i64 num)).cell? ⟨w.heap.size, 0, none⟩ = some (.int .i64 num) := box_cell (box_set (.int .i64 num) hA5) rfl
    have r1 : ((w5.setCell ⟨w.heap.size, 0, none⟩ (.int .i64 num)).setCell ⟨w.heap.size, 1, none⟩ (.string tx)).cell? ⟨w.heap.size, 1, none⟩ = some (.string tx) := box_cell (box_set (.string tx) (box_set (.int .i64 num) hA5)) rfl
    clear hR' hXY hE
    go_wp2_with fail
    refine wp_region_held_drew (S := fun w' => (convert 22 9 (.slice (some ⟨g5, 0, none⟩) (10 + s) c5)).run Try.prog w' = .ok (.string X) w' ∧ (convert 22 9 (.slice (some ⟨b, off + P, none⟩) (10 + s) (c - P))).run Try.prog w' = .ok (.string Y) w') (by kernel_rfl) ⟨cX, cY⟩ (fun hHeld => ?_)
    refine wpAnyH_take (i := 0) (v := .slice (some ⟨g5, 0, none⟩) (10 + s) c5) rfl (by kernel_rfl) (by kernel_rfl) (by kernel_rfl) (fun _ _ _ h => h) (Or.inl ⟨by kernel_rfl, ?_⟩) (by assumption) ?_
    · intro w9 hSw; (try dsimp only at hSw); go_simp
    simp only [Act.put, List.getElem_toArray, List.getElem_cons_succ, List.getElem_cons_zero, List.setIfInBounds_toArray, List.set_cons_zero, List.set_cons_succ]
    refine wpAnyH_take (i := 1) (v := .string X) rfl (by kernel_rfl) (by kernel_rfl) (by kernel_rfl) (fun _ _ _ h => h) (Or.inl ⟨by kernel_rfl, ?_⟩) (by assumption) ?_
    · intro w9 hSw; (try dsimp only at hSw); go_simp
    simp only [Act.put, List.getElem_toArray, List.getElem_cons_succ, List.getElem_cons_zero, List.setIfInBounds_toArray, List.set_cons_zero, List.set_cons_succ]
    refine wpAnyH_take (i := 2) (v := .slice (some ⟨b, off, none⟩) n c) rfl (by kernel_rfl) (by kernel_rfl) (by kernel_rfl) (fun _ _ _ h => h) (Or.inl ⟨by kernel_rfl, ?_⟩) (by assumption) ?_
    · intro w9 hSw; (try dsimp only at hSw); go_simp
    simp only [Act.put, List.getElem_toArray, List.getElem_cons_succ, List.getElem_cons_zero, List.setIfInBounds_toArray, List.set_cons_zero, List.set_cons_succ]
    refine wpAnyH_take (i := 3) (v := .int .i64 P) rfl (by kernel_rfl) (by kernel_rfl) (by kernel_rfl) (fun _ _ _ h => h) (Or.inl ⟨by kernel_rfl, ?_⟩) (by assumption) ?_
    · intro w9 hSw; (try dsimp only at hSw); go_simp
    simp only [Act.put, List.getElem_toArray, List.getElem_cons_succ, List.getElem_cons_zero, List.setIfInBounds_toArray, List.set_cons_zero, List.set_cons_succ]
    refine wpAnyH_take (i := 4) (v := .int .i64 P) rfl (by kernel_rfl) (by kernel_rfl) (by kernel_rfl) (fun _ _ _ h => h) (Or.inl ⟨by kernel_rfl, ?_⟩) (by assumption) ?_
    · intro w9 hSw; (try dsimp only at hSw); go_simp
    simp only [Act.put, List.getElem_toArray, List.getElem_cons_succ, List.getElem_cons_zero, List.setIfInBounds_toArray, List.set_cons_zero, List.set_cons_succ]
    refine wpAnyH_take (i := 5) (v := .int .i64 A) rfl (by kernel_rfl) (by kernel_rfl) (by kernel_rfl) (fun _ _ _ h => h) (Or.inl ⟨by kernel_rfl, ?_⟩) (by assumption) ?_
    · intro w9 hSw; (try dsimp only at hSw); go_simp
    simp only [Act.put, List.getElem_toArray, List.getElem_cons_succ, List.getElem_cons_zero, List.setIfInBounds_toArray, List.set_cons_zero, List.set_cons_succ]
    refine wpAnyH_take (i := 6) (v := .int .i64 s) rfl (by kernel_rfl) (by kernel_rfl) (by kernel_rfl) (fun _ _ _ h => h) (Or.inl ⟨by kernel_rfl, ?_⟩) (by assumption) ?_
    · intro w9 hSw; (try dsimp only at hSw); go_simp
    simp only [Act.put, List.getElem_toArray, List.getElem_cons_succ, List.getElem_cons_zero, List.setIfInBounds_toArray, List.set_cons_zero, List.set_cons_succ]
    refine wpAnyH_take (i := 7) (v := .int .i64 Z) rfl (by kernel_rfl) (by kernel_rfl) (by kernel_rfl) (fun _ _ _ h => h) (Or.inl ⟨by kernel_rfl, ?_⟩) (by assumption) ?_
    · intro w9 hSw; (try dsimp only at hSw); go_simp
    simp only [Act.put, List.getElem_toArray, List.getElem_cons_succ, List.getElem_cons_zero, List.setIfInBounds_toArray, List.set_cons_zero, List.set_cons_succ]
    refine wpAnyH_take (i := 8) (v := .slice (some ⟨b, off + P, none⟩) (10 + s) (c - P)) rfl (by kernel_rfl) (by kernel_rfl) (by kernel_rfl) (fun _ _ _ h => h) (Or.inl ⟨by kernel_rfl, ?_⟩) (by assumption) ?_
    · intro w9 hSw; (try dsimp only at hSw); go_simp
    simp only [Act.put, List.getElem_toArray, List.getElem_cons_succ, List.getElem_cons_zero, List.setIfInBounds_toArray, List.set_cons_zero, List.set_cons_succ]
    refine wpAnyH_take (i := 9) (v := .string Y) rfl (by kernel_rfl) (by kernel_rfl) (by kernel_rfl) (fun _ _ _ h => h) (Or.inl ⟨by kernel_rfl, ?_⟩) (by assumption) ?_
    · intro w9 hSw; (try dsimp only at hSw); go_simp
    simp only [Act.put, List.getElem_toArray, List.getElem_cons_succ, List.getElem_cons_zero, List.setIfInBounds_toArray, List.set_cons_zero, List.set_cons_succ]
    refine wpAnyH_take (i := 10) (v := .bool false) rfl (by kernel_rfl) (by kernel_rfl) (by kernel_rfl) (fun _ _ _ h => h) (Or.inl ⟨by kernel_rfl, ?_⟩) (by assumption) ?_
    · intro w9 hSw; (try dsimp only at hSw); go_simp
    simp only [Act.put, List.getElem_toArray, List.getElem_cons_succ, List.getElem_cons_zero, List.setIfInBounds_toArray, List.set_cons_zero, List.set_cons_succ]
    refine wpAnyH_done (by kernel_rfl) ?_ _
    have bS : Below w.heap.size w ((w5.drew.setCell ⟨w.heap.size, 0, none⟩ (.int .i64 num)).setCell ⟨w.heap.size, 1, none⟩ (.string tx)) := (b5.drew.setCell (Nat.le_refl _) _).setCell (Nat.le_refl _) _
    go_wp2
    (try simp only [Exit.inBlock, Exit.then])
    refine bodyPost_ret (by simp [results, Try.results16, go_sem, r0, r1]; try rfl) rfl ?_
    exact ⟨by rw [HR'.out], bS⟩
  · rw [if_neg (fun h => hE (hXY.2 h))] at hR'
    have HR' : Hid (R = (0, ByteArray.empty, 0, 6)) := hR'.symm
    have hq1 : (X.toList == Y.toList) = false := by
      rw [Bool.eq_false_iff]
      intro h
      rw [beq_iff_eq] at h
      exact hE (ByteArray.ext (Array.toList_inj.1 (by simpa [ByteArray.toList_eq] using h)))
    have r0 : (w5.setCell ⟨w.heap.size, 0, none⟩ (.int .i64 0)).cell? ⟨w.heap.size, 0, none⟩ = some (.int .i64 0) := box_cell (box_set (.int .i64 0) hA5) rfl
    have r1 : ((w5.setCell ⟨w.heap.size, 0, none⟩ (.int .i64 0)).setCell ⟨w.heap.size, 1, none⟩ (.string ⟨#[]⟩)).cell? ⟨w.heap.size, 1, none⟩ = some (.string ⟨#[]⟩) := box_cell (box_set (.string ⟨#[]⟩) (box_set (.int .i64 0) hA5)) rfl
    clear hR' hXY hE
    go_wp2_with fail
    refine wp_region_held_drew (S := fun w' => (convert 22 9 (.slice (some ⟨g5, 0, none⟩) (10 + s) c5)).run Try.prog w' = .ok (.string X) w' ∧ (convert 22 9 (.slice (some ⟨b, off + P, none⟩) (10 + s) (c - P))).run Try.prog w' = .ok (.string Y) w') (by kernel_rfl) ⟨cX, cY⟩ (fun hHeld => ?_)
    refine wpAnyH_take (i := 0) (v := .slice (some ⟨g5, 0, none⟩) (10 + s) c5) rfl (by kernel_rfl) (by kernel_rfl) (by kernel_rfl) (fun _ _ _ h => h) (Or.inl ⟨by kernel_rfl, ?_⟩) (by assumption) ?_
    · intro w9 hSw; (try dsimp only at hSw); go_simp
    simp only [Act.put, List.getElem_toArray, List.getElem_cons_succ, List.getElem_cons_zero, List.setIfInBounds_toArray, List.set_cons_zero, List.set_cons_succ]
    refine wpAnyH_take (i := 1) (v := .string X) rfl (by kernel_rfl) (by kernel_rfl) (by kernel_rfl) (fun _ _ _ h => h) (Or.inl ⟨by kernel_rfl, ?_⟩) (by assumption) ?_
    · intro w9 hSw; (try dsimp only at hSw); go_simp
    simp only [Act.put, List.getElem_toArray, List.getElem_cons_succ, List.getElem_cons_zero, List.setIfInBounds_toArray, List.set_cons_zero, List.set_cons_succ]
    refine wpAnyH_take (i := 2) (v := .slice (some ⟨b, off, none⟩) n c) rfl (by kernel_rfl) (by kernel_rfl) (by kernel_rfl) (fun _ _ _ h => h) (Or.inl ⟨by kernel_rfl, ?_⟩) (by assumption) ?_
    · intro w9 hSw; (try dsimp only at hSw); go_simp
    simp only [Act.put, List.getElem_toArray, List.getElem_cons_succ, List.getElem_cons_zero, List.setIfInBounds_toArray, List.set_cons_zero, List.set_cons_succ]
    refine wpAnyH_take (i := 3) (v := .int .i64 P) rfl (by kernel_rfl) (by kernel_rfl) (by kernel_rfl) (fun _ _ _ h => h) (Or.inl ⟨by kernel_rfl, ?_⟩) (by assumption) ?_
    · intro w9 hSw; (try dsimp only at hSw); go_simp
    simp only [Act.put, List.getElem_toArray, List.getElem_cons_succ, List.getElem_cons_zero, List.setIfInBounds_toArray, List.set_cons_zero, List.set_cons_succ]
    refine wpAnyH_take (i := 4) (v := .int .i64 P) rfl (by kernel_rfl) (by kernel_rfl) (by kernel_rfl) (fun _ _ _ h => h) (Or.inl ⟨by kernel_rfl, ?_⟩) (by assumption) ?_
    · intro w9 hSw; (try dsimp only at hSw); go_simp
    simp only [Act.put, List.getElem_toArray, List.getElem_cons_succ, List.getElem_cons_zero, List.setIfInBounds_toArray, List.set_cons_zero, List.set_cons_succ]
    refine wpAnyH_take (i := 5) (v := .int .i64 A) rfl (by kernel_rfl) (by kernel_rfl) (by kernel_rfl) (fun _ _ _ h => h) (Or.inl ⟨by kernel_rfl, ?_⟩) (by assumption) ?_
    · intro w9 hSw; (try dsimp only at hSw); go_simp
    simp only [Act.put, List.getElem_toArray, List.getElem_cons_succ, List.getElem_cons_zero, List.setIfInBounds_toArray, List.set_cons_zero, List.set_cons_succ]
    refine wpAnyH_take (i := 6) (v := .int .i64 s) rfl (by kernel_rfl) (by kernel_rfl) (by kernel_rfl) (fun _ _ _ h => h) (Or.inl ⟨by kernel_rfl, ?_⟩) (by assumption) ?_
    · intro w9 hSw; (try dsimp only at hSw); go_simp
    simp only [Act.put, List.getElem_toArray, List.getElem_cons_succ, List.getElem_cons_zero, List.setIfInBounds_toArray, List.set_cons_zero, List.set_cons_succ]
    refine wpAnyH_take (i := 7) (v := .int .i64 Z) rfl (by kernel_rfl) (by kernel_rfl) (by kernel_rfl) (fun _ _ _ h => h) (Or.inl ⟨by kernel_rfl, ?_⟩) (by assumption) ?_
    · intro w9 hSw; (try dsimp only at hSw); go_simp
    simp only [Act.put, List.getElem_toArray, List.getElem_cons_succ, List.getElem_cons_zero, List.setIfInBounds_toArray, List.set_cons_zero, List.set_cons_succ]
    refine wpAnyH_take (i := 8) (v := .slice (some ⟨b, off + P, none⟩) (10 + s) (c - P)) rfl (by kernel_rfl) (by kernel_rfl) (by kernel_rfl) (fun _ _ _ h => h) (Or.inl ⟨by kernel_rfl, ?_⟩) (by assumption) ?_
    · intro w9 hSw; (try dsimp only at hSw); go_simp
    simp only [Act.put, List.getElem_toArray, List.getElem_cons_succ, List.getElem_cons_zero, List.setIfInBounds_toArray, List.set_cons_zero, List.set_cons_succ]
    refine wpAnyH_take (i := 9) (v := .string Y) rfl (by kernel_rfl) (by kernel_rfl) (by kernel_rfl) (fun _ _ _ h => h) (Or.inl ⟨by kernel_rfl, ?_⟩) (by assumption) ?_
    · intro w9 hSw; (try dsimp only at hSw); go_simp
    simp only [Act.put, List.getElem_toArray, List.getElem_cons_succ, List.getElem_cons_zero, List.setIfInBounds_toArray, List.set_cons_zero, List.set_cons_succ]
    refine wpAnyH_take (i := 10) (v := .bool true) rfl (by kernel_rfl) (by kernel_rfl) (by kernel_rfl) (fun _ _ _ h => h) (Or.inl ⟨by kernel_rfl, ?_⟩) (by assumption) ?_
    · intro w9 hSw; (try dsimp only at hSw); go_simp
    simp only [Act.put, List.getElem_toArray, List.getElem_cons_succ, List.getElem_cons_zero, List.setIfInBounds_toArray, List.set_cons_zero, List.set_cons_succ]
    refine wpAnyH_done (by kernel_rfl) ?_ _
    have bS : Below w.heap.size w ((w5.drew.setCell ⟨w.heap.size, 0, none⟩ (.int .i64 0)).setCell ⟨w.heap.size, 1, none⟩ (.string ⟨#[]⟩)) := (b5.drew.setCell (Nat.le_refl _) _).setCell (Nat.le_refl _) _
    go_wp2
    (try simp only [Exit.inBlock, Exit.then])
    refine bodyPost_ret (by simp [results, Try.results16, go_sem, r0, r1]; try rfl) rfl ?_
    exact ⟨by rw [HR'.out]; rfl, bS⟩

end Go.Proofs.Ytbjmjmammpgbmaa
