/-
  Joined: RfI, RfAI, ScI, WFnLog, FlipP, FlipS, FlT.
-/
import Derived.Test.YtelbkamgcnmokaaJ4FnFlip
import Derived.Test.YtelbkamgcnmokaaJ0FnFlip
import Derived.Test.YtelbkamgcnmokaaJ1FnFlip
import Derived.Test.YtelbkamgcnmokaaJ2FnFlip
import Derived.Deep.RegionHeld3
/- RfI: FrameRead of the program: what readFrame gives up with becomes the code. -/
namespace Go.Proofs.Ytelbkamgcnmokaa
open Go.RowKit
set_option linter.unusedVariables false
set_option linter.unusedSimpArgs false

set_option maxRecDepth 100000 in
set_option maxHeartbeats 2000000 in
theorem implRf_pan (x : Value) (p k : Int) (w : World) (h : ∀ w', Below w.heap.size w w' → Calls Try.prog 18 #[x, .int .i64 p] w' fun e w'' => e = .panicked [{ v := .iface 43 (.int .i64 k), recovered := false }] ∧ Below w'.heap.size w' w'') :
    Calls Try.prog 7 #[x, .int .i64 p] w fun e w' => e = .returned (.tuple #[.agg #[.int .i64 0, .string ⟨#[]⟩], .int .i64 0, .int .i64 k]) ∧ Below w.heap.size w w' := by
  have hmf : ∀ (fn : Fn) (first cap : Array Value) (w : World), (Instr.makeFunc fn first cap).run Try.prog w = .ok (.func fn first cap) w := fun _ _ _ _ => rfl
  have q : Hid (∀ w', Below w.heap.size w w' → Calls Try.prog 18 #[x, .int .i64 p] w' fun e w'' => e = .panicked [{ v := .iface 43 (.int .i64 k), recovered := false }] ∧ Below w'.heap.size w' w'') := h
  clear h
  obtain ⟨W, hW⟩ : ∃ W, W = (w.alloc (.cells #[.int .i64 0, .string ⟨#[]⟩] 28)).alloc (.cells #[.int .i64 0] 3) := ⟨_, rfl⟩
  have bW : Below w.heap.size w W := by rw [hW]; exact ((Below.refl _ _).alloc (Nat.le_refl _) _).alloc (by simp) _
  have hA : W.heap[w.heap.size]? = some (.cells #[.int .i64 0, .string ⟨#[]⟩] 28 (0, 0)) := by rw [hW]; exact (heap_alloc_old _ _ (by simp)).trans (heap_alloc_new w _)
  have hB : W.heap[w.heap.size + 1]? = some (.cells #[.int .i64 0] 3 (0, 0)) := by
    have h9 := heap_alloc_new (w.alloc (.cells #[.int .i64 0, .string ⟨#[]⟩] 28)) (.cells #[.int .i64 0] 3)
    rw [hW]; simpa using h9
  have HW : Hid (W = (w.alloc (.cells #[.int .i64 0, .string ⟨#[]⟩] 28)).alloc (.cells #[.int .i64 0] 3)) := hW
  have zA : w.heap.size < W.heap.size := lt_heap hA
  have zB : w.heap.size + 1 < W.heap.size := lt_heap hB
  clear hW
  go_enter_defers Try.func7, Try.ntmps7
  go_wp2_with fail
  rw [← HW.out]
  refine (q.out _ bW).mono ?_
  rintro e w1 ⟨rfl, hb1⟩
  have b1 := bW.trans (hb1.mono bW.size)
  have hA1 := (hb1.block _ zA).trans hA
  have hB1 := (hb1.block _ zB).trans hB
  have hne : ¬ w.heap.size = w.heap.size + 1 := by omega
  have hA2 := (box_other (w := w1) (b := w.heap.size + 1) (j := 0) (.int .i64 k) (k := w.heap.size) (by omega)).trans hA1
  have hB2 := box_set (w := w1) (j := 0) (.int .i64 k) hB1
  have e0 : (w1.setCell ⟨w.heap.size + 1, 0, none⟩ (.int .i64 k)).cell? ⟨w.heap.size, 0, none⟩ = some (.int .i64 0) := box_cell hA2 rfl
  have e1 : (w1.setCell ⟨w.heap.size + 1, 0, none⟩ (.int .i64 k)).cell? ⟨w.heap.size, 1, none⟩ = some (.string ⟨#[]⟩) := box_cell hA2 rfl
  have e2 : (w1.setCell ⟨w.heap.size + 1, 0, none⟩ (.int .i64 k)).cell? ⟨w.heap.size + 1, 0, none⟩ = some (.int .i64 k) := box_cell hB2 rfl
  have bE : Below w.heap.size w (w1.setCell ⟨w.heap.size + 1, 0, none⟩ (.int .i64 k)) := b1.setCell (by show w.heap.size ≤ w.heap.size + 1; omega) _
  go_wp2_with fail
  refine leaves_cons (f := 17) (args := #[.pointer (some ⟨w.heap.size + 1, 0, none⟩)]) (by simp) (by simp [go_sem]) ?_
  refine (catch_panicking ⟨w.heap.size + 1, 0, none⟩ 0 k [] _ (box_cell hB1 rfl) (box_frozen hB1)).mono ?_
  rintro e u' w'' ⟨rfl, rfl, rfl⟩
  simp [Leaves, settle, results, Try.results7, go_sem, e0, e1, e2]
  exact bE

set_option maxRecDepth 100000 in
set_option maxHeartbeats 2000000 in
theorem implRf_ret (x : Value) (p x0 : Int) (x1 : ByteArray) (nx : Int) (w : World) (h : ∀ w', Below w.heap.size w w' → Calls Try.prog 18 #[x, .int .i64 p] w' fun e w'' => e = .returned (.tuple #[.agg #[.int .i64 x0, .string x1], .int .i64 nx]) ∧ Below w'.heap.size w' w'') :
    Calls Try.prog 7 #[x, .int .i64 p] w fun e w' => e = .returned (.tuple #[.agg #[.int .i64 x0, .string x1], .int .i64 nx, .int .i64 0]) ∧ Below w.heap.size w w' := by
  have hmf : ∀ (fn : Fn) (first cap : Array Value) (w : World), (Instr.makeFunc fn first cap).run Try.prog w = .ok (.func fn first cap) w := fun _ _ _ _ => rfl
  have q : Hid (∀ w', Below w.heap.size w w' → Calls Try.prog 18 #[x, .int .i64 p] w' fun e w'' => e = .returned (.tuple #[.agg #[.int .i64 x0, .string x1], .int .i64 nx]) ∧ Below w'.heap.size w' w'') := h
  clear h
  obtain ⟨W, hW⟩ : ∃ W, W = (w.alloc (.cells #[.int .i64 0, .string ⟨#[]⟩] 28)).alloc (.cells #[.int .i64 0] 3) := ⟨_, rfl⟩
  have bW : Below w.heap.size w W := by rw [hW]; exact ((Below.refl _ _).alloc (Nat.le_refl _) _).alloc (by simp) _
  have hA : W.heap[w.heap.size]? = some (.cells #[.int .i64 0, .string ⟨#[]⟩] 28 (0, 0)) := by rw [hW]; exact (heap_alloc_old _ _ (by simp)).trans (heap_alloc_new w _)
  have hB : W.heap[w.heap.size + 1]? = some (.cells #[.int .i64 0] 3 (0, 0)) := by
    have h9 := heap_alloc_new (w.alloc (.cells #[.int .i64 0, .string ⟨#[]⟩] 28)) (.cells #[.int .i64 0] 3)
    rw [hW]; simpa using h9
  have HW : Hid (W = (w.alloc (.cells #[.int .i64 0, .string ⟨#[]⟩] 28)).alloc (.cells #[.int .i64 0] 3)) := hW
  have zA : w.heap.size < W.heap.size := lt_heap hA
  have zB : w.heap.size + 1 < W.heap.size := lt_heap hB
  clear hW
  go_enter_defers Try.func7, Try.ntmps7
  go_wp2_with fail
  rw [← HW.out]
  refine (q.out _ bW).mono ?_
  rintro e w1 ⟨rfl, hb1⟩
  have b1 := bW.trans (hb1.mono bW.size)
  have hA1 := (hb1.block _ zA).trans hA
  have hB1 := (hb1.block _ zB).trans hB
  have u0 : w1.cell? ⟨w.heap.size, 0, none⟩ = some (.int .i64 0) := box_cell hA1 rfl
  have u1 : w1.cell? ⟨w.heap.size, 1, none⟩ = some (.string ⟨#[]⟩) := box_cell hA1 rfl
  have f0 : w1.frozen? ⟨w.heap.size, 0, none⟩ = false := box_frozen hA1
  have f1 : w1.frozen? ⟨w.heap.size, 1, none⟩ = false := box_frozen hA1
  have u2 : w1.cell? ⟨w.heap.size + 1, 0, none⟩ = some (.int .i64 0) := box_cell hB1 rfl
  have f2 : w1.frozen? ⟨w.heap.size + 1, 0, none⟩ = false := box_frozen hB1
  have s1 := box_set (w := w1) (j := 0) (.int .i64 x0) hA1
  have s2 := box_set (j := 1) (.string x1) s1
  have s3 := box_set (j := 0) (.int .i64 x0) s2
  have s4 := box_set (j := 1) (.string x1) s3
  have s5 := (box_other (b := w.heap.size + 1) (j := 0) (.int .i64 0) (k := w.heap.size) (by omega)).trans s4
  have o1 := (box_other (w := w1) (b := w.heap.size) (j := 0) (.int .i64 x0) (k := w.heap.size + 1) (by omega)).trans hB1
  have o2 := (box_other (b := w.heap.size) (j := 1) (.string x1) (k := w.heap.size + 1) (by omega)).trans o1
  have o3 := (box_other (b := w.heap.size) (j := 0) (.int .i64 x0) (k := w.heap.size + 1) (by omega)).trans o2
  have o4 := (box_other (b := w.heap.size) (j := 1) (.string x1) (k := w.heap.size + 1) (by omega)).trans o3
  have o5 := box_set (j := 0) (.int .i64 0) o4
  have bE : Below w.heap.size w (((((w1.setCell ⟨w.heap.size, 0, none⟩ (.int .i64 x0)).setCell ⟨w.heap.size, 1, none⟩ (.string x1)).setCell ⟨w.heap.size, 0, none⟩ (.int .i64 x0)).setCell ⟨w.heap.size, 1, none⟩ (.string x1)).setCell ⟨w.heap.size + 1, 0, none⟩ (.int .i64 0)) :=
    ((((b1.setCell (Nat.le_refl _) _).setCell (Nat.le_refl _) _).setCell (Nat.le_refl _) _).setCell (Nat.le_refl _) _).setCell (by show w.heap.size ≤ w.heap.size + 1; omega) _
  have E1 : Hid _ := s5
  have E2 : Hid _ := o5
  have BE : Hid (Below w.heap.size w (((((w1.setCell ⟨w.heap.size, 0, none⟩ (.int .i64 x0)).setCell ⟨w.heap.size, 1, none⟩ (.string x1)).setCell ⟨w.heap.size, 0, none⟩ (.int .i64 x0)).setCell ⟨w.heap.size, 1, none⟩ (.string x1)).setCell ⟨w.heap.size + 1, 0, none⟩ (.int .i64 0))) := bE
  clear s1 s2 s3 s4 s5 o1 o2 o3 o4 o5 bE
  go_wp2
  refine leaves_cons (f := 17) (args := #[.pointer (some ⟨w.heap.size + 1, 0, none⟩)]) (by simp) (by simp [go_sem]) ?_
  refine (catch_idle ⟨w.heap.size + 1, 0, none⟩ _).mono ?_
  rintro e u' w'' ⟨rfl, rfl, hw''⟩
  rw [hw'']
  obtain ⟨WE, hWE⟩ : ∃ WE, WE = ((((w1.setCell ⟨w.heap.size, 0, none⟩ (.int .i64 x0)).setCell ⟨w.heap.size, 1, none⟩ (.string x1)).setCell ⟨w.heap.size, 0, none⟩ (.int .i64 x0)).setCell ⟨w.heap.size, 1, none⟩ (.string x1)).setCell ⟨w.heap.size + 1, 0, none⟩ (.int .i64 0) := ⟨_, rfl⟩
  have k1 := E1.out
  have k2 := E2.out
  have k3 := BE.out
  rw [← hWE] at k1 k2 k3 ⊢
  have c0 : WE.cell? ⟨w.heap.size, 0, none⟩ = some (.int .i64 x0) := box_cell k1 rfl
  have c1 : WE.cell? ⟨w.heap.size, 1, none⟩ = some (.string x1) := box_cell k1 rfl
  have c2 : WE.cell? ⟨w.heap.size + 1, 0, none⟩ = some (.int .i64 0) := box_cell k2 rfl
  simp [Leaves, settle, results, Try.results7, go_sem, c0, c1, c2]
  exact k3

end Go.Proofs.Ytelbkamgcnmokaa

/- RfAI: FrameRead of the program answers frAns. -/
namespace Go.Proofs.Ytelbkamgcnmokaa
open Go.RowKit
set_option linter.unusedVariables false

theorem rf_impl (v : Value) (zs : List Int) (p : Int) (w : World) (h : Reads (.sl .u8) w [v] zs) (hn : zs.length ≤ 1048576) (hp1 : -9223372036854775808 ≤ p) (hp2 : p ≤ 9223372036854775807) :
    Calls Try.prog 7 #[v, .int .i64 p] w fun e w' => e = .returned (.tuple #[.agg #[.int .i64 (frAns zs p).1, .string (frAns zs p).2.1], .int .i64 (frAns zs p).2.2.1, .int .i64 (frAns zs p).2.2.2]) ∧ Below w.heap.size w w' := by
  obtain ⟨a, c, hv, hcn, hcm⟩ := reads_val h
  have hv' : v = .slice a zs.length c := hv
  subst hv'
  obtain ⟨_, hrd, _, _⟩ := reads_bytes h
  by_cases h1 : p < 0
  · have e : frAns zs p = (0, ByteArray.empty, 0, 1) := by unfold frAns; rw [if_pos (by omega)]
    rw [e]; exact implRf_pan _ p 1 w fun w' hb' => readRf_near a _ c p w' hn hp1 hp2 1 (.inl ⟨h1, rfl⟩)
  by_cases h2 : (zs.length : Int) < p
  · have e : frAns zs p = (0, ByteArray.empty, 0, 1) := by unfold frAns; rw [if_pos (by omega)]
    rw [e]; exact implRf_pan _ p 1 w fun w' hb' => readRf_near a _ c p w' hn hp1 hp2 1 (.inr (.inl ⟨h1, h2, rfl⟩))
  by_cases h3 : (zs.length : Int) - p < 10
  · have e : frAns zs p = (0, ByteArray.empty, 0, 2) := by unfold frAns; rw [if_neg (by omega), if_pos h3]
    rw [e]; exact implRf_pan _ p 2 w fun w' hb' => readRf_near a _ c p w' hn hp1 hp2 2 (.inr (.inr ⟨h1, h2, h3, rfl⟩))
  obtain ⟨P, rfl⟩ := Int.eq_ofNat_of_zero_le (show 0 ≤ p by omega)
  have hne : zs ≠ [] := by intro h9; subst h9; simp at h3; omega
  obtain ⟨b, off, rfl, hb, hc⟩ := hrd.2.resolve_left hne
  have hz : Byt zs := hrd.1
  have hs := gnum2_bd zs hz P
  obtain ⟨s, hs'⟩ := Int.eq_ofNat_of_zero_le hs.1
  obtain ⟨num, hnum⟩ : ∃ num, gnum zs (P + 2) 4 = num := ⟨_, rfl⟩
  obtain ⟨sm, hsm⟩ : ∃ sm, gnum zs (P + 6) 4 = sm := ⟨_, rfl⟩
  have eP : ((P : Int)).toNat = P := by omega
  have es : ((s : Int)).toNat = s := by omega
  have HC : ∀ w', Below w.heap.size w w' → ∀ i, i < zs.length → w'.cell? ⟨b, off + i, none⟩ = some (.int .u8 (zs[i]?.getD 0)) := fun w' hb' i hi => (hb'.cell (p := ⟨b, off + i, none⟩) hb).trans (hc i hi)
  have HB : ∀ w', Below w.heap.size w w' → b < w'.heap.size := fun w' hb' => Nat.lt_of_lt_of_le hb hb'.size
  have hP : P + 10 ≤ zs.length := by omega
  by_cases h4 : s = 0 ∨ 1000 < s
  · have e : frAns zs (P : Int) = (0, ByteArray.empty, 0, 3) := by
      unfold frAns; rw [eP, hs', if_neg (by omega), if_neg (by omega), if_pos (by omega)]
    rw [e]; exact implRf_pan _ _ 3 w fun w' hb' => readRf_3 b off _ c zs P s num w' rfl (HB w' hb') (HC w' hb') hz hcn hcm hn hP hs' hnum h4
  by_cases h5 : (zs.length : Int) - (P : Int) - 10 < (s : Int)
  · have e : frAns zs (P : Int) = (0, ByteArray.empty, 0, 4) := by
      unfold frAns; rw [eP, hs', if_neg (by omega), if_neg (by omega), if_neg (by omega), if_pos h5]
    rw [e]; exact implRf_pan _ _ 4 w fun w' hb' => readRf_4 b off _ c zs P s num w' rfl (HB w' hb') (HC w' hb') hz hcn hcm hn hP hs' hnum (by omega) (by omega) h5
  by_cases h6 : num = 0 ∨ 1000000000 < num
  · have e : frAns zs (P : Int) = (0, ByteArray.empty, 0, 5) := by
      unfold frAns; rw [eP, hs', hnum, if_neg (by omega), if_neg (by omega), if_neg (by omega), if_neg h5, if_pos h6]
    rw [e]; exact implRf_pan _ _ 5 w fun w' hb' => readRf_5 b off _ c zs P s num w' rfl (HB w' hb') (HC w' hb') hz hcn hcm hn hP hs' hnum (by omega) (by omega) h5 h6
  by_cases h7 : sm = crcI (cutL zs P 6 ++ cutL zs (P + 10) s)
  · have e : frAns zs (P : Int) = (num, strOfNums (cutL zs (P + 10) s), (P : Int) + 10 + (s : Int), 0) := by
      unfold frAns; rw [eP, hs', hnum, hsm, es, if_neg (by omega), if_neg (by omega), if_neg (by omega), if_neg h5, if_neg h6, if_pos h7]
    rw [e]; exact implRf_ret _ _ _ _ _ w fun w' hb' => readRf_0 b off _ c zs P s num w' rfl (HB w' hb') (HC w' hb') hz hcn hcm hn hP hs' hnum sm hsm (by omega) (by omega) h5 (by omega) (by omega) h7
  · have e : frAns zs (P : Int) = (0, ByteArray.empty, 0, 6) := by
      unfold frAns; rw [eP, hs', hnum, hsm, es, if_neg (by omega), if_neg (by omega), if_neg (by omega), if_neg h5, if_neg h6, if_neg h7]
    rw [e]; exact implRf_pan _ _ 6 w fun w' hb' => readRf_6 b off _ c zs P s num w' rfl (HB w' hb') (HC w' hb') hz hcn hcm hn hP hs' hnum sm hsm (by omega) (by omega) h5 (by omega) (by omega) h7

end Go.Proofs.Ytelbkamgcnmokaa

/- ScI: Scan of the program. By program (scgen.py). -/
namespace Go.Proofs.Ytelbkamgcnmokaa
open Go.RowKit
set_option linter.unusedVariables false
set_option linter.unusedSimpArgs false

set_option maxRecDepth 100000 in
set_option maxHeartbeats 4000000 in
theorem implScan_any (v : Value) (zs : List Int) (w : World) (hr : Reads (.sl .u8) w [v] zs) (hn : zs.length ≤ 1048576) :
    Calls Try.prog 6 #[v] w fun e w' => ∃ u, e = .returned (.tuple #[u, .int .i64 ((scanA zs).2 : Int)]) ∧ w'.ownsRow w.heap.size 28 2 u (scanA zs).1.length (cellsE (scanA zs).1) ∧ Hid (AccOk (scanA zs).1 ∧ (scanA zs).2 ≤ zs.length) ∧ Below w.heap.size w w' := by
  obtain ⟨i0, hi, hz0, hz1, hz2⟩ := info_parts infoEntry
  obtain ⟨R, hR⟩ : ∃ R, R = scanA zs := ⟨_, rfl⟩
  rw [← hR]
  obtain ⟨n, hnz⟩ : ∃ n, n = zs.length := ⟨_, rfl⟩
  rw [← hnz] at hn ⊢
  have hz : Byt zs := by
    obtain ⟨a, c, rfl, _, _⟩ := reads_val hr
    exact (reads_bytes hr).2.1.1
  have qF : Hid (∀ w' (p : Nat), Below w.heap.size w w' → p ≤ n → Calls Try.prog 7 #[v, .int .i64 (p : Int)] w' fun e w'' => e = .returned (.tuple #[.agg #[.int .i64 (frAns zs (p : Int)).1, .string (frAns zs (p : Int)).2.1], .int .i64 (frAns zs (p : Int)).2.2.1, .int .i64 (frAns zs (p : Int)).2.2.2]) ∧ Below w'.heap.size w' w'') := fun w' p hb hp => rf_impl v zs p w' (hr.later hb) (by omega) (by omega) (by omega)
  have qOk : Hid (∀ p : Nat, (frAns zs (p : Int)).2.2.2 = 0 → 1 ≤ (frAns zs (p : Int)).1 ∧ (frAns zs (p : Int)).1 ≤ 1000000000 ∧ (frAns zs (p : Int)).2.1.size ≤ 1000 ∧ ∃ nx : Nat, (frAns zs (p : Int)).2.2.1 = (nx : Int) ∧ p + 11 ≤ nx ∧ nx ≤ n) := fun p h => by rw [hnz]; exact fr_ok zs hz p h
  have HR0 : Hid (R = scanL zs (n + 1) [] 0) := by show _ = _; rw [hR, hnz]; rfl
  clear hr hR hnz hz
  have HO : Hid (w.ownsRow w.heap.size 28 2 (.slice none 0 0) 0 []) := ⟨rfl, .inl ⟨rfl, rfl⟩⟩
  have bA : Below w.heap.size w w := Below.refl _ _
  go_enter Try.func6, Try.ntmps6
  go_wp2
  go_loopw [4, 5] (fun u i wr => ∃ (f p m : Nat) (acc : List EntD) (uu : Value), uu = u ∧ i = .int .i64 p ∧ wr.ownsRow w.heap.size 28 2 uu m (cellsE acc) ∧ Hid (acc.length = m ∧ R = scanL zs f acc p ∧ n + 1 ≤ f + p ∧ AccOk acc) ∧ p ≤ n ∧ m ≤ p ∧ Below w.heap.size w wr) (fun _ i _ => n + 1 - (intOf i).toNat)
  case atStart => exact ⟨n + 1, 0, 0, [], _, rfl, rfl, HO.out, ⟨rfl, HR0.out, by omega, fun x hx => by cases hx⟩, by omega, by omega, bA⟩
  case round =>
    obtain ⟨f, p, m, acc, u, rfl, rfl, hown, HA, hp, hm, hbel⟩ := hrel
    obtain ⟨ua, uc, rfl⟩ := own_sliceE hown
    have hbs := hbel.size
    obtain ⟨y0, hy0⟩ : ∃ y, y = (frAns zs (p : Int)).1 := ⟨_, rfl⟩
    obtain ⟨y1, hy1⟩ : ∃ y, y = (frAns zs (p : Int)).2.1 := ⟨_, rfl⟩
    obtain ⟨nx, hnx⟩ : ∃ y, y = (frAns zs (p : Int)).2.2.1 := ⟨_, rfl⟩
    obtain ⟨cd, hcd⟩ : ∃ y, y = (frAns zs (p : Int)).2.2.2 := ⟨_, rfl⟩
    have q1 : Hid (∀ w', Below w.heap.size w w' → Calls Try.prog 7 #[v, .int .i64 (p : Int)] w' fun e w'' => e = .returned (.tuple #[.agg #[.int .i64 y0, .string y1], .int .i64 nx, .int .i64 cd]) ∧ Below w'.heap.size w' w'') := fun w' hb' => by rw [hy0, hy1, hnx, hcd]; exact qF.out w' p hb' hp
    have hgo : goesOn zs acc p = (decide (cd = 0) && linkB (lastNum acc) y0) := by rw [hy0, hcd]; rfl
    have hrec : recOf zs p = (y0, y1, ()) := by rw [hy0, hy1]; rfl
    have hok := qOk.out p
    rw [← hy0, ← hy1, ← hnx, ← hcd] at hok
    have hsc := HA.out.2.1
    have hff := HA.out.2.2.1
    have hon : goesOn zs acc p = true → R = scanL zs (f - 1) (acc ++ [(y0, y1, ())]) nx.toNat := fun h => by rw [hsc, scanL_on zs f acc p h (by omega), hrec, hnx]
    have hend : goesOn zs acc p = false → R = (acc, p) := fun h => by rw [hsc, scanL_end zs f acc p h]
    have HFin : Hid (goesOn zs acc p = false → ∀ W : World, W.ownsRow w.heap.size 28 2 (.slice ua m uc) m (cellsE acc) → (p : Int) = (R.2 : Int) ∧ W.ownsRow w.heap.size 28 2 (.slice ua m uc) R.1.length (cellsE R.1) ∧ Hid (AccOk R.1 ∧ R.2 ≤ n)) := fun h W hW => by
      have e := hend h
      rw [e]
      refine ⟨rfl, ?_, ⟨HA.out.2.2.2, hp⟩⟩
      show W.ownsRow _ _ _ _ acc.length _
      rw [HA.out.1]; exact hW
    go_wp2_with fail
    refine (q1.out _ hbel).mono ?_
    rintro e w2 ⟨rfl, hb2⟩
    have b2 := hbel.trans (hb2.mono hbs)
    have ho2 := own_later hown hb2
    obtain ⟨W0, hW0⟩ : ∃ W0, W0 = w2.alloc (.cells #[.int .i64 y0, .string y1] 28) := ⟨_, rfl⟩
    have bw0 : Below w2.heap.size w2 W0 := by rw [hW0]; exact (Below.refl _ _).alloc (Nat.le_refl _) _
    have bW0 : Below w.heap.size w W0 := b2.trans (bw0.mono b2.size)
    have hbox : W0.heap[w2.heap.size]? = some (.cells #[.int .i64 y0, .string y1] 28 (0, 0)) := by rw [hW0]; exact heap_alloc_new w2 _
    have zlt0 : w2.heap.size < W0.heap.size := by rw [hW0]; simp
    have HW0 : Hid (W0 = w2.alloc (.cells #[.int .i64 y0, .string y1] 28)) := hW0
    have ho3 := own_later ho2 bw0
    have HO3 : Hid (W0.ownsRow w.heap.size 28 2 (.slice ua m uc) m (cellsE acc)) := ho3
    have BX : Hid (∀ w', Below W0.heap.size W0 w' → w'.cell? ⟨w2.heap.size, 0, none⟩ = some (.int .i64 y0) ∧ w'.cell? ⟨w2.heap.size, 1, none⟩ = some (.string y1)) := fun w' h' => by
      have i := (h'.block _ zlt0).trans hbox
      exact ⟨box_cell i rfl, box_cell i rfl⟩
    have bD0 : Below W0.heap.size W0 W0.drew := (Below.refl _ _).drew
    obtain ⟨v0, v1⟩ := BX.out W0 (Below.refl _ _)
    clear hown ho2 hW0 hbox hy0 hy1 hnx hcd hrec hsc hb2 bw0 ho3 hend qF qOk q1
    by_cases hc : cd = 0
    case neg =>
      have hgf : goesOn zs acc p = false := by rw [hgo]; simp [hc]
      have FN := HFin.out hgf
      have hc1 : (cd == 0) = false := by simp; exact hc
      clear hgo hok hon HFin hgf
      have bX : Below w.heap.size w (w2.alloc (.cells #[.int .i64 y0, .string y1] 28)) := by rw [← HW0.out]; exact bW0
      have oX : (w2.alloc (.cells #[.int .i64 y0, .string y1] 28)).ownsRow w.heap.size 28 2 (.slice ua m uc) m (cellsE acc) := by rw [← HW0.out]; exact HO3.out
      go_wp2
      go_ret2
      exact ⟨_, by rw [← (FN _ oX).1]; rfl, (FN _ oX).2.1, (FN _ oX).2.2, bX⟩
    subst hc
    obtain ⟨k1, k2, k3, nn, k4, k5, k6⟩ := hok rfl
    subst k4
    have FNX : Hid (goesOn zs acc p = true → (acc ++ [(y0, y1, ())]).length = m + 1 ∧ R = scanL zs (f - 1) (acc ++ [(y0, y1, ())]) nn ∧ n + 1 ≤ f - 1 + nn ∧ AccOk (acc ++ [(y0, y1, ())])) := fun h => by
      refine ⟨by rw [List.length_append, HA.out.1]; rfl, hon h, by omega, accOk_snoc _ _ HA.out.2.2.2 ⟨k1, k2, k3⟩⟩
    have HCE : Hid (cellsE (acc ++ [(y0, y1, ())]) = cellsE acc ++ [.int .i64 y0, .string y1]) := cellsE_snoc _ _
    clear hok hon
    have qL : Hid (∀ w', Below W0.heap.size W0 w' → Calls Try.prog 16 #[.slice ua m uc, .agg #[.int .i64 y0, .string y1]] w' fun e w'' => e = .returned (.bool (goesOn zs acc p)) ∧ Below w'.heap.size w' w'') := fun w' hw' => by
      rw [hgo]
      by_cases hm0 : m = 0
      · have hlk : lastNum acc = none := by unfold lastNum; rw [HA.out.1, hm0]; rfl
        rw [hlk, hm0]
        exact follows_none _ _ _ _ _
      · obtain ⟨j, hj⟩ : ∃ j, m = j + 1 := ⟨m - 1, by omega⟩
        obtain ⟨g, cq, he, hg1, hg2⟩ := own_form HO3.out (by omega)
        simp only [Value.slice.injEq, and_true] at he
        obtain ⟨rfl, hcq⟩ := he
        have oW := own_later HO3.out hw'
        obtain ⟨z, hzz, hlk, hmem, hcell⟩ := own_last (j := j) (g := g) (c := uc) (by rw [← hj]; exact oW) (by rw [HA.out.1, hj])
        have hzb := HA.out.2.2.2 z hmem
        have e1 : (decide ((0 : Int) = 0) && linkB (lastNum acc) y0) = (y0 == z.1 + 1) := by
          rw [hlk, Bool.eq_iff_iff]; simp [linkB]
        rw [e1, hj]
        exact follows_some g 0 j uc z.1 y0 y1 w' (Nat.lt_of_lt_of_le hg2 hw'.size) hcell (by omega) hzb.1 hzb.2.1
    cases hG : goesOn zs acc p with
    | true =>
      have FN := FNX.out hG
      rw [hG] at qL
      have FNh : Hid ((acc ++ [(y0, y1, ())]).length = m + 1 ∧ R = scanL zs (f - 1) (acc ++ [(y0, y1, ())]) nn ∧ n + 1 ≤ f - 1 + nn ∧ AccOk (acc ++ [(y0, y1, ())])) := FN
      clear hgo hG FN FNX HFin
      go_wp2_with fail
      rw [← HW0.out]
      refine (qL.out _ (Below.refl _ _)).mono ?_
      rintro e w5 ⟨rfl, hb5⟩
      have oW := own_later HO3.out hb5
      have bWW := bW0.trans ((hb5).mono bW0.size)
      obtain ⟨x0, x1⟩ := BX.out w5 hb5
      go_wp2_with (at_builtin; refine wpList_append_src rfl _ _ 23 rfl w.heap.size 28 i0 (.agg #[.int .i64 0, .string ByteArray.empty]) 2 24 Try.underlying23 hi hz0 hz1 hz2 rfl (by decide) (.slice ua m uc) m (cellsE acc) rfl (oW.alloc _) (.slice (some ⟨w5.heap.size, 0, none⟩) 1 1) 1 [.int .i64 y0, .string y1] rfl rfl (.inr ⟨_, 1, rfl, cells_new w5 [.int .i64 y0, .string y1] 28⟩) ?c2 ?c3 ?c4 ?c5 ?_)
      case c2 => intro u hu; simp at hu; rcases hu with rfl | rfl <;> rfl
      case c3 => unfold maxLen; omega
      case c4 => omega
      case c5 => have h9 := bWW.size; (try simp at h9); simp; omega
      intro v3 w3 o3 gr3
      have b3 : Below w.heap.size w w3 := (bWW.alloc bWW.size _).grown gr3 (by have h9 := bWW.size; (try simp at h9); simp; omega) (fun y h => (oW.lt y h).1)
      rw [← HCE.out] at o3
      clear gr3 oW
      go_wp2
      go_roundw
      case rel => exact ⟨f - 1, nn, m + 1, _, _, rfl, rfl, o3, FNh, k6, by omega, b3⟩
      case measure => simp [intOf]; omega
    | false =>
      have FN := HFin.out hG
      rw [hG] at qL
      clear hgo hG FNX HFin
      go_wp2_with fail
      rw [← HW0.out]
      refine (qL.out _ (Below.refl _ _)).mono ?_
      rintro e w5 ⟨rfl, hb5⟩
      have b5 := bW0.trans (hb5.mono bW0.size)
      have oW := own_later HO3.out hb5
      go_wp2
      go_ret2
      exact ⟨_, by rw [← (FN w5 oW).1]; rfl, (FN w5 oW).2.1, (FN w5 oW).2.2, b5⟩

end Go.Proofs.Ytelbkamgcnmokaa

/- WFnLog: The walk of the law FnLog: it returns true and writes nothing that was there. -/
namespace Go.Proofs.Ytelbkamgcnmokaa
open Go.RowKit
set_option linter.unusedVariables false

theorem log_small (d : List EntD) (h : ∀ x ∈ d, ByteArray.size x.2.1 ≤ 20) : (logL d).length ≤ d.length * 30 := by
  induction d with
  | nil => simp [logL]
  | cons a l ih =>
    have h1 := ih (fun x hx => h x (List.mem_cons_of_mem _ hx))
    have h2 := h a List.mem_cons_self
    have h3 := recL_len a
    have e : logL (a :: l) = recL a ++ logL l := by simp [logL]
    rw [e, List.length_append, List.length_cons]
    omega

theorem logTo_len_succ (d : List EntD) (i : Nat) (x : EntD) (hx : d[i]? = some x) : (logTo d (i + 1)).length = (logTo d i).length + (10 + ByteArray.size x.2.1) := by
  rw [logTo_succ d i x hx, List.length_append, recL_len]

theorem logTo_mono (d : List EntD) : ∀ (i r : Nat), (logTo d i).length ≤ (logTo d (i + r)).length
  | i, 0 => Nat.le_refl _
  | i, r + 1 => by
    have h := logTo_mono d i r
    cases hx : d[i + r]? with
    | none =>
      have hl : d.length ≤ i + r := List.getElem?_eq_none_iff.1 hx
      rw [logTo_all d (i + (r + 1)) (by omega)]
      rw [logTo_all d (i + r) hl] at h
      exact h
    | some x =>
      have e := logTo_succ d (i + r) x hx
      rw [← Nat.add_assoc, e, List.length_append]
      omega

theorem reads_front {e : Sh} {w : World} {a : Option Addr} {n c : Nat} {d : List e.D} (h : Reads (.sl e) w [.slice a n c] d) (k : Nat) (hk : k ≤ n) : Reads (.sl e) w [.slice a k c] (List.take k d) := by
  obtain ⟨ad, cp, e1, hl, hm, h0⟩ := h
  simp only [List.cons.injEq, Value.slice.injEq, and_true] at e1
  obtain ⟨rfl, hn, rfl⟩ := e1
  have hdl : (List.take k d).length = k := by rw [List.length_take]; omega
  refine ⟨a, c, ?_, ?_, hm, ?_⟩
  · show _ = [Value.slice _ (List.take k d).length _]; rw [hdl]
  · show (List.take k d).length ≤ c; omega
  · rcases h0 with h0 | ⟨b, off, hb, hlt, hx⟩
    · left
      have h0' : d.length = 0 := h0
      show (List.take k d).length = 0
      omega
    · refine .inr ⟨b, off, hb, hlt, fun i x hi => ?_⟩
      have hi2 : (List.take k d)[i]? = some x := hi
      have hik : i < k := by
        have := (List.getElem?_eq_some_iff.1 hi2).1
        rw [hdl] at this; exact this
      rw [List.getElem?_take_of_lt hik] at hi2
      exact hx i x hi2

set_option maxRecDepth 100000 in
set_option maxHeartbeats 4000000 in
theorem logLaw_in (a : Option Addr) (n cap : Nat) (zs : List Int) (w : World) (HL : Hid (zs.length = n)) (hn : n ≤ 1048576) (hr : Rd w a zs) :
    Calls Try.prog 4 #[.slice a n cap] w fun e w' => e = .returned (.bool true) ∧ Below w.heap.size w w' := by
  have hlt : ¬ (1048576 : Int) < (n : Int) := by omega
  have HR : Hid (Rd w a zs) := hr
  clear hr
  go_enter Try.func4, Try.ntmps4
  go_wp2_with fail
  refine (makeEntries_any a n cap zs _ HL hn HR.out).mono ?_
  rintro e w1 ⟨d, m, g, cp, hm6, hdl, hE, hsz, rfl, ho1, hb1⟩
  have hls := log_small d hsz
  rw [hdl] at hls
  obtain ⟨L, hL⟩ : ∃ L, L = logL d := ⟨_, rfl⟩
  obtain ⟨l, hl⟩ : ∃ l, l = L.length := ⟨_, rfl⟩
  have hl180 : l ≤ 180 := by rw [hl, hL]; omega
  have small : SmallE d := fun x hx => by have := hsz x hx; unfold maxLen; omega
  have hR1 : Reads (.sl shEntry) w1 [.slice (some ⟨g, 0, none⟩) m cp] d := by
    obtain ⟨F, hF, _⟩ := own_entsV hdl small ho1
    exact hF.reads
  obtain ⟨_, hmcp, hcpm⟩ := reads_len hR1
  unfold maxLen at hcpm
  have HD : Hid (∀ w', Below w1.heap.size w1 w' → Reads (.sl shEntry) w' [.slice (some ⟨g, 0, none⟩) m cp] d) := fun w' h => hR1.later h
  have hBL : Byt L := by rw [hL]; exact byt_logL d
  have HP : Hid (d.length = m ∧ entsB d = true ∧ (∀ x ∈ d, ByteArray.size x.2.1 ≤ 20) ∧ L = logL d ∧ l = L.length ∧ Byt L) := ⟨hdl, hE, hsz, hL, hl, hBL⟩
  have qL : Hid (Calls Try.prog 9 #[.slice (some ⟨g, 0, none⟩) m cp] w1 fun e w' => ∃ va vc, e = .returned (.tuple #[.slice va l vc, .bool true]) ∧ w'.ownsRow w1.heap.size 5 1 (.slice va l vc) l (L.map (Value.int .u8)) ∧ Below w1.heap.size w1 w') := by
    refine (implLog_good _ _ _ d w1 hR1 hE).mono ?_
    rintro e w' ⟨hb, ⟨_, v, rfl, ho⟩ | ⟨h1, _⟩⟩
    · rw [← hL, ← hl] at ho
      obtain ⟨va, vc, rfl⟩ := own_slice ho
      exact ⟨va, vc, rfl, ho, hb⟩
    · rw [← hL, ← hl] at h1; omega
  clear ho1 hR1 hdl hE hsz hL hl hls small hBL
  go_wp2_with fail
  refine qL.out.mono ?_
  rintro e w2 ⟨va, vc, rfl, ho2, hb2⟩
  have hRL : Reads (.sl .u8) w2 [.slice va l vc] L := by
    obtain ⟨F, hF, _⟩ := own_row HP.out.2.2.2.2.1.symm HP.out.2.2.2.2.2 ho2
    exact hF.reads
  obtain ⟨_, hlvc, hvcm⟩ := reads_len hRL
  unfold maxLen at hvcm
  have HRL : Hid (∀ w', Below w2.heap.size w2 w' → Reads (.sl .u8) w' [.slice va l vc] L) := fun w' h => hRL.later h
  have qS : Hid (∀ w', Below w2.heap.size w2 w' → Calls Try.prog 6 #[.slice va l vc] w' fun e w'' => ∃ ua uc, e = .returned (.tuple #[.slice ua m uc, .int .i64 (l : Int)]) ∧ Reads (.sl shEntry) w'' [.slice ua m uc] d ∧ Below w'.heap.size w' w'') := fun w' h => by
    have hl5 := HP.out.2.2.2.2.1
    refine (implScan_any _ L w' (HRL.out w' h) (by omega)).mono ?_
    rintro e w'' ⟨u, rfl, ho, hk, hb⟩
    have hsc : scanA L = (d, l) := by rw [HP.out.2.2.2.2.1, HP.out.2.2.2.1]; exact scan_log d HP.out.2.1
    rw [hsc] at ho ⊢
    have hdl : List.length (α := EntD) d = m := HP.out.1
    have ho' : w''.ownsRow w'.heap.size 28 2 u m (cellsE d) := by rw [← hdl]; exact ho
    have small : SmallE d := fun x hx => by have := HP.out.2.2.1 x hx; unfold maxLen; omega
    obtain ⟨F, hF, _, ua, uc, rfl⟩ := own_entsV hdl small ho'
    exact ⟨ua, uc, rfl, hF.reads, hb⟩
  clear ho2 hRL qL
  go_wp2_with fail
  refine (qS.out _ (Below.refl _ _)).mono ?_
  rintro e w3 ⟨ua, uc, rfl, hR3, hb3⟩
  have hb13 : Below w1.heap.size w1 w3 := hb2.trans (hb3.mono hb2.size)
  have qM : Hid (Calls Try.prog 11 #[.slice ua m uc, .slice (some ⟨g, 0, none⟩) m cp] w3 fun e w' => e = .returned (.bool true) ∧ Below w3.heap.size w3 w') := same_true _ _ m _ _ d w3 hR3 (HD.out w3 hb13) (by omega)
  have qE : Hid (∀ w', Below w1.heap.size w1 w' → Calls Try.prog 12 #[.slice (some ⟨g, 0, none⟩) m cp] w' fun e w'' => e = .returned (.bool true) ∧ Below w'.heap.size w' w'') := fun w' h => by rw [← HP.out.2.1]; exact implEnts_any _ _ _ d w' (HD.out w' h)
  have hne : ((l : Int) != (l : Int)) = false := by simp
  clear hR3
  go_wp2_with fail
  refine qM.out.mono ?_
  rintro e w4 ⟨rfl, hb4⟩
  have hb14 := hb13.trans (hb4.mono hb13.size)
  go_wp2_with fail
  refine (qE.out _ hb14).mono ?_
  rintro e w5 ⟨rfl, hb5⟩
  have hb15 := hb14.trans (hb5.mono hb14.size)
  have hb25 : Below w2.heap.size w2 w5 := (hb3.trans (hb4.mono hb3.size)).trans (hb5.mono (hb3.trans (hb4.mono hb3.size)).size)
  have hbw5 := hb1.trans (hb15.mono hb1.size)
  clear hb3 hb4 hb5 hb13 hb14 qM qE qS
  go_wp2_with fail
  refine (makeNum_any a n cap zs _ _ HL hn (HR.out.later hbw5) (by omega) (by omega)).mono ?_
  rintro e w6 ⟨k, rfl, hk, hb6⟩
  have hkl : k ≤ l := by omega
  obtain ⟨j, hjm, hsc, hj1, hj2⟩ := scan_cut d HP.out.2.1 k (by rw [← HP.out.2.2.2.1, ← HP.out.2.2.2.2.1]; exact hkl)
  rw [← HP.out.2.2.2.1] at hsc
  rw [HP.out.1] at hjm hj2
  have hb26 := hb25.trans (hb6.mono hb25.size)
  have hb16 := hb15.trans (hb6.mono hb15.size)
  have qT : Hid (Calls Try.prog 6 #[.slice va k vc] w6 fun e w'' => ∃ ta tc, e = .returned (.tuple #[.slice ta j tc, .int .i64 ((logTo d j).length : Int)]) ∧ Reads (.sl shEntry) w'' [.slice ta j tc] (d.take j) ∧ Below w6.heap.size w6 w'') := by
    have hrd := reads_front (HRL.out w6 hb26) k hkl
    refine (implScan_any _ (L.take k) w6 hrd (by rw [List.length_take]; omega)).mono ?_
    rintro e w'' ⟨u, rfl, ho, hk9, hb⟩
    rw [hsc] at ho ⊢
    have hdl : List.length (α := EntD) (d.take j) = j := by rw [List.length_take, HP.out.1]; omega
    have ho2' : w''.ownsRow w6.heap.size 28 2 u (List.length (α := EntD) (d.take j)) (cellsE (d.take j)) := ho
    have ho' : w''.ownsRow w6.heap.size 28 2 u j (cellsE (d.take j)) := by rwa [hdl] at ho2'
    have small : SmallE (d.take j) := fun x hx => by have := HP.out.2.2.1 x (List.mem_of_mem_take hx); unfold maxLen; omega
    obtain ⟨F, hF, _, ua, uc, rfl⟩ := own_entsV hdl small ho'
    exact ⟨ua, uc, rfl, hF.reads, hb⟩
  obtain ⟨A, hA⟩ : ∃ A, A = (logTo d j).length := ⟨_, rfl⟩
  rw [← hA] at qT hj1
  have HJ : Hid (A = (logTo d j).length ∧ (j < m → k < (logTo d (j + 1)).length)) := ⟨hA, hj2⟩
  have hkvc : k ≤ vc := by omega
  have hkvc' : ¬ vc < k := by omega
  clear hsc hj2 hA hb25 hb15 hb6 HRL
  go_wp2_with fail
  refine qT.out.mono ?_
  rintro e w7 ⟨ta, tc, rfl, hR7, hb7⟩
  have hb17 := hb16.trans (hb7.mono hb16.size)
  have qM : Hid (Calls Try.prog 11 #[.slice ta j tc, .slice (some ⟨g, 0, none⟩) j cp] w7 fun e w' => e = .returned (.bool true) ∧ Below w7.heap.size w7 w') := same_true _ _ j _ _ (d.take j) w7 hR7 (reads_front (HD.out w7 hb17) j hjm) (by omega)
  have z1 : ¬ ((m : Int) < (j : Int)) := by omega
  have z2 : ¬ m < j := by omega
  have z3 : ¬ ((k : Int) < (A : Int)) := by omega
  have z4 : ¬ k < A := by omega
  have z5 : j ≤ cp := by omega
  have z6 : ¬ cp < j := by omega
  have z7 : decide ((m : Int) < (j : Int)) = false := by simp; omega
  have z8 : decide (m < j) = false := by simp; omega
  clear hR7 qT hb16 hb26
  go_wp2_with fail
  refine qM.out.mono ?_
  rintro e w8 ⟨rfl, hb8⟩
  have hb18 := hb17.trans (hb8.mono hb17.size)
  clear hb7 hb8 hb17 qM
  go_wp2
  go_loopw [11, 83] (fun q i wr => ∃ i' : Nat, i' ≤ m ∧ i = .int .i64 i' ∧ q = .int .i64 ((logTo d i').length : Int) ∧ Below w1.heap.size w1 wr) (fun _ i _ => m - (intOf i).toNat)
  case atStart => exact ⟨0, Nat.zero_le _, rfl, by rw [logTo_zero]; rfl, hb18⟩
  case round =>
    obtain ⟨i, him, rfl, rfl, hbel⟩ := hrel
    by_cases hlt' : i < m
    · have hRw := HD.out wr hbel
      obtain ⟨b, off, cc, x, he, hb, hx, hrx, hcell⟩ := reads_elem hRw i hlt'
      simp only [Option.some.injEq, Addr.mk.injEq, and_true] at he
      obtain ⟨rfl, rfl⟩ := he
      obtain ⟨rfl, ls⟩ := open_Entry hrx
      obtain ⟨y0, ey0⟩ : ∃ y : Int, y = x.1 := ⟨_, rfl⟩
      obtain ⟨y1, ey1⟩ : ∃ y : ByteArray, y = x.2.1 := ⟨_, rfl⟩
      have hB : entB y0 y1.size = true := by rw [ey0, ey1]; exact ents_at d HP.out.2.1 i x hx
      have g0 : wr.cell? ⟨g, i * 2, none⟩ = some (.int .i64 y0) := by rw [ey0]; have := hcell 0 (by decide); simpa [size_Entry] using this
      have g1 : wr.cell? ⟨g, i * 2 + 1, none⟩ = some (.string y1) := by rw [ey1]; have := hcell 1 (by decide); simpa [size_Entry] using this
      have hsl : (logTo d (i + 1)).length = (logTo d i).length + (10 + y1.size) := by rw [ey1]; exact logTo_len_succ d i x hx
      obtain ⟨Z, hZ⟩ : ∃ Z, Z = (logTo d i).length := ⟨_, rfl⟩
      obtain ⟨Y, hY⟩ : ∃ Y, Y = (logTo d (i + 1)).length := ⟨_, rfl⟩
      have hle : Y ≤ l := by rw [hY, HP.out.2.2.2.2.1, HP.out.2.2.2.1]; exact logTo_le d (i + 1)
      have hq : (Y ≤ k) ↔ (i < j) := by
        constructor
        · intro h
          rcases Nat.lt_or_ge i j with h1 | h1
          · exact h1
          · have h2 := HJ.out.2 (by omega)
            have h3 := logTo_mono d (j + 1) (i - j)
            rw [show j + 1 + (i - j) = i + 1 by omega] at h3
            omega
        · intro h
          have h3 := logTo_mono d (i + 1) (j - (i + 1))
          rw [show i + 1 + (j - (i + 1)) = j by omega, ← HJ.out.1] at h3
          omega
      rw [← hZ, ← hY] at hsl
      rw [← hZ]
      have HY : Hid (Y = (logTo d (i + 1)).length) := hY
      have qF : Hid (∀ w', Calls Try.prog 10 #[.agg #[.int .i64 y0, .string y1]] w' fun e w'' => ∃ va vc, e = .returned (.tuple #[.slice va (10 + y1.size) vc, .bool true]) ∧ Below w'.heap.size w' w'') := fun w' => by
        refine (implFrame_yes y0 y1 w' hB).mono ?_
        rintro e w'' ⟨v, rfl, ho, hb⟩
        obtain ⟨a1, c1, rfl⟩ := own_slice ho
        exact ⟨a1, c1, rfl, hb⟩
      have e1 : (Z : Int) + ((10 : Int) + (y1.size : Int)) = (Y : Int) := by omega
      have e1' : (Z : Int) + ((10 + y1.size : Nat) : Int) = (Y : Int) := by omega
      have e2 : IntKind.i64.wrap (Y : Int) = (Y : Int) := wrap_i64_in _ (by omega) (by omega)
      have hbs := hbel.size
      obtain ⟨W0, hW0⟩ : ∃ W0, W0 = wr.alloc (.cells #[.int .i64 y0, .string y1] 28) := ⟨_, rfl⟩
      have bw0 : Below wr.heap.size wr W0 := by rw [hW0]; exact (Below.refl _ _).alloc (Nat.le_refl _) _
      have bW0 : Below w1.heap.size w1 W0 := hbel.trans (bw0.mono hbs)
      have HW0 : Hid (W0 = wr.alloc (.cells #[.int .i64 y0, .string y1] 28)) := hW0
      have hgz : g < wr.heap.size := hb
      clear hcell hrx hx ey0 ey1 hW0 hB hRw hZ hY hsl hb
      by_cases hij : i < j
      · have p1 : Y ≤ k := hq.2 hij
        have p2 : (Y : Int) ≤ (k : Int) := by omega
        have p3 : (i : Int) < (j : Int) := by omega
        clear hq
        go_wp2_with fail
        rw [← HW0.out]
        refine (qF.out _).mono ?_
        rintro e w9 ⟨a1, c1, rfl, hb9⟩
        have bE := bW0.trans (hb9.mono bW0.size)
        go_wp2
        go_roundw
        case rel => exact ⟨i + 1, by omega, by go_num, by rw [← HY.out], bE⟩
        case measure => simp [intOf]; omega
      · have p1 : ¬ Y ≤ k := fun h => hij (hq.1 h)
        have p2 : ¬ (Y : Int) ≤ (k : Int) := by omega
        have p3 : ¬ (i : Int) < (j : Int) := by omega
        clear hq
        go_wp2_with fail
        rw [← HW0.out]
        refine (qF.out _).mono ?_
        rintro e w9 ⟨a1, c1, rfl, hb9⟩
        have bE := bW0.trans (hb9.mono bW0.size)
        go_wp2
        go_roundw
        case rel => exact ⟨i + 1, by omega, by go_num, by rw [← HY.out], bE⟩
        case measure => simp [intOf]; omega
    · have e : i = m := by omega
      subst e
      have hmN : i = lastN i (i : Int) := by unfold lastN; split <;> (try split) <;> omega
      have qZ : Hid (Calls Try.prog 13 #[.slice (some ⟨g, 0, none⟩) i cp, .int .i64 (i : Int)] wr fun e w' => ∃ ta tc, e = .returned (.slice ta i tc) ∧ Reads (.sl shEntry) w' [.slice ta i tc] d ∧ Below wr.heap.size wr w') := by
        refine (implLast_some g 0 i cp 0 i (i : Int) d wr (HD.out wr hbel) (by omega) (fun x hx => by have := HP.out.2.2.1 x hx; omega) hmN (by omega)).mono ?_
        rintro e w' ⟨v, rfl, ho, hb⟩
        have small : SmallE d := fun x hx => by have := HP.out.2.2.1 x hx; unfold maxLen; omega
        obtain ⟨F, hF, _, ta, tc, rfl⟩ := own_entsV HP.out.1 small ho
        exact ⟨ta, tc, rfl, hF.reads, hb⟩
      clear hmN
      go_wp2_with fail
      refine qZ.out.mono ?_
      rintro e w9 ⟨ta9, tc9, rfl, hR9, hb9⟩
      have hb19 := hbel.trans (hb9.mono hbel.size)
      have qN : Hid (Calls Try.prog 11 #[.slice ta9 i tc9, .slice (some ⟨g, 0, none⟩) i cp] w9 fun e w' => e = .returned (.bool true) ∧ Below w9.heap.size w9 w') := same_true _ _ i _ _ d w9 hR9 (HD.out w9 hb19) (by omega)
      clear hR9
      go_wp2_with fail
      refine qN.out.mono ?_
      rintro e wA ⟨rfl, hbA⟩
      have hbE := hb1.trans ((hb19.trans (hbA.mono hb19.size)).mono hb1.size)
      go_wp2
      go_ret
      exact ⟨rfl, hbE⟩

theorem logLaw_any (a : Option Addr) (n cap : Nat) (zs : List Int) (w : World) (hl : zs.length = n) (hr : Rd w a zs) :
    Calls Try.prog 4 #[.slice a n cap] w fun e w' => e = .returned (.bool true) ∧ Below w.heap.size w w' := by
  by_cases hn : n ≤ 1048576
  · exact logLaw_in a n cap zs w hl hn hr
  · have hlt : (1048576 : Int) < (n : Int) := by omega
    clear hr hl
    go_enter Try.func4, Try.ntmps4
    go_wp2
    go_ret
    exact ⟨rfl, Below.refl _ _⟩

end Go.Proofs.Ytelbkamgcnmokaa

/- FlipP: The sum tells one turned byte (plain facts). -/
namespace Go.Proofs.Ytelbkamgcnmokaa
open Go.RowKit
set_option linter.unusedVariables false

theorem top_bit (q : Nat) (h : q < 2147483648) : 2147483648 ≤ q ^^^ 3988292384 := by
  have h1 : (q ^^^ 3988292384).testBit 31 = true := by
    rw [Nat.testBit_xor, Nat.testBit_lt_two_pow (show q < 2 ^ 31 by omega)]
    decide
  have h2 := Nat.ge_two_pow_of_testBit h1
  omega

theorem cstep_inj (r s : Nat) (hr : r < 4294967296) (hs : s < 4294967296) (h : cstep r = cstep s) : r = s := by
  by_cases h1 : r % 2 = 1
  · by_cases h2 : s % 2 = 1
    · rw [cstep_odd r h1, cstep_odd s h2] at h
      have h3 : r / 2 = s / 2 := by
        have := congrArg (· ^^^ 3988292384) h
        simpa [Nat.xor_assoc] using this
      omega
    · rw [cstep_odd r h1, cstep_even s h2] at h
      have := top_bit (r / 2) (by omega)
      omega
  · by_cases h2 : s % 2 = 1
    · rw [cstep_even r h1, cstep_odd s h2] at h
      have := top_bit (s / 2) (by omega)
      omega
    · rw [cstep_even r h1, cstep_even s h2] at h
      omega

theorem cits_inj : ∀ (j r s : Nat), r < 4294967296 → s < 4294967296 → cits j r = cits j s → r = s
  | 0, r, s, _, _, h => h
  | j + 1, r, s, hr, hs, h => by
    have h' : cstep (cits j r) = cstep (cits j s) := h
    exact cits_inj j r s hr hs (cstep_inj _ _ (cits_lt j r hr) (cits_lt j s hs) h')

theorem csum_same (xs ys : List Int) : ∀ k, (∀ i, i < k → xs[i]? = ys[i]?) → csum xs k = csum ys k
  | 0, _ => rfl
  | k + 1, h => by
    show cits 8 (csum xs k ^^^ (xs[k]?.getD 0).toNat) = cits 8 (csum ys k ^^^ (ys[k]?.getD 0).toNat)
    rw [csum_same xs ys k (fun i hi => h i (by omega)), h k (by omega)]

theorem xor_cancel (r a b : Nat) (h : r ^^^ a = r ^^^ b) : a = b := by
  have := congrArg (r ^^^ ·) h
  simpa [← Nat.xor_assoc] using this

theorem csum_one (xs ys : List Int) (hx : Byt xs) (hy : Byt ys) (a : Nat) (ha : xs[a]?.getD 0 ≠ ys[a]?.getD 0) (hs : ∀ i, i ≠ a → xs[i]? = ys[i]?) : ∀ r, csum xs (a + 1 + r) ≠ csum ys (a + 1 + r)
  | 0 => by
    intro h
    have h' : cits 8 (csum xs a ^^^ (xs[a]?.getD 0).toNat) = cits 8 (csum ys a ^^^ (ys[a]?.getD 0).toNat) := h
    rw [csum_same xs ys a (fun i hi => hs i (by omega))] at h'
    have bx := hx a
    have by' := hy a
    have hl := csum_lt ys hy a
    have h2 := cits_inj 8 _ _ (cxor_lt _ _ hl (by omega)) (cxor_lt _ _ hl (by omega)) h'
    have h3 := xor_cancel _ _ _ h2
    omega
  | r + 1 => by
    intro h
    have e : a + 1 + (r + 1) = (a + 1 + r) + 1 := by omega
    rw [e] at h
    have h' : cits 8 (csum xs (a + 1 + r) ^^^ (xs[a + 1 + r]?.getD 0).toNat) = cits 8 (csum ys (a + 1 + r) ^^^ (ys[a + 1 + r]?.getD 0).toNat) := h
    rw [hs (a + 1 + r) (by omega)] at h'
    have by' := hy (a + 1 + r)
    have h2 := cits_inj 8 _ _ (cxor_lt _ _ (csum_lt xs hx _) (by omega)) (cxor_lt _ _ (csum_lt ys hy _) (by omega)) h'
    rw [Nat.xor_comm, Nat.xor_comm (csum ys _)] at h2
    exact csum_one xs ys hx hy a ha hs r (xor_cancel _ _ _ h2)

/-- Two rows of bytes of one length that differ at one place have different sums. -/
theorem crc_one (xs ys : List Int) (hx : Byt xs) (hy : Byt ys) (hl : xs.length = ys.length) (a : Nat) (hal : a < xs.length) (ha : xs[a]? ≠ ys[a]?) (hs : ∀ i, i ≠ a → xs[i]? = ys[i]?) : crcI xs ≠ crcI ys := by
  have ha' : xs[a]?.getD 0 ≠ ys[a]?.getD 0 := by
    intro h
    apply ha
    rw [get_some xs a hal, get_some ys a (by omega), h]
  have h1 := csum_one xs ys hx hy a ha' hs (xs.length - (a + 1))
  rw [show a + 1 + (xs.length - (a + 1)) = xs.length by omega] at h1
  intro h
  unfold crcI at h
  rw [← hl] at h
  have h2 : csum xs xs.length ^^^ 4294967295 = csum ys xs.length ^^^ 4294967295 := by omega
  rw [Nat.xor_comm, Nat.xor_comm (csum ys _)] at h2
  exact h1 (xor_cancel _ _ _ h2)

theorem frame_get_head (x : Int) (t : List Int) (i : Nat) (h : i < 6) : (frameL x t)[i]? = (headL x t.length)[i]? := by
  unfold frameL
  rw [List.append_assoc, List.getElem?_append_left (by rw [headL_len]; exact h)]

theorem frame_get_sum (x : Int) (t : List Int) (i : Nat) (h : i < 4) : (frameL x t)[6 + i]? = (pdig (crcI (headL x t.length ++ t)) 4 4)[i]? := by
  unfold frameL
  rw [List.append_assoc, List.getElem?_append_right (by rw [headL_len]; omega), headL_len, List.getElem?_append_left (by rw [pdig_len]; omega)]
  congr 1
  omega

theorem frame_get_text (x : Int) (t : List Int) (i : Nat) : (frameL x t)[10 + i]? = t[i]? := by
  unfold frameL
  have e : (headL x t.length ++ pdig (crcI (headL x t.length ++ t)) 4 4).length = 10 := by rw [List.length_append, headL_len, pdig_len]
  rw [List.getElem?_append_right (by rw [e]; omega), e]
  congr 1
  omega

/-- Two records with texts of one length do not differ at just one place. -/
theorem frame_one (x x' : Int) (t t' : List Int) (hx : Byt t) (hy : Byt t') (hl : t.length = t'.length) (p : Nat) (hp : p < 10 + t.length) (hne : (frameL x t)[p]? ≠ (frameL x' t')[p]?) (hs : ∀ i, i ≠ p → (frameL x t)[i]? = (frameL x' t')[i]?) : False := by
  have lA : (headL x t.length ++ t).length = 6 + t.length := by rw [List.length_append, headL_len]
  have lB : (headL x' t'.length ++ t').length = 6 + t.length := by rw [List.length_append, headL_len, hl]
  have gA : ∀ i, i < 6 → (headL x t.length ++ t)[i]? = (frameL x t)[i]? := fun i hi => by rw [frame_get_head x t i hi, List.getElem?_append_left (by rw [headL_len]; exact hi)]
  have gB : ∀ i, i < 6 → (headL x' t'.length ++ t')[i]? = (frameL x' t')[i]? := fun i hi => by rw [frame_get_head x' t' i hi, List.getElem?_append_left (by rw [headL_len]; exact hi)]
  have tA : ∀ i, (headL x t.length ++ t)[6 + i]? = (frameL x t)[10 + i]? := fun i => by rw [frame_get_text x t i, List.getElem?_append_right (by rw [headL_len]; omega), headL_len]; congr 1; omega
  have tB : ∀ i, (headL x' t'.length ++ t')[6 + i]? = (frameL x' t')[10 + i]? := fun i => by rw [frame_get_text x' t' i, List.getElem?_append_right (by rw [headL_len]; omega), headL_len]; congr 1; omega
  have bA : Byt (headL x t.length ++ t) := byt_append (byt_headL _ _) hx
  have bB : Byt (headL x' t'.length ++ t') := byt_append (byt_headL _ _) hy
  have eq : ∀ i, (i < 6 → i ≠ p) → (6 ≤ i → i + 4 ≠ p) → (headL x t.length ++ t)[i]? = (headL x' t'.length ++ t')[i]? := by
    intro i h1 h2
    by_cases hi : i < 6
    · rw [gA i hi, gB i hi, hs i (h1 hi)]
    · obtain ⟨j, rfl⟩ : ∃ j, i = 6 + j := ⟨i - 6, by omega⟩
      rw [tA j, tB j, hs (10 + j) (by have := h2 (by omega); omega)]
  by_cases hmid : 6 ≤ p ∧ p < 10
  · have e : headL x t.length ++ t = headL x' t'.length ++ t' := List.ext_getElem? fun i => eq i (by omega) (by omega)
    obtain ⟨j, rfl⟩ : ∃ j, p = 6 + j := ⟨p - 6, by omega⟩
    apply hne
    rw [frame_get_sum x t j (by omega), frame_get_sum x' t' j (by omega), e]
  · have hc : crcI (headL x t.length ++ t) = crcI (headL x' t'.length ++ t') := by
      refine pdig4_inj _ _ (crcI_bd _ bA) (crcI_bd _ bB) (List.ext_getElem? fun i => ?_)
      by_cases hi : i < 4
      · rw [← frame_get_sum x t i hi, ← frame_get_sum x' t' i hi, hs (6 + i) (by omega)]
      · rw [List.getElem?_eq_none (by rw [pdig_len]; omega), List.getElem?_eq_none (by rw [pdig_len]; omega)]
    by_cases hlow : p < 6
    · exact crc_one _ _ bA bB (by rw [lA, lB]) p (by rw [lA]; omega) (by rw [gA p hlow, gB p hlow]; exact hne) (fun i hi => eq i (fun _ => hi) (by omega)) hc
    · obtain ⟨j, rfl⟩ : ∃ j, p = 10 + j := ⟨p - 10, by omega⟩
      exact crc_one _ _ bA bB (by rw [lA, lB]) (6 + j) (by rw [lA]; omega) (by rw [tA j, tB j]; exact hne) (fun i hi => eq i (by omega) (by omega)) hc

end Go.Proofs.Ytelbkamgcnmokaa

/- FlipS: What Scan finds where a record has one turned byte (plain facts). -/
namespace Go.Proofs.Ytelbkamgcnmokaa
open Go.RowKit
set_option linter.unusedVariables false

theorem fr_zero (zs : List Int) (hz : Byt zs) (p s : Nat) (hs : gnum zs p 2 = (s : Int)) (hp : p + 10 + s ≤ zs.length) (h : (frAns zs (p : Int)).2.2.2 = 0) : frameL (gnum zs (p + 2) 4) (cutL zs (p + 10) s) = cutL zs p (10 + s) := by
  have eP : ((p : Int)).toNat = p := by omega
  have es : ((s : Int)).toNat = s := by omega
  unfold frAns at h
  rw [eP, hs, es] at h
  split at h
  · simp at h
  split at h
  · simp at h
  split at h
  · simp at h
  split at h
  · simp at h
  split at h
  · simp at h
  split at h
  · rename_i h6
    exact (frame_at zs hz p s hp hs).2 h6
  · simp at h

/-- A record with one byte turned behind its length is not read. -/
theorem fr_turned (A F Q : List Int) (x : Int) (t : List Int) (hz : Byt (A ++ (F ++ Q))) (ht : Byt t) (htl : t.length ≤ 1000) (hl : F.length = 10 + t.length) (q : Nat) (hq2 : 2 ≤ q) (hq : q < 10 + t.length)
    (hne : (frameL x t)[q]? ≠ F[q]?) (hs : ∀ i, i ≠ q → (frameL x t)[i]? = F[i]?) : (frAns (A ++ (F ++ Q)) (A.length : Int)).2.2.2 ≠ 0 := by
  intro h
  have hcut : cutL (A ++ (F ++ Q)) A.length (10 + t.length) = F := by
    unfold cutL
    rw [List.drop_left, ← hl, List.take_left]
  have hlen : A.length + 10 + t.length ≤ (A ++ (F ++ Q)).length := by rw [List.length_append, List.length_append, hl]; omega
  have g1 : gnum (A ++ (F ++ Q)) A.length 2 = (t.length : Int) := by
    have e := gnum_cutP (A ++ (F ++ Q)) A.length (10 + t.length) 0 2 (by omega)
    rw [hcut] at e
    have e2 : gnum F 0 2 = gnum (frameL x t) 0 2 := by
      show (0 * 256 + F[0 + 0]?.getD 0) * 256 + F[0 + 1]?.getD 0 = (0 * 256 + (frameL x t)[0 + 0]?.getD 0) * 256 + (frameL x t)[0 + 1]?.getD 0
      rw [hs (0 + 0) (by omega), hs (0 + 1) (by omega)]
    rw [e2, frame_size x t (by omega)] at e
    exact e.symm
  have h1 := fr_zero (A ++ (F ++ Q)) hz A.length t.length g1 hlen h
  rw [hcut] at h1
  refine frame_one x (gnum (A ++ (F ++ Q)) (A.length + 2) 4) t (cutL (A ++ (F ++ Q)) (A.length + 10) t.length) ht (byt_cutL _ hz _ _) (cutL_len _ _ _ (by omega)).symm q hq ?_ ?_
  · rw [h1]; exact hne
  · intro i hi; rw [h1]; exact hs i hi

theorem ents_takeB : ∀ (l : List EntD) (p : Option Int) (k : Nat), entsFrom p l = true → entsFrom p (l.take k) = true
  | [], _, _, _ => by simp [entsFrom]
  | _ :: _, _, 0, _ => rfl
  | y :: l, p, k + 1, h => by
    have h' : (entB y.1 (ByteArray.size y.2.1) && linkB p y.1 && entsFrom (some y.1) l) = true := h
    simp only [Bool.and_eq_true] at h'
    show (entB y.1 (ByteArray.size y.2.1) && linkB p y.1 && entsFrom (some y.1) (l.take k)) = true
    rw [h'.1.1, h'.1.2, ents_takeB l (some y.1) k h'.2]
    rfl

/-- The records ahead are read, whatever lies behind them. -/
theorem scan_pre (d : List EntD) (hd : entsB d = true) (Q : List Int) (hQ : Byt Q) : ∀ (r i f : Nat), r + i = d.length → r < f → scanL (logL d ++ Q) f (d.take i) (logTo d i).length = scanL (logL d ++ Q) (f - r) d (logL d).length
  | 0, i, f, hr, hf => by
    rw [List.take_of_length_le (by omega), logTo_all d i (by omega)]
    rfl
  | r + 1, i, f, hr, hf => by
    have hz : Byt (logL d ++ Q) := byt_append (byt_logL d) hQ
    have hi : i < d.length := by omega
    obtain ⟨x, ex⟩ : ∃ x, d[i] = x := ⟨_, rfl⟩
    have hx : d[i]? = some x := by rw [← ex]; exact List.getElem?_eq_getElem hi
    have hok := (entB_iff _ _).1 (ents_at d hd i x hx)
    have hs := log_split d i x hx
    have hsu := logTo_succ d i x hx
    have hrl := recL_len x
    have hsl : (logTo d (i + 1)).length = (logTo d i).length + (10 + ByteArray.size x.2.1) := by rw [hsu, List.length_append, hrl]
    have hle := logTo_le d (i + 1)
    have hc : cutL (logL d ++ Q) (logTo d i).length (10 + ByteArray.size x.2.1) = frameL x.1 (sB x.2.1) := by
      unfold cutL
      rw [hs, List.append_assoc, List.append_assoc, List.drop_left, ← hrl, List.take_left]
      rfl
    have ha := fr_rec _ hz (logTo d i).length x.1 (sB x.2.1) (ByteArray.size x.2.1) (sB_len _) hc (by rw [List.length_append]; omega) hok.2.2.1 hok.2.2.2 hok.1 hok.2.1
    rw [str_sB] at ha
    have hg : goesOn (logL d ++ Q) (d.take i) (logTo d i).length = true := by
      unfold goesOn
      rw [ha, lastNum_take d i (by omega)]
      simp [ents_link d hd i x hx]
    have hrec : recOf (logL d ++ Q) (logTo d i).length = x := by unfold recOf; rw [ha]
    have hnx : ((frAns (logL d ++ Q) ((logTo d i).length : Int)).2.2.1).toNat = (logTo d (i + 1)).length := by rw [ha]; show ((((logTo d i).length : Int) + 10 + (ByteArray.size x.2.1 : Int))).toNat = _; omega
    have htk : d.take i ++ [x] = d.take (i + 1) := by rw [List.take_succ_eq_append_getElem hi, ex]
    rw [scanL_on _ f _ _ hg (by omega), hrec, hnx, htk, scan_pre d hd Q hQ r (i + 1) (f - 1) (by omega) (by omega)]
    congr 1
    omega

/-- A turned byte behind the length of a record ends the reading ahead of that record. -/
theorem scan_flip (d : List EntD) (hd : entsB d = true) (F Q : List Int) (x : Int) (t : List Int) (hF : Byt F) (hQ : Byt Q) (ht : Byt t) (htl : t.length ≤ 1000) (hl : F.length = 10 + t.length) (q : Nat) (hq2 : 2 ≤ q) (hq : q < 10 + t.length)
    (hne : (frameL x t)[q]? ≠ F[q]?) (hs : ∀ i, i ≠ q → (frameL x t)[i]? = F[i]?) : scanA (logL d ++ (F ++ Q)) = (d, (logL d).length) := by
  have hFQ : Byt (F ++ Q) := byt_append hF hQ
  have hlen : d.length ≤ (logL d).length := by
    have : ∀ l : List EntD, l.length ≤ (logL l).length := by
      intro l
      induction l with
      | nil => simp
      | cons a l ih =>
        have h3 := recL_len a
        have e : logL (a :: l) = recL a ++ logL l := by simp [logL]
        rw [e, List.length_append, List.length_cons]
        omega
    exact this d
  have h := scan_pre d hd (F ++ Q) hFQ d.length 0 ((logL d ++ (F ++ Q)).length + 1) (by omega) (by rw [List.length_append]; omega)
  rw [logTo_zero, List.take_zero] at h
  unfold scanA
  refine h.trans ?_
  exact scanL_end _ _ _ _ (not_on _ _ _ (fr_turned (logL d) F Q x t (byt_append (byt_logL d) hFQ) ht htl hl q hq2 hq hne hs))

end Go.Proofs.Ytelbkamgcnmokaa

/- FlT: What FnFlip does behind the turned byte, as lemmas of their own. By program (flipgen2.py). -/
namespace Go.Proofs.Ytelbkamgcnmokaa
open Go.RowKit
set_option linter.unusedVariables false
set_option linter.unusedSimpArgs false

def tailFrom (n : Nat) : Code → Option Code
  | .seq a b => match a with
    | .region q _ _ => if q = n then some (.seq a b) else tailFrom n b
    | _ => tailFrom n b
  | _ => none

set_option maxRecDepth 1000000 in
set_option maxHeartbeats 16000000 in
theorem flip_tail1 (w w1 w7 : World) (d : List EntD) (g m cp k mr : Nat) (va : Option Addr) (la vc gf cf ysz lr BA BF : Nat) (LA F LR : List Int) (u0 : Value) (u1 : Value) (u2 : Value) (u4 : Value) (u5 : Value) (u6 : Value) (u7 : Value) (u8 : Value) (u11 : Value) (u13 : Value) (u14 : Value) (u15 : Value) (u16 : Value) (u17 : Value) (u18 : Value) (u19 : Value) (u20 : Value) (u21 : Value) (u22 : Value) (u23 : Value) (u24 : Value) (u25 : Value) (u26 : Value) (u27 : Value) (u28 : Value) (u29 : Value) (u30 : Value) (u31 : Value) (u32 : Value) (u33 : Value) (u34 : Value) (u35 : Value) (u36 : Value) (u37 : Value) (u38 : Value) (u39 : Value) (u40 : Value) (u41 : Value) (u42 : Value) (u43 : Value) (u44 : Value) (u45 : Value) (u46 : Value) (u47 : Value) (u48 : Value) (u49 : Value) (u50 : Value) (u51 : Value) (u52 : Value) (u53 : Value) (u54 : Value) (u55 : Value) (u56 : Value) (u57 : Value) (u58 : Value) (u59 : Value) (u60 : Value) (u61 : Value) (u62 : Value) (u63 : Value) (u64 : Value) (u65 : Value) (u66 : Value) (u67 : Value) (u68 : Value) (u69 : Value) (u70 : Value) (u71 : Value) (u72 : Value) (u73 : Value) (u74 : Value) (u75 : Value) (u76 : Value) (u77 : Value) (u78 : Value) (u79 : Value) (u80 : Value) (u81 : Value) (u82 : Value) (u83 : Value) (u84 : Value) (u85 : Value) (u86 : Value) (u87 : Value) (u88 : Value) (u89 : Value) (u90 : Value) (u91 : Value) (u92 : Value) (u93 : Value) (u94 : Value) (u95 : Value) (u96 : Value) (u97 : Value) (u98 : Value) (u99 : Value) (u100 : Value) (u101 : Value) (u102 : Value) (u103 : Value) (u104 : Value) (u105 : Value) (u106 : Value) (u107 : Value) (u108 : Value) (u109 : Value) (u110 : Value) (u111 : Value) (u112 : Value) (u113 : Value) (u114 : Value) (u115 : Value) (u116 : Value) (u117 : Value)
    (hm6 : m ≤ 6) (hkm : k < m) (hmcp : m ≤ cp) (hcpm : cp ≤ 2 ^ 63 - 1) (s1 : (k : Int) + 1 = (cp : Int)) (s5 : m - cp = mr) (hla6 : la ≤ 180) (hlr6 : lr ≤ 180) (hy20 : ysz ≤ 20)
    (HP : Hid (d.length = m ∧ entsB d = true ∧ (∀ x ∈ d, ByteArray.size x.2.1 ≤ 20)))
    (HD : Hid (∀ w', Below w1.heap.size w1 w' → Reads (.sl shEntry) w' [.slice (some ⟨g, 0, none⟩) m cp] d))
    (HA : Hid (la = LA.length)) (HFl : Hid (F.length = 10 + ysz)) (HRR : Hid (lr = LR.length)) (HBy : Hid (Byt (LA ++ (F ++ LR)))) (HSC : Hid (scanA (LA ++ (F ++ LR)) = (d.take k, la)))
    (HO7 : Hid (w7.ownsRow BF 5 1 (.slice (some ⟨gf, 0, none⟩) (10 + ysz) cf) (10 + ysz) (F.map (Value.int .u8)))) (HOA : Hid (w7.ownsRow BA 5 1 (.slice va la vc) la (LA.map (Value.int .u8))))
    (qR : Hid (∀ w' ad c', Reads (.sl shEntry) w' [.slice ad mr c'] (d.drop cp) → Calls Try.prog 9 #[.slice ad mr c'] w' fun e w'' => ∃ va vc, e = .returned (.tuple #[.slice va lr vc, .bool true]) ∧ w''.ownsRow w'.heap.size 5 1 (.slice va lr vc) lr (LR.map (Value.int .u8)) ∧ Below w'.heap.size w' w''))
    (hb1 : Below w.heap.size w w1) (b17 : Below w1.heap.size w1 w7) :
    Code.wp Try.prog ((Try.f3.body.bind (tailFrom 15)).getD .skip) (bodyPost Try.prog Try.f3 fun e w' => e = .returned (.bool true) ∧ Below w.heap.size w w') ⟨#[u0, u1, u2, .slice (some ⟨g, 0, none⟩) m cp, u4, u5, u6, u7, u8, .int .i64 (k : Int), .slice va la vc, u11, .slice (some ⟨gf, 0, none⟩) (10 + ysz) cf, u13, u14, u15, u16, u17, u18, u19, u20, u21, u22, u23, u24, u25, u26, u27, u28, u29, u30, u31, u32, u33, u34, u35, u36, u37, u38, u39, u40, u41, u42, u43, u44, u45, u46, u47, u48, u49, u50, u51, u52, u53, u54, u55, u56, u57, u58, u59, u60, u61, u62, u63, u64, u65, u66, u67, u68, u69, u70, u71, u72, u73, u74, u75, u76, u77, u78, u79, u80, u81, u82, u83, u84, u85, u86, u87, u88, u89, u90, u91, u92, u93, u94, u95, u96, u97, u98, u99, u100, u101, u102, u103, u104, u105, u106, u107, u108, u109, u110, u111, u112, u113, u114, u115, u116, u117], []⟩ w7 := by
  obtain ⟨i0, hi, hz0, hz1, hz2⟩ := info_parts Try.infoB
  have s2 : IntKind.i64.wrap (cp : Int) = (cp : Int) := wrap_i64_in _ (by omega) (by omega)
  have s3 : cp ≤ m := by omega
  have s4 : cp ≤ cp := by omega
  have hk1 : k ≤ cp := by omega
  have hk2 : ¬ cp < k := by omega
  have hki : (k : Int) < (m : Int) := by omega
  have oA7 := HOA.out
  have rR : Reads (.sl shEntry) w7 [.slice (some ⟨g, 0, none⟩) mr 0] (d.drop cp) := by
    have h9 : mr = 0 := by omega
    have h8 : List.drop (α := EntD) cp d = [] := List.drop_eq_nil_of_le (by rw [HP.out.1]; omega)
    have h7 : Reads (.sl shEntry) w7 [.slice (some ⟨g, 0, none⟩) mr 0] ([] : List EntD) := by rw [h9]; exact reads_none w7 _ _ (Nat.zero_le _)
    exact h8.symm ▸ h7
  clear HOA
  conv => arg 2; whnf
  go_wp2_with fail
  refine (qR.out _ _ _ rR).mono ?_
  rintro e w8 ⟨vr, cr, rfl, ho8, hb8⟩
  have oA8 := own_later oA7 hb8
  have oF8 := own_later HO7.out hb8
  have b18 := b17.trans (hb8.mono b17.size)
  have hown00 := World.ownsRow_lit (base := w8.heap.size) (e := 5) (size := 1) w8 #[] 0 (Nat.le_refl _) (Nat.zero_le _) rfl
  have bA : Below w8.heap.size w8 (w8.alloc (.cells #[] 5)) := (Below.refl _ _).alloc (Nat.le_refl _) _
  have sA := src_later (src_own oA8) bA
  have HSF : Hid (∀ w', Below w8.heap.size w8 w' → Src w' (.slice (some ⟨gf, 0, none⟩) (10 + ysz) cf) (10 + ysz) (F.map (Value.int .u8))) := fun w' h => src_later (src_own oF8) h
  have HSR : Hid (∀ w', Below w8.heap.size w8 w' → Src w' (.slice vr lr cr) lr (LR.map (Value.int .u8))) := fun w' h => src_later (src_own ho8) h
  clear oA7 oA8 oF8 ho8 rR hb8 b17 HO7
  go_wp2_with (at_builtin; refine wpList_append_src rfl _ _ 22 rfl w8.heap.size 5 i0 (.int .u8 0) 1 1 Try.underlying22 hi hz0 hz1 hz2 rfl (by decide) (.slice (some ⟨w8.heap.size, 0, none⟩) 0 0) 0 [] rfl hown00 (.slice va la vc) la (LA.map (Value.int .u8)) rfl ?c0 sA (ints_oneCell _ _) ?c3 ?c4 (by simp) ?_)
  case c0 => rw [List.length_map, ← HA.out]; omega
  case c3 => unfold maxLen; omega
  case c4 => omega
  intro v9 w9 o9 gr9
  have b9 : Below w8.heap.size w8 w9 := bA.grown gr9 (by simp) (fun y h => by simp [Value.ownBlock] at h; omega)
  have o9' : w9.ownsRow w8.heap.size 5 1 v9 la (LA.map (Value.int .u8)) := by simpa using o9
  have sF := HSF.out w9 b9
  clear gr9 o9 sA hown00
  go_wp2_with (at_builtin; refine wpList_append_src rfl _ _ 22 rfl w8.heap.size 5 i0 (.int .u8 0) 1 1 Try.underlying22 hi hz0 hz1 hz2 rfl (by decide) v9 la (LA.map (Value.int .u8)) rfl o9' (.slice (some ⟨gf, 0, none⟩) (10 + ysz) cf) (10 + ysz) (F.map (Value.int .u8)) rfl ?c0 sF (ints_oneCell _ _) ?c3 ?c4 b9.size ?_)
  case c0 => rw [List.length_map, HFl.out]; omega
  case c3 => unfold maxLen; omega
  case c4 => omega
  intro v10 w10 o10 gr10
  have b10 : Below w8.heap.size w8 w10 := b9.grown gr10 b9.size (fun y h => (o9'.lt y h).1)
  have sR := HSR.out w10 b10
  clear gr10 o9' sF
  go_wp2_with (at_builtin; refine wpList_append_src rfl _ _ 22 rfl w8.heap.size 5 i0 (.int .u8 0) 1 1 Try.underlying22 hi hz0 hz1 hz2 rfl (by decide) v10 (la + (10 + ysz)) (LA.map (Value.int .u8) ++ F.map (Value.int .u8)) rfl o10 (.slice vr lr cr) lr (LR.map (Value.int .u8)) rfl ?c0 sR (ints_oneCell _ _) ?c3 ?c4 b10.size ?_)
  case c0 => rw [List.length_map, ← HRR.out]; omega
  case c3 => unfold maxLen; omega
  case c4 => omega
  intro v11 w11 o11 gr11
  have b11 : Below w8.heap.size w8 w11 := b10.grown gr11 b10.size (fun y h => (o10.lt y h).1)
  have o12 : w11.ownsRow w8.heap.size 5 1 v11 (la + (10 + ysz) + lr) ((LA ++ (F ++ LR)).map (Value.int .u8)) := by
    rw [List.map_append, List.map_append]; first | exact o11 | (rw [← List.append_assoc]; exact o11)
  have b111 := b18.trans (b11.mono b18.size)
  obtain ⟨ax, cx, rfl⟩ := own_slice o12
  have hlen : (LA ++ (F ++ LR)).length = la + (10 + ysz) + lr := by rw [List.length_append, List.length_append, ← HA.out, HFl.out, ← HRR.out]; omega
  have qZ : Hid (Calls Try.prog 6 #[.slice ax (la + (10 + ysz) + lr) cx] w11 fun e w'' => ∃ ta tc, e = .returned (.tuple #[.slice ta k tc, .int .i64 (la : Int)]) ∧ Reads (.sl shEntry) w'' [.slice ta k tc] (d.take k) ∧ Below w11.heap.size w11 w'') := by
    have hrd : Reads (.sl .u8) w11 [.slice ax (la + (10 + ysz) + lr) cx] (LA ++ (F ++ LR)) := by
      obtain ⟨FF, hFF, _⟩ := own_row hlen HBy.out o12
      exact hFF.reads
    refine (implScan_any _ _ w11 hrd (by rw [hlen]; omega)).mono ?_
    rintro e w'' ⟨u, rfl, ho, hk9, hb⟩
    rw [HSC.out] at ho ⊢
    have hdl : List.length (α := EntD) (d.take k) = k := by rw [List.length_take, HP.out.1]; omega
    have ho2' : w''.ownsRow w11.heap.size 28 2 u (List.length (α := EntD) (d.take k)) (cellsE (d.take k)) := ho
    have ho' : w''.ownsRow w11.heap.size 28 2 u k (cellsE (d.take k)) := by rwa [hdl] at ho2'
    have small : SmallE (d.take k) := fun x hx => by have := HP.out.2.2 x (List.mem_of_mem_take hx); unfold maxLen; omega
    obtain ⟨FF, hF, _, ua, uc, rfl⟩ := own_entsV hdl small ho'
    exact ⟨ua, uc, rfl, hF.reads, hb⟩
  clear gr11 o10 o11 o12 sR hlen
  go_wp2_with fail
  refine qZ.out.mono ?_
  rintro e w12 ⟨ta, tc, rfl, hR12, hb12⟩
  have b112 := b111.trans (hb12.mono b111.size)
  have qM : Hid (Calls Try.prog 11 #[.slice ta k tc, .slice (some ⟨g, 0, none⟩) k cp] w12 fun e w' => e = .returned (.bool true) ∧ Below w12.heap.size w12 w') := same_true _ _ k _ _ (d.take k) w12 hR12 (reads_front (HD.out w12 b112) k (by omega)) (by omega)
  clear hR12
  go_wp2_with fail
  refine qM.out.mono ?_
  rintro e w13 ⟨rfl, hb13'⟩
  have bE := hb1.trans ((b112.trans (hb13'.mono b112.size)).mono hb1.size)
  go_wp2
  go_ret
  exact ⟨rfl, bE⟩

set_option maxRecDepth 1000000 in
set_option maxHeartbeats 16000000 in
theorem flip_tail2 (w w1 w7 : World) (d : List EntD) (g m cp k K1 mr : Nat) (va : Option Addr) (la vc gf cf ysz lr BA BF : Nat) (LA F LR : List Int) (u0 : Value) (u1 : Value) (u2 : Value) (u4 : Value) (u5 : Value) (u6 : Value) (u7 : Value) (u8 : Value) (u11 : Value) (u13 : Value) (u14 : Value) (u15 : Value) (u16 : Value) (u17 : Value) (u18 : Value) (u19 : Value) (u20 : Value) (u21 : Value) (u22 : Value) (u23 : Value) (u24 : Value) (u25 : Value) (u26 : Value) (u27 : Value) (u28 : Value) (u29 : Value) (u30 : Value) (u31 : Value) (u32 : Value) (u33 : Value) (u34 : Value) (u35 : Value) (u36 : Value) (u37 : Value) (u38 : Value) (u39 : Value) (u40 : Value) (u41 : Value) (u42 : Value) (u43 : Value) (u44 : Value) (u45 : Value) (u46 : Value) (u47 : Value) (u48 : Value) (u49 : Value) (u50 : Value) (u51 : Value) (u52 : Value) (u53 : Value) (u54 : Value) (u55 : Value) (u56 : Value) (u57 : Value) (u58 : Value) (u59 : Value) (u60 : Value) (u61 : Value) (u62 : Value) (u63 : Value) (u64 : Value) (u65 : Value) (u66 : Value) (u67 : Value) (u68 : Value) (u69 : Value) (u70 : Value) (u71 : Value) (u72 : Value) (u73 : Value) (u74 : Value) (u75 : Value) (u76 : Value) (u77 : Value) (u78 : Value) (u79 : Value) (u80 : Value) (u81 : Value) (u82 : Value) (u83 : Value) (u84 : Value) (u85 : Value) (u86 : Value) (u87 : Value) (u88 : Value) (u89 : Value) (u90 : Value) (u91 : Value) (u92 : Value) (u93 : Value) (u94 : Value) (u95 : Value) (u96 : Value) (u97 : Value) (u98 : Value) (u99 : Value) (u100 : Value) (u101 : Value) (u102 : Value) (u103 : Value) (u104 : Value) (u105 : Value) (u106 : Value) (u107 : Value) (u108 : Value) (u109 : Value) (u110 : Value) (u111 : Value) (u112 : Value) (u113 : Value) (u114 : Value) (u115 : Value) (u116 : Value) (u117 : Value)
    (hcK : ¬ cp = K1) (hm6 : m ≤ 6) (hkm : k < m) (hmcp : m ≤ cp) (hcpm : cp ≤ 2 ^ 63 - 1) (s1 : (k : Int) + 1 = (K1 : Int)) (s5 : m - K1 = mr) (hla6 : la ≤ 180) (hlr6 : lr ≤ 180) (hy20 : ysz ≤ 20)
    (HP : Hid (d.length = m ∧ entsB d = true ∧ (∀ x ∈ d, ByteArray.size x.2.1 ≤ 20)))
    (HD : Hid (∀ w', Below w1.heap.size w1 w' → Reads (.sl shEntry) w' [.slice (some ⟨g, 0, none⟩) m cp] d))
    (HA : Hid (la = LA.length)) (HFl : Hid (F.length = 10 + ysz)) (HRR : Hid (lr = LR.length)) (HBy : Hid (Byt (LA ++ (F ++ LR)))) (HSC : Hid (scanA (LA ++ (F ++ LR)) = (d.take k, la)))
    (HO7 : Hid (w7.ownsRow BF 5 1 (.slice (some ⟨gf, 0, none⟩) (10 + ysz) cf) (10 + ysz) (F.map (Value.int .u8)))) (HOA : Hid (w7.ownsRow BA 5 1 (.slice va la vc) la (LA.map (Value.int .u8))))
    (qR : Hid (∀ w' ad c', Reads (.sl shEntry) w' [.slice ad mr c'] (d.drop K1) → Calls Try.prog 9 #[.slice ad mr c'] w' fun e w'' => ∃ va vc, e = .returned (.tuple #[.slice va lr vc, .bool true]) ∧ w''.ownsRow w'.heap.size 5 1 (.slice va lr vc) lr (LR.map (Value.int .u8)) ∧ Below w'.heap.size w' w''))
    (hb1 : Below w.heap.size w w1) (b17 : Below w1.heap.size w1 w7) :
    Code.wp Try.prog ((Try.f3.body.bind (tailFrom 15)).getD .skip) (bodyPost Try.prog Try.f3 fun e w' => e = .returned (.bool true) ∧ Below w.heap.size w w') ⟨#[u0, u1, u2, .slice (some ⟨g, 0, none⟩) m cp, u4, u5, u6, u7, u8, .int .i64 (k : Int), .slice va la vc, u11, .slice (some ⟨gf, 0, none⟩) (10 + ysz) cf, u13, u14, u15, u16, u17, u18, u19, u20, u21, u22, u23, u24, u25, u26, u27, u28, u29, u30, u31, u32, u33, u34, u35, u36, u37, u38, u39, u40, u41, u42, u43, u44, u45, u46, u47, u48, u49, u50, u51, u52, u53, u54, u55, u56, u57, u58, u59, u60, u61, u62, u63, u64, u65, u66, u67, u68, u69, u70, u71, u72, u73, u74, u75, u76, u77, u78, u79, u80, u81, u82, u83, u84, u85, u86, u87, u88, u89, u90, u91, u92, u93, u94, u95, u96, u97, u98, u99, u100, u101, u102, u103, u104, u105, u106, u107, u108, u109, u110, u111, u112, u113, u114, u115, u116, u117], []⟩ w7 := by
  obtain ⟨i0, hi, hz0, hz1, hz2⟩ := info_parts Try.infoB
  have s2 : IntKind.i64.wrap (K1 : Int) = (K1 : Int) := wrap_i64_in _ (by omega) (by omega)
  have s3 : K1 ≤ m := by omega
  have s4 : K1 ≤ cp := by omega
  have hk1 : k ≤ cp := by omega
  have hk2 : ¬ cp < k := by omega
  have hki : (k : Int) < (m : Int) := by omega
  have oA7 := HOA.out
  have rR : Reads (.sl shEntry) w7 [.slice (some ⟨g, 0 + K1 * 2, none⟩) mr (cp - K1)] (d.drop K1) := by
    have := reads_drop (HD.out w7 b17) K1 (by omega)
    rw [show m - K1 = mr by omega] at this
    exact this
  rw [Nat.zero_add] at rR
  clear HOA
  conv => arg 2; whnf
  go_wp2_with fail
  refine (qR.out _ _ _ rR).mono ?_
  rintro e w8 ⟨vr, cr, rfl, ho8, hb8⟩
  have oA8 := own_later oA7 hb8
  have oF8 := own_later HO7.out hb8
  have b18 := b17.trans (hb8.mono b17.size)
  have hown00 := World.ownsRow_lit (base := w8.heap.size) (e := 5) (size := 1) w8 #[] 0 (Nat.le_refl _) (Nat.zero_le _) rfl
  have bA : Below w8.heap.size w8 (w8.alloc (.cells #[] 5)) := (Below.refl _ _).alloc (Nat.le_refl _) _
  have sA := src_later (src_own oA8) bA
  have HSF : Hid (∀ w', Below w8.heap.size w8 w' → Src w' (.slice (some ⟨gf, 0, none⟩) (10 + ysz) cf) (10 + ysz) (F.map (Value.int .u8))) := fun w' h => src_later (src_own oF8) h
  have HSR : Hid (∀ w', Below w8.heap.size w8 w' → Src w' (.slice vr lr cr) lr (LR.map (Value.int .u8))) := fun w' h => src_later (src_own ho8) h
  clear oA7 oA8 oF8 ho8 rR hb8 b17 HO7
  go_wp2_with (at_builtin; refine wpList_append_src rfl _ _ 22 rfl w8.heap.size 5 i0 (.int .u8 0) 1 1 Try.underlying22 hi hz0 hz1 hz2 rfl (by decide) (.slice (some ⟨w8.heap.size, 0, none⟩) 0 0) 0 [] rfl hown00 (.slice va la vc) la (LA.map (Value.int .u8)) rfl ?c0 sA (ints_oneCell _ _) ?c3 ?c4 (by simp) ?_)
  case c0 => rw [List.length_map, ← HA.out]; omega
  case c3 => unfold maxLen; omega
  case c4 => omega
  intro v9 w9 o9 gr9
  have b9 : Below w8.heap.size w8 w9 := bA.grown gr9 (by simp) (fun y h => by simp [Value.ownBlock] at h; omega)
  have o9' : w9.ownsRow w8.heap.size 5 1 v9 la (LA.map (Value.int .u8)) := by simpa using o9
  have sF := HSF.out w9 b9
  clear gr9 o9 sA hown00
  go_wp2_with (at_builtin; refine wpList_append_src rfl _ _ 22 rfl w8.heap.size 5 i0 (.int .u8 0) 1 1 Try.underlying22 hi hz0 hz1 hz2 rfl (by decide) v9 la (LA.map (Value.int .u8)) rfl o9' (.slice (some ⟨gf, 0, none⟩) (10 + ysz) cf) (10 + ysz) (F.map (Value.int .u8)) rfl ?c0 sF (ints_oneCell _ _) ?c3 ?c4 b9.size ?_)
  case c0 => rw [List.length_map, HFl.out]; omega
  case c3 => unfold maxLen; omega
  case c4 => omega
  intro v10 w10 o10 gr10
  have b10 : Below w8.heap.size w8 w10 := b9.grown gr10 b9.size (fun y h => (o9'.lt y h).1)
  have sR := HSR.out w10 b10
  clear gr10 o9' sF
  go_wp2_with (at_builtin; refine wpList_append_src rfl _ _ 22 rfl w8.heap.size 5 i0 (.int .u8 0) 1 1 Try.underlying22 hi hz0 hz1 hz2 rfl (by decide) v10 (la + (10 + ysz)) (LA.map (Value.int .u8) ++ F.map (Value.int .u8)) rfl o10 (.slice vr lr cr) lr (LR.map (Value.int .u8)) rfl ?c0 sR (ints_oneCell _ _) ?c3 ?c4 b10.size ?_)
  case c0 => rw [List.length_map, ← HRR.out]; omega
  case c3 => unfold maxLen; omega
  case c4 => omega
  intro v11 w11 o11 gr11
  have b11 : Below w8.heap.size w8 w11 := b10.grown gr11 b10.size (fun y h => (o10.lt y h).1)
  have o12 : w11.ownsRow w8.heap.size 5 1 v11 (la + (10 + ysz) + lr) ((LA ++ (F ++ LR)).map (Value.int .u8)) := by
    rw [List.map_append, List.map_append]; first | exact o11 | (rw [← List.append_assoc]; exact o11)
  have b111 := b18.trans (b11.mono b18.size)
  obtain ⟨ax, cx, rfl⟩ := own_slice o12
  have hlen : (LA ++ (F ++ LR)).length = la + (10 + ysz) + lr := by rw [List.length_append, List.length_append, ← HA.out, HFl.out, ← HRR.out]; omega
  have qZ : Hid (Calls Try.prog 6 #[.slice ax (la + (10 + ysz) + lr) cx] w11 fun e w'' => ∃ ta tc, e = .returned (.tuple #[.slice ta k tc, .int .i64 (la : Int)]) ∧ Reads (.sl shEntry) w'' [.slice ta k tc] (d.take k) ∧ Below w11.heap.size w11 w'') := by
    have hrd : Reads (.sl .u8) w11 [.slice ax (la + (10 + ysz) + lr) cx] (LA ++ (F ++ LR)) := by
      obtain ⟨FF, hFF, _⟩ := own_row hlen HBy.out o12
      exact hFF.reads
    refine (implScan_any _ _ w11 hrd (by rw [hlen]; omega)).mono ?_
    rintro e w'' ⟨u, rfl, ho, hk9, hb⟩
    rw [HSC.out] at ho ⊢
    have hdl : List.length (α := EntD) (d.take k) = k := by rw [List.length_take, HP.out.1]; omega
    have ho2' : w''.ownsRow w11.heap.size 28 2 u (List.length (α := EntD) (d.take k)) (cellsE (d.take k)) := ho
    have ho' : w''.ownsRow w11.heap.size 28 2 u k (cellsE (d.take k)) := by rwa [hdl] at ho2'
    have small : SmallE (d.take k) := fun x hx => by have := HP.out.2.2 x (List.mem_of_mem_take hx); unfold maxLen; omega
    obtain ⟨FF, hF, _, ua, uc, rfl⟩ := own_entsV hdl small ho'
    exact ⟨ua, uc, rfl, hF.reads, hb⟩
  clear gr11 o10 o11 o12 sR hlen
  go_wp2_with fail
  refine qZ.out.mono ?_
  rintro e w12 ⟨ta, tc, rfl, hR12, hb12⟩
  have b112 := b111.trans (hb12.mono b111.size)
  have qM : Hid (Calls Try.prog 11 #[.slice ta k tc, .slice (some ⟨g, 0, none⟩) k cp] w12 fun e w' => e = .returned (.bool true) ∧ Below w12.heap.size w12 w') := same_true _ _ k _ _ (d.take k) w12 hR12 (reads_front (HD.out w12 b112) k (by omega)) (by omega)
  clear hR12
  go_wp2_with fail
  refine qM.out.mono ?_
  rintro e w13 ⟨rfl, hb13'⟩
  have bE := hb1.trans ((b112.trans (hb13'.mono b112.size)).mono hb1.size)
  go_wp2
  go_ret
  exact ⟨rfl, bE⟩

end Go.Proofs.Ytelbkamgcnmokaa
