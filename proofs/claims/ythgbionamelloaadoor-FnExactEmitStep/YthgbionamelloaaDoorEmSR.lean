/-
  Bytes 8: the library's Repeat at one byte and a count from 1 to 3.
-/
import Derived.Test.YthgbionamelloaaDoorEmSI
import Derived.Lib.MakeNoZero
import Derived.Laws.CopyRow
namespace Go.Proofs.YthgbionamelloaaDoor
open Go.RowKit
set_option linter.unusedVariables false
set_option linter.unusedSimpArgs false

theorem below_setRowE {B b : Nat} {a w : World} {cs : Array Value} (h : Below B a w) (hb : B ≤ b) : Below B a (w.setRow b cs) :=
  ⟨h.os, h.tape, h.output, by show _ ≤ (w.setRow b cs).heap.size; simp [World.setRow]; exact h.size, fun i hi => (setRow_other w b i _ (by omega)).trans (h.block i hi)⟩

/-- One byte copied within a row. -/
theorem copy_one (w : World) (g k a s t : Nat) (l : List Value) (hh : w.heap[g]? = some (.cells l.toArray 5 (0, 0))) (hk : k < l.length) (h0 : l[0]? = some (.int .u8 8)) (hm : Nat.min s a = 1) :
    (Builtin.copy_ #[26, 26] 3 #[.slice (some ⟨g, k, none⟩) a a, .slice (some ⟨g, 0, none⟩) s t]).run Tryd.prog w = .ok (.int .i64 1) (w.setRow g (l.take k ++ [Value.int .u8 8] ++ l.drop (k + 1)).toArray) := by
  have h := run_copy_row (P := Tryd.prog) w 26 26 3 5 g k a a ⟨g, 0, none⟩ s t l.toArray 5 [Value.int .u8 8] Tryd.underlying26 (by kernel_rfl) hh hm.symm (fun j v hv => by
    have hj : j = 0 := by have := (List.getElem?_eq_some_iff.1 hv).1; simp at this; exact this
    subst hj
    have e : v = .int .u8 8 := by simpa using hv.symm
    subst e
    exact box_cellF (j := 0) hh (by simpa using h0)) (by simp; omega) (by simp [Value.oneCell'])
  exact h

theorem copied_at {l : List Value} {k i : Nat} (hk : k < l.length) (h : ∀ i, i < k → l[i]? = some (.int .u8 8)) (hi : i < k + 1) : (l.take k ++ [Value.int .u8 8] ++ l.drop (k + 1))[i]? = some (.int .u8 8) := by
  rw [List.append_assoc]
  by_cases e : i < k
  · rw [List.getElem?_append_left (by rw [List.length_take]; omega), List.getElem?_take_of_lt e]
    exact h i e
  · have : i = k := by omega
    subst this
    rw [List.getElem?_append_right (by rw [List.length_take]; omega), List.length_take]
    have : i - min i l.length = 0 := by omega
    rw [this]; rfl
theorem copied_len {l : List Value} {k : Nat} (hk : k < l.length) : (l.take k ++ [Value.int .u8 8] ++ l.drop (k + 1)).length = l.length := by
  simp; omega

theorem owC_eights {w : World} {B g n : Nat} {l : List Value} (hB : B ≤ g) (hh : w.heap[g]? = some (.cells l.toArray 5 (0, 0))) (hn : n ≤ 3) (h : ∀ i, i < n → l[i]? = some (.int .u8 8)) : OwC w B (.slice (some ⟨g, 0, none⟩) n n) (List.replicate n 8) [g] := by
  have h1 := owC_row (d := List.replicate n 8) (cap := n) hB hh (by simp) (by unfold maxLen; omega) (fun i hi => by
    have hi2 : i < n := by simpa using hi
    rw [List.getElem?_toArray, h i hi2, List.getElem?_replicate, if_pos hi2]; rfl) (fun x hx => by
    rw [List.eq_of_mem_replicate hx]; omega)
  rw [List.length_replicate] at h1
  exact h1

theorem mul_any (n : Int) (hn : n = 1 ∨ n = 2 ∨ n = 3) (w : World) :
    Calls Tryd.prog 40 #[.int .u64 1, .int .u64 n] w fun e w' => e = .returned (.tuple #[.int .u64 0, .int .u64 n]) ∧ w' = w := by
  rcases hn with rfl | rfl | rfl
  all_goals (
    go_enter Tryd.func40, Tryd.ntmps40
    go_wp2
    go_ret2
    exact ⟨rfl, rfl⟩)

set_option maxRecDepth 100000 in
set_option maxHeartbeats 2000000 in
theorem repeat_any (n : Nat) (z : Int) (hn : (n = 1 ∧ z = 1) ∨ (n = 2 ∧ z = 2) ∨ (n = 3 ∧ z = 3)) (g : Nat) (w : World) (hg : w.heap[g]? = some (.cells #[.int .u8 8] 5 (0, 0))) :
    Calls Tryd.prog 34 #[.slice (some ⟨g, 0, none⟩) 1 1, .int .i64 z] w fun e w' => ∃ v F, e = .returned v ∧ OwC w' w.heap.size v (List.replicate n 8) F ∧ F.Nodup ∧ Below w.heap.size w w' := by
  obtain ⟨cs, hrunM, hle, hmax⟩ := Lib.run_makeNoZero (P := Tryd.prog) w #[3] 26 5 Tryd.underlying26 n (by omega)
  have hcall : (callFunc 41 #[.int .i64 z]).run Tryd.prog w = .ok (.value (.slice (some ⟨w.heap.size, 0, none⟩) n cs.size)) ((w.alloc (.cells cs 5)).drewN 2) := by
    have hz : z = (n : Int) := by omega
    rw [hz, run_callFunc_extern Tryd.func41 (by kernel_rfl) (by kernel_rfl) (by kernel_rfl) (e := Extern.BytealgMakeNoZero.makeNoZero #[3] #[26]) (by kernel_rfl), hrunM]
    rfl
  obtain ⟨W1, hW1⟩ : ∃ W, W = (w.alloc (.cells cs 5)).drewN 2 := ⟨_, rfl⟩
  have hb1 : Below w.heap.size w W1 := by rw [hW1]; exact below_drewN ((Below.refl _ _).alloc (Nat.le_refl _) _) 2
  have hh1 : W1.heap[w.heap.size]? = some (.cells cs 5 (0, 0)) := by rw [hW1]; exact heap_alloc_new w _
  rw [← hW1] at hcall
  have hcp := run_copy_row (P := Tryd.prog) W1 26 26 3 5 w.heap.size 0 n n ⟨g, 0, none⟩ 1 1 cs 5 [Value.int .u8 8] Tryd.underlying26 (by kernel_rfl) hh1 (by rcases hn with ⟨rfl, rfl⟩ | ⟨rfl, rfl⟩ | ⟨rfl, rfl⟩ <;> rfl) (fun j v hv => by
    have hj : j = 0 := by have := (List.getElem?_eq_some_iff.1 hv).1; simp at this; exact this
    subst hj
    have e : v = .int .u8 8 := by simpa using hv.symm
    subst e
    exact box_cellF (j := 0) ((hb1.block g (Array.getElem?_eq_some_iff.1 hg).1).trans hg) rfl) (by simp; omega) (by simp [Value.oneCell'])
  have h1n : z ≤ (cs.size : Int) := by omega
  obtain ⟨W2, hW2⟩ : ∃ W, W = W1.setRow w.heap.size (cs.toList.take 0 ++ [Value.int .u8 8] ++ cs.toList.drop (0 + 1)).toArray := ⟨_, rfl⟩
  have HW2 : Hid (W2 = _) := hW2
  have hcp' : (Builtin.copy_ #[26, 26] 3 #[.slice (some ⟨w.heap.size, 0, none⟩) n n, .slice (some ⟨g, 0, none⟩) 1 1]).run Tryd.prog W1 = .ok (.int .i64 1) W2 := by rw [hW2]; exact hcp
  have hh2 : W2.heap[w.heap.size]? = some (.cells (Value.int .u8 8 :: cs.toList.drop 1).toArray 5 (0, 0)) := by rw [hW2]; exact setRow_heap _ _ _ _ _ _ hh1
  have hb2 : Below w.heap.size w W2 := by rw [hW2]; exact below_setRowE hb1 (Nat.le_refl _)
  have hm : cs.size ≤ maxLen := hmax (by unfold maxLen; omega)
  obtain ⟨cur, hcur⟩ : ∃ l, l = Value.int .u8 8 :: cs.toList.drop 1 := ⟨_, rfl⟩
  have hcl : cur.length = cs.size := by rw [hcur]; simp; omega
  have hc0 : cur[0]? = some (.int .u8 8) := by rw [hcur]; rfl
  rw [← hcur] at hh2
  have H2 : Hid (W2.heap[w.heap.size]? = some (.cells cur.toArray 5 (0, 0)) ∧ Below w.heap.size w W2 ∧ cs.size ≤ maxLen ∧ n ≤ cs.size) := ⟨hh2, hb2, hm, hle⟩
  have HC : Hid (cur.length = cs.size ∧ cur[0]? = some (.int .u8 8)) := ⟨hcl, hc0⟩
  clear hcp hW2 hrunM hW1 hb1 hh1 hh2 hb2 hm hcur hcl hc0 hmax hle hg
  rcases hn with ⟨rfl, rfl⟩ | ⟨rfl, rfl⟩ | ⟨rfl, rfl⟩
  · go_enter Tryd.func34, Tryd.ntmps34
    go_wp2_with fail
    refine (mul_any 1 (.inl rfl) _).mono ?_
    rintro e w1 ⟨rfl, rfl⟩
    go_wp2
    go_loopw [10] (fun b wr => b = .int .i64 1 ∧ wr = W2) (fun _ _ => 0)
    case atStart => exact ⟨rfl, rfl⟩
    case round =>
      obtain ⟨rfl, rfl⟩ := hrel
      go_wp2
      go_ret
      exact ⟨_, _, rfl, owC_eights (Nat.le_refl _) H2.out.1 (by omega) (fun i hi => by rw [show i = 0 by omega]; exact HC.out.2), by simp, H2.out.2.1⟩
  · go_enter Tryd.func34, Tryd.ntmps34
    go_wp2_with fail
    refine (mul_any 2 (.inr (.inl rfl)) _).mono ?_
    rintro e w1 ⟨rfl, rfl⟩
    go_wp2
    go_loopw [10] (fun b wr => ∃ k : Nat, 1 ≤ k ∧ k ≤ 2 ∧ b = .int .i64 k ∧ Hid ((∃ l, wr.heap[w1.heap.size]? = some (.cells (List.toArray l) 5 (0, 0)) ∧ 2 ≤ l.length ∧ ∀ i, i < k → l[i]? = some (.int .u8 8)) ∧ Below w1.heap.size w1 wr)) (fun b _ => 2 - (intOf b).toNat)
    case atStart => exact ⟨1, Nat.le_refl _, by omega, rfl, ⟨cur, H2.out.1, by rw [HC.out.1]; exact H2.out.2.2.2, fun i hi => by rw [show i = 0 by omega]; exact HC.out.2⟩, H2.out.2.1⟩
    case round =>
      obtain ⟨k, hk1, hk2, rfl, HI⟩ := hrel
      by_cases hk : k = 2
      · subst hk
        go_wp2
        go_ret
        obtain ⟨⟨l, r1, r2, r3⟩, hb⟩ := HI.out
        exact ⟨_, _, rfl, owC_eights (Nat.le_refl _) r1 (by omega) r3, by simp, hb⟩
      · obtain rfl : k = 1 := by omega
        clear hk hk1 hk2
        obtain ⟨⟨l, r1, r2, r3⟩, hb⟩ := HI.out
        have hcq := copy_one wr.drew w1.heap.size 1 1 1 2 l r1 (by omega) (r3 0 (by omega)) rfl
        obtain ⟨V, hV⟩ : ∃ V, V = wr.drew.setRow w1.heap.size (l.take 1 ++ [Value.int .u8 8] ++ l.drop (1 + 1)).toArray := ⟨_, rfl⟩
        rw [← hV] at hcq
        have HN : Hid ((∃ l, V.heap[w1.heap.size]? = some (.cells (List.toArray l) 5 (0, 0)) ∧ 2 ≤ l.length ∧ ∀ i, i < 2 → l[i]? = some (.int .u8 8)) ∧ Below w1.heap.size w1 V) := by
          refine ⟨⟨_, by rw [hV]; exact setRow_heap _ _ _ _ _ _ r1, ?_, fun i hi => copied_at (by omega) r3 hi⟩, by rw [hV]; exact below_setRowE hb.drew (Nat.le_refl _)⟩
          rw [copied_len (by omega)]; exact r2
        clear r1 r2 r3 hb hV
        have hmin : min (1 : Int) 2 = 1 := by decide
        go_wp2
        go_region
        all_goals (
          go_wp2
          go_roundw
          case rel => exact ⟨2, by omega, by omega, by go_num, HN.out⟩
          case measure => simp [intOf])
  · go_enter Tryd.func34, Tryd.ntmps34
    go_wp2_with fail
    refine (mul_any 3 (.inr (.inr rfl)) _).mono ?_
    rintro e w1 ⟨rfl, rfl⟩
    go_wp2
    go_loopw [10] (fun b wr => ∃ k : Nat, 1 ≤ k ∧ k ≤ 3 ∧ b = .int .i64 k ∧ Hid ((∃ l, wr.heap[w1.heap.size]? = some (.cells (List.toArray l) 5 (0, 0)) ∧ 3 ≤ l.length ∧ ∀ i, i < k → l[i]? = some (.int .u8 8)) ∧ Below w1.heap.size w1 wr)) (fun b _ => 3 - (intOf b).toNat)
    case atStart => exact ⟨1, Nat.le_refl _, by omega, rfl, ⟨cur, H2.out.1, by rw [HC.out.1]; exact H2.out.2.2.2, fun i hi => by rw [show i = 0 by omega]; exact HC.out.2⟩, H2.out.2.1⟩
    case round =>
      obtain ⟨k, hk1, hk2, rfl, HI⟩ := hrel
      by_cases hk : k = 3
      · subst hk
        go_wp2
        go_ret
        obtain ⟨⟨l, r1, r2, r3⟩, hb⟩ := HI.out
        exact ⟨_, _, rfl, owC_eights (Nat.le_refl _) r1 (by omega) r3, by simp, hb⟩
      rcases (show k = 1 ∨ k = 2 by omega) with rfl | rfl
      · clear hk hk1 hk2
        obtain ⟨⟨l, r1, r2, r3⟩, hb⟩ := HI.out
        have hcq := copy_one wr.drew w1.heap.size 1 2 1 3 l r1 (by omega) (r3 0 (by omega)) rfl
        obtain ⟨V, hV⟩ : ∃ V, V = wr.drew.setRow w1.heap.size (l.take 1 ++ [Value.int .u8 8] ++ l.drop (1 + 1)).toArray := ⟨_, rfl⟩
        rw [← hV] at hcq
        have HN : Hid ((∃ l, V.heap[w1.heap.size]? = some (.cells (List.toArray l) 5 (0, 0)) ∧ 3 ≤ l.length ∧ ∀ i, i < 2 → l[i]? = some (.int .u8 8)) ∧ Below w1.heap.size w1 V) := by
          refine ⟨⟨_, by rw [hV]; exact setRow_heap _ _ _ _ _ _ r1, ?_, fun i hi => copied_at (by omega) r3 hi⟩, by rw [hV]; exact below_setRowE hb.drew (Nat.le_refl _)⟩
          rw [copied_len (by omega)]; exact r2
        clear r1 r2 r3 hb hV
        have hmin : min (1 : Int) 3 = 1 := by decide
        go_wp2
        go_region
        all_goals (
          go_wp2
          go_roundw
          case rel => exact ⟨2, by omega, by omega, by go_num, HN.out⟩
          case measure => simp [intOf])
      · clear hk hk1 hk2
        obtain ⟨⟨l, r1, r2, r3⟩, hb⟩ := HI.out
        have hcq := copy_one wr.drew w1.heap.size 2 1 2 3 l r1 (by omega) (r3 0 (by omega)) rfl
        obtain ⟨V, hV⟩ : ∃ V, V = wr.drew.setRow w1.heap.size (l.take 2 ++ [Value.int .u8 8] ++ l.drop (2 + 1)).toArray := ⟨_, rfl⟩
        rw [← hV] at hcq
        have HN : Hid ((∃ l, V.heap[w1.heap.size]? = some (.cells (List.toArray l) 5 (0, 0)) ∧ 3 ≤ l.length ∧ ∀ i, i < 3 → l[i]? = some (.int .u8 8)) ∧ Below w1.heap.size w1 V) := by
          refine ⟨⟨_, by rw [hV]; exact setRow_heap _ _ _ _ _ _ r1, ?_, fun i hi => copied_at (by omega) r3 hi⟩, by rw [hV]; exact below_setRowE hb.drew (Nat.le_refl _)⟩
          rw [copied_len (by omega)]; exact r2
        clear r1 r2 r3 hb hV
        have hmin : min (2 : Int) 3 = 2 := by decide
        go_wp2
        go_region
        all_goals (
          go_wp2
          go_roundw
          case rel => exact ⟨3, by omega, by omega, by go_num, HN.out⟩
          case measure => simp [intOf])

end Go.Proofs.YthgbionamelloaaDoor
