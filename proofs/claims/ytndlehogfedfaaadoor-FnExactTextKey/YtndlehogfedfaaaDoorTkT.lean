/-
  TextKey of the program. By program (tktgen.py).
-/
import Derived.Test.YtndlehogfedfaaaDoorTkI
import Derived.Test.YtndlehogfedfaaaDoorTkJ
import Derived.Test.YtndlehogfedfaaaDoorTkM
import Derived.Test.YtndlehogfedfaaaDoorKtI
namespace Go.Proofs.YtndlehogfedfaaaDoor
open Go.RowKit
set_option linter.unusedVariables false
set_option linter.unusedSimpArgs false
set_option maxRecDepth 100000

section
variable (w : World) {ops : Array Oper} {rest : List Oper} {o : Oper} {a : Act} {Q : Exit → Act → World → Prop}
theorem wpK_lookS (hg : o.guard = none) (m x : Operand) (hop : o.op = Op.lookup 47 m x true) (b n : Nat) (l : List (ByteArray × Int × Int))
    (hm : a.eval m = .map (some b)) (hown : MapK w b n l) (s : ByteArray) (hx : a.eval x = .string s) (hs : s.size ≤ maxLen) (k r : Int) (hf : fK l s = some (k, r))
    (hK : wpList Tryd.prog ops Q rest (a.put o.dst (.tuple #[.agg #[.int .i64 k, .int .i64 r], .bool true])) w) : wpList Tryd.prog ops Q (o :: rest) a w := by
  refine wpK_look w hg m x hop b n l hm hown s hx hs ?_
  rw [hf]
  exact hK
theorem wpK_lookN (hg : o.guard = none) (m x : Operand) (hop : o.op = Op.lookup 47 m x true) (b n : Nat) (l : List (ByteArray × Int × Int))
    (hm : a.eval m = .map (some b)) (hown : MapK w b n l) (s : ByteArray) (hx : a.eval x = .string s) (hs : s.size ≤ maxLen) (hf : fK l s = none)
    (hK : wpList Tryd.prog ops Q rest (a.put o.dst (.tuple #[.agg #[.int .i64 0, .int .i64 0], .bool false])) w) : wpList Tryd.prog ops Q (o :: rest) a w := by
  refine wpK_look w hg m x hop b n l hm hown s hx hs ?_
  rw [hf]
  exact hK
end

/-- What TextKey answers: the right key that has the text, or nothing where there is none. -/
def TkA (s : ByteArray) (k r : Int) (b : Bool) : Prop := (b = true ∧ kok k r = true ∧ ktx k r = s) ∨ (b = false ∧ k = 0 ∧ r = 0 ∧ ∀ k' r', kok k' r' = true → ktx k' r' ≠ s)
theorem tk_same {s : ByteArray} {k r k' r' : Int} {b b' : Bool} (h : TkA s k r b) (h' : TkA s k' r' b') : k = k' ∧ r = r' ∧ b = b' := by
  rcases h with ⟨rfl, h1, h2⟩ | ⟨rfl, rfl, rfl, h1⟩
  · rcases h' with ⟨rfl, h3, h4⟩ | ⟨rfl, rfl, rfl, h3⟩
    · obtain ⟨e1, e2⟩ := ktx_inj h1 h3 (h2.trans h4.symm)
      exact ⟨e1, e2, rfl⟩
    · exact absurd h2 (h3 _ _ h1)
  · rcases h' with ⟨rfl, h3, h4⟩ | ⟨rfl, rfl, rfl, h3⟩
    · exact absurd h4 (h1 _ _ h3)
    · exact ⟨rfl, rfl, rfl⟩

set_option maxHeartbeats 8000000 in
theorem implTk_some (s : ByteArray) (w : World) (hs : s.size ≤ maxLen) (hN : Nams w) (hB : NamB w) (k r : Int) (hf : fK (namesK 13) s = some (k, r)) :
    Calls Tryd.prog 10 #[.string s] w fun e w' => ∃ k r b, e = .returned (.tuple #[.agg #[.int .i64 k, .int .i64 r], .bool b]) ∧ Below w.heap.size w w' ∧ TkA s k r b := by
  obtain ⟨W1, hW1⟩ : ∃ U, U = w.alloc (.cells #[.int .i64 0, .int .i64 0] 25) := ⟨_, rfl⟩
  have b1 : Below w.heap.size w W1 := by rw [hW1]; exact (Below.refl _ _).alloc (Nat.le_refl _) _
  have i1 : W1.heap[w.heap.size]? = some (.cells #[.int .i64 0, .int .i64 0] 25 (0, 0)) := by rw [hW1]; exact heap_alloc_new w _
  have z1 : W1.heap.size = w.heap.size + 1 := by rw [hW1]; simp
  have HW : Hid (W1 = _) := hW1
  have HI : Hid (∀ w', Below W1.heap.size W1 w' → w'.heap[w.heap.size]? = some (.cells #[.int .i64 0, .int .i64 0] 25 (0, 0))) := fun w' h => (h.block _ (by omega)).trans i1
  have HB1 : Hid (Below w.heap.size w W1 ∧ W1.heap.size = w.heap.size + 1) := ⟨b1, z1⟩
  have hN1 := hN.later b1
  have QM : Hid (Calls Tryd.prog 23 #[] W1 fun e w' => e = .returned (.map (some W1.heap.size)) ∧ MapK w' W1.heap.size 14 (namesK 13) ∧ Below W1.heap.size W1 w') := byName_any W1 (hB.later b1)
  obtain ⟨hk, ht⟩ := fK_right hf
  have hk : kok k r = true := hk
  have ht : ktx k r = s := ht
  have QK : Hid (∀ w', Calls Tryd.prog 25 #[.agg #[.int .i64 k, .int .i64 r]] w' fun e w'' => e = .returned (.bool true) ∧ Below w'.heap.size w' w'') := fun w' => by have := implKok_any k r w'; rw [hk] at this; exact this
  have QT : Hid (∀ w', Below W1.heap.size W1 w' → Calls Tryd.prog 8 #[.agg #[.int .i64 k, .int .i64 r]] w' fun e w'' => e = .returned (.string s) ∧ Below w'.heap.size w' w'') := fun w' h => by have := implKt_any k r w' (hN1.later h); rw [ht] at this; exact this
  have HA : Hid (TkA s k r true) := .inl ⟨rfl, hk, ht⟩
  have HFK : Hid (fK (namesK 13) s = some (k, r)) := hf
  have hne : (s.toList == s.toList) = true := by simp
  clear hW1 b1 i1 hB hN hN1 hk ht hf z1
  go_enter Tryd.func10, Tryd.ntmps10
  go_wp2_with fail
  rw [← HW.out]
  refine (QM.out).mono ?_
  rintro e w2 ⟨rfl, hM, hb2⟩
  have HM : Hid (MapK w2 W1.heap.size 14 (namesK 13)) := hM
  have HB2 : Hid (Below W1.heap.size W1 w2) := hb2
  clear hM hb2 QM
  go_wp2_with (refine wpK_lookS _ rfl _ _ rfl _ 14 (namesK 13) rfl HM.out s rfl hs k r HFK.out ?_)
  go_wp2_with fail
  obtain ⟨W3, hW3⟩ : ∃ U, U = w2.alloc (.cells #[.int .i64 k, .int .i64 r] 25) := ⟨_, rfl⟩
  have b3 : Below W1.heap.size W1 W3 := by rw [hW3]; exact HB2.out.alloc HB2.out.size _
  have i3 : W3.heap[w2.heap.size]? = some (.cells #[.int .i64 k, .int .i64 r] 25 (0, 0)) := by rw [hW3]; exact heap_alloc_new w2 _
  have z3 : W3.heap.size = w2.heap.size + 1 := by rw [hW3]; simp
  rw [← hW3]
  clear hW3
  refine (QK.out _).mono ?_
  rintro e w4 ⟨rfl, hb4⟩
  have hz4 := hb4.size
  have zl : w2.heap.size < w4.heap.size := by omega
  have i4 := (hb4.block _ (by omega)).trans i3
  have y0 : w4.cell? ⟨w2.heap.size, 0, none⟩ = some (.int .i64 k) := box_cell i4 rfl
  have y1 : w4.cell? ⟨w2.heap.size, 1, none⟩ = some (.int .i64 r) := box_cell i4 rfl
  have b4 : Below W1.heap.size W1 w4 := b3.trans (hb4.mono b3.size)
  go_wp2_with fail
  clear y0 y1
  refine (QT.out _ b4).mono ?_
  rintro e w5 ⟨rfl, hb5⟩
  have hz5 := hb5.size
  have zl5 : w2.heap.size < w5.heap.size := by omega
  have i5 := (hb5.block _ (by omega)).trans i4
  have y0 : w5.cell? ⟨w2.heap.size, 0, none⟩ = some (.int .i64 k) := box_cell i5 rfl
  have y1 : w5.cell? ⟨w2.heap.size, 1, none⟩ = some (.int .i64 r) := box_cell i5 rfl
  have b5 : Below W1.heap.size W1 w5 := b4.trans (hb5.mono b4.size)
  have i6 := HI.out _ b5
  have HB : Hid (Below w.heap.size w w5) := HB1.out.1.trans (b5.mono HB1.out.1.size)
  clear b3 b4 b5 hb4 hb5 i3 i4 i5
  have HLD : (loadVar 25 ⟨w.heap.size, 0, none⟩).run Tryd.prog (w5.setRow w.heap.size #[.int .i64 k, .int .i64 r]) = .ok (.agg #[.int .i64 k, .int .i64 r]) (w5.setRow w.heap.size #[.int .i64 k, .int .i64 r]) := run_loadVar_row _ _ _ _ _ _ _ (setRow_heap _ _ _ _ _ _ i6) Tryd.underlying25 rfl (by kernel_rfl)
  have HF : Hid (Below w.heap.size w (w5.setRow w.heap.size #[.int .i64 k, .int .i64 r])) := below_setRow HB.out (Nat.le_refl _) _
  go_wp2_with (refine wpList_store_row rfl _ _ _ rfl _ _ rfl rfl _ _ i6 (by kernel_rfl) rfl (by simp [Value.oneCell']) ?_)
  (try simp only [Exit.inBlock, Exit.then])
  (try go_wp2)
  refine bodyPost_ret (by simp [results, Tryd.results10, asAddr, Act.put, HLD]; try rfl) rfl ?_
  exact ⟨k, r, true, rfl, HF.out, HA.out⟩

set_option maxHeartbeats 8000000 in
theorem implTk_none (s : ByteArray) (w : World) (hs : s.size ≤ maxLen) (hT : Tabs w) (hN : Nams w) (hB : NamB w) (hf : fK (namesK 13) s = none) :
    Calls Tryd.prog 10 #[.string s] w fun e w' => ∃ k r b, e = .returned (.tuple #[.agg #[.int .i64 k, .int .i64 r], .bool b]) ∧ Below w.heap.size w w' ∧ TkA s k r b := by
  obtain ⟨W1, hW1⟩ : ∃ U, U = w.alloc (.cells #[.int .i64 0, .int .i64 0] 25) := ⟨_, rfl⟩
  have b1 : Below w.heap.size w W1 := by rw [hW1]; exact (Below.refl _ _).alloc (Nat.le_refl _) _
  have i1 : W1.heap[w.heap.size]? = some (.cells #[.int .i64 0, .int .i64 0] 25 (0, 0)) := by rw [hW1]; exact heap_alloc_new w _
  have z1 : W1.heap.size = w.heap.size + 1 := by rw [hW1]; simp
  have HW : Hid (W1 = _) := hW1
  have HI : Hid (∀ w', Below W1.heap.size W1 w' → w'.heap[w.heap.size]? = some (.cells #[.int .i64 0, .int .i64 0] 25 (0, 0))) := fun w' h => (h.block _ (by omega)).trans i1
  have HB1 : Hid (Below w.heap.size w W1 ∧ W1.heap.size = w.heap.size + 1) := ⟨b1, z1⟩
  have hN1 := hN.later b1
  have QM : Hid (Calls Tryd.prog 23 #[] W1 fun e w' => e = .returned (.map (some W1.heap.size)) ∧ MapK w' W1.heap.size 14 (namesK 13) ∧ Below W1.heap.size W1 w') := byName_any W1 (hB.later b1)
  have hT1 := hT.later b1
  have hkos : ∀ k' r', kok k' r' = true → ktx k' r' = s → kosF s = (k', r') := fun k' r' h e => by subst e; exact kos_right h hf
  obtain ⟨k, hk⟩ : ∃ k, k = (kosF s).1 := ⟨_, rfl⟩
  obtain ⟨r, hr⟩ : ∃ r, r = (kosF s).2 := ⟨_, rfl⟩
  have hkr : kosF s = (k, r) := by rw [hk, hr]
  have QS : Hid (∀ w', Below W1.heap.size W1 w' → Calls Tryd.prog 24 #[.string s] w' fun e w'' => e = .returned (.agg #[.int .i64 k, .int .i64 r]) ∧ Below w'.heap.size w' w'') := fun w' h => by rw [hk, hr]; exact implKos_any s w' hs (hT1.later h)
  have QK : Hid (∀ w', Calls Tryd.prog 25 #[.agg #[.int .i64 k, .int .i64 r]] w' fun e w'' => e = .returned (.bool (kok k r)) ∧ Below w'.heap.size w' w'') := fun w' => implKok_any k r w'
  have QT : Hid (∀ w', Below W1.heap.size W1 w' → Calls Tryd.prog 8 #[.agg #[.int .i64 k, .int .i64 r]] w' fun e w'' => e = .returned (.string (ktx k r)) ∧ Below w'.heap.size w' w'') := fun w' h => implKt_any k r w' (hN1.later h)
  have HNO : Hid (¬ (kok k r = true ∧ ktx k r = s) → TkA s 0 0 false) := fun h => .inr ⟨rfl, rfl, rfl, fun k' r' h1 h2 => by
    have e := hkos k' r' h1 h2
    rw [hkr] at e
    obtain ⟨rfl, rfl⟩ := Prod.mk.inj e
    exact h ⟨h1, h2⟩⟩
  have HFK : Hid (fK (namesK 13) s = none) := hf
  obtain ⟨T, hTT⟩ : ∃ T, T = ktx k r := ⟨_, rfl⟩
  rw [← hTT] at QT HNO
  have HTT : Hid (T = ktx k r) := hTT
  obtain ⟨B, hBB⟩ : ∃ B, B = kok k r := ⟨_, rfl⟩
  rw [← hBB] at QK HNO
  have HBB : Hid (B = kok k r) := hBB
  clear hW1 b1 i1 hB hN hN1 hf z1 hT hT1 hkos hk hr hkr hTT hBB
  go_enter Tryd.func10, Tryd.ntmps10
  go_wp2_with fail
  rw [← HW.out]
  refine (QM.out).mono ?_
  rintro e w2 ⟨rfl, hM, hb2⟩
  have HM : Hid (MapK w2 W1.heap.size 14 (namesK 13)) := hM
  have HB2 : Hid (Below W1.heap.size W1 w2) := hb2
  clear hM hb2 QM
  go_wp2_with (refine wpK_lookN _ rfl _ _ rfl _ 14 (namesK 13) rfl HM.out s rfl hs HFK.out ?_)
  go_wp2_with fail
  obtain ⟨W3, hW3⟩ : ∃ U, U = w2.alloc (.cells #[.int .i64 0, .int .i64 0] 25) := ⟨_, rfl⟩
  have b3 : Below W1.heap.size W1 W3 := by rw [hW3]; exact HB2.out.alloc HB2.out.size _
  have i3 : W3.heap[w2.heap.size]? = some (.cells #[.int .i64 0, .int .i64 0] 25 (0, 0)) := by rw [hW3]; exact heap_alloc_new w2 _
  have z3 : W3.heap.size = w2.heap.size + 1 := by rw [hW3]; simp
  rw [← hW3]
  clear hW3
  refine (QS.out _ b3).mono ?_
  rintro e w4 ⟨rfl, hb4⟩
  have hz4 := hb4.size
  have hq : W1.heap.size ≤ w2.heap.size := HB2.out.size
  have i4 := (hb4.block _ (by omega)).trans i3
  have b4 : Below W1.heap.size W1 w4 := b3.trans (hb4.mono b3.size)
  clear b3 i3
  have b5 : Below W1.heap.size W1 (w4.setRow w2.heap.size #[.int .i64 k, .int .i64 r]) := below_setRow b4 hq _
  have i5 : (w4.setRow w2.heap.size #[.int .i64 k, .int .i64 r]).heap[w2.heap.size]? = some (.cells #[.int .i64 k, .int .i64 r] 25 (0, 0)) := setRow_heap _ _ _ _ _ _ i4
  have z5 : (w4.setRow w2.heap.size #[.int .i64 k, .int .i64 r]).heap.size = w4.heap.size := by simp [World.setRow]
  have zl : w2.heap.size < (w4.setRow w2.heap.size #[.int .i64 k, .int .i64 r]).heap.size := by omega
  have y0 : (w4.setRow w2.heap.size #[.int .i64 k, .int .i64 r]).cell? ⟨w2.heap.size, 0, none⟩ = some (.int .i64 k) := box_cell i5 rfl
  have y1 : (w4.setRow w2.heap.size #[.int .i64 k, .int .i64 r]).cell? ⟨w2.heap.size, 1, none⟩ = some (.int .i64 r) := box_cell i5 rfl
  go_wp2_with (refine wpList_store_row rfl _ _ _ rfl _ _ rfl rfl _ _ i4 (by kernel_rfl) rfl (by simp [Value.oneCell']) ?_)
  (try simp only [Exit.inBlock, Exit.then])
  (try go_wp2_with fail)
  obtain ⟨W5, hW5⟩ : ∃ U, U = w4.setRow w2.heap.size #[.int .i64 k, .int .i64 r] := ⟨_, rfl⟩
  rw [← hW5] at b5 i5 z5 ⊢
  clear hW5 b4 i4 hb4 y0 y1 zl
  refine (QK.out _).mono ?_
  rintro e w6 ⟨rfl, hb6⟩
  have hz6 := hb6.size
  have b6 : Below W1.heap.size W1 w6 := b5.trans (hb6.mono b5.size)
  have i6' := (hb6.block _ (by omega)).trans i5
  cases B
  · have HA : Hid (TkA s 0 0 false) := HNO.out (fun h => by cases h.1)
    have i6 := HI.out _ b6
    have HB : Hid (Below w.heap.size w w6) := HB1.out.1.trans (b6.mono HB1.out.1.size)
    clear b5 b6 hb6 i5 i6'
    have HLD : (loadVar 25 ⟨w.heap.size, 0, none⟩).run Tryd.prog (w6.setRow w.heap.size #[.int .i64 0, .int .i64 0]) = .ok (.agg #[.int .i64 0, .int .i64 0]) (w6.setRow w.heap.size #[.int .i64 0, .int .i64 0]) := run_loadVar_row _ _ _ _ _ _ _ (setRow_heap _ _ _ _ _ _ i6) Tryd.underlying25 rfl (by kernel_rfl)
    have HF : Hid (Below w.heap.size w (w6.setRow w.heap.size #[.int .i64 0, .int .i64 0])) := below_setRow HB.out (Nat.le_refl _) _
    go_wp2_with (refine wpList_store_row rfl _ _ _ rfl _ _ rfl rfl _ _ i6 (by kernel_rfl) rfl (by simp [Value.oneCell']) ?_)
    (try simp only [Exit.inBlock, Exit.then])
    (try go_wp2)
    refine bodyPost_ret (by simp [results, Tryd.results10, asAddr, Act.put, HLD]; try rfl) rfl ?_
    exact ⟨0, 0, false, rfl, HF.out, HA.out⟩
  · have zl : w2.heap.size < w6.heap.size := by omega
    have y0 : w6.cell? ⟨w2.heap.size, 0, none⟩ = some (.int .i64 k) := box_cell i6' rfl
    have y1 : w6.cell? ⟨w2.heap.size, 1, none⟩ = some (.int .i64 r) := box_cell i6' rfl
    go_wp2_with fail
    clear y0 y1
    refine (QT.out _ b6).mono ?_
    rintro e w7 ⟨rfl, hb7⟩
    have hz7 := hb7.size
    have zl7 : w2.heap.size < w7.heap.size := by omega
    have i7 := (hb7.block _ (by omega)).trans i6'
    have y0 : w7.cell? ⟨w2.heap.size, 0, none⟩ = some (.int .i64 k) := box_cell i7 rfl
    have y1 : w7.cell? ⟨w2.heap.size, 1, none⟩ = some (.int .i64 r) := box_cell i7 rfl
    have b7 : Below W1.heap.size W1 w7 := b6.trans (hb7.mono b6.size)
    have i6 := HI.out _ b7
    have HB : Hid (Below w.heap.size w w7) := HB1.out.1.trans (b7.mono HB1.out.1.size)
    clear b5 b6 b7 hb6 hb7 i5 i6' i7
    by_cases hTs : T = s
    · have HA : Hid (TkA s k r true) := .inl ⟨rfl, HBB.out.symm, by rw [← hTs]; exact HTT.out.symm⟩
      subst hTs
      have hne : (T.toList == T.toList) = true := by simp
      have HLD : (loadVar 25 ⟨w.heap.size, 0, none⟩).run Tryd.prog (w7.setRow w.heap.size #[.int .i64 k, .int .i64 r]) = .ok (.agg #[.int .i64 k, .int .i64 r]) (w7.setRow w.heap.size #[.int .i64 k, .int .i64 r]) := run_loadVar_row _ _ _ _ _ _ _ (setRow_heap _ _ _ _ _ _ i6) Tryd.underlying25 rfl (by kernel_rfl)
      have HF : Hid (Below w.heap.size w (w7.setRow w.heap.size #[.int .i64 k, .int .i64 r])) := below_setRow HB.out (Nat.le_refl _) _
      go_wp2_with (refine wpList_store_row rfl _ _ _ rfl _ _ rfl rfl _ _ i6 (by kernel_rfl) rfl (by simp [Value.oneCell']) ?_)
      (try simp only [Exit.inBlock, Exit.then])
      (try go_wp2)
      refine bodyPost_ret (by simp [results, Tryd.results10, asAddr, Act.put, HLD]; try rfl) rfl ?_
      exact ⟨k, r, true, rfl, HF.out, HA.out⟩
    · have HA : Hid (TkA s 0 0 false) := HNO.out (fun h => hTs h.2)
      have hne : (T.toList == s.toList) = false := neq_str hTs
      have HLD : (loadVar 25 ⟨w.heap.size, 0, none⟩).run Tryd.prog (w7.setRow w.heap.size #[.int .i64 0, .int .i64 0]) = .ok (.agg #[.int .i64 0, .int .i64 0]) (w7.setRow w.heap.size #[.int .i64 0, .int .i64 0]) := run_loadVar_row _ _ _ _ _ _ _ (setRow_heap _ _ _ _ _ _ i6) Tryd.underlying25 rfl (by kernel_rfl)
      have HF : Hid (Below w.heap.size w (w7.setRow w.heap.size #[.int .i64 0, .int .i64 0])) := below_setRow HB.out (Nat.le_refl _) _
      go_wp2_with (refine wpList_store_row rfl _ _ _ rfl _ _ rfl rfl _ _ i6 (by kernel_rfl) rfl (by simp [Value.oneCell']) ?_)
      (try simp only [Exit.inBlock, Exit.then])
      (try go_wp2)
      refine bodyPost_ret (by simp [results, Tryd.results10, asAddr, Act.put, HLD]; try rfl) rfl ?_
      exact ⟨0, 0, false, rfl, HF.out, HA.out⟩

theorem implTk_any (s : ByteArray) (w : World) (hs : s.size ≤ maxLen) (hT : Tabs w) (hN : Nams w) (hB : NamB w) :
    Calls Tryd.prog 10 #[.string s] w fun e w' => ∃ k r b, e = .returned (.tuple #[.agg #[.int .i64 k, .int .i64 r], .bool b]) ∧ Below w.heap.size w w' ∧ TkA s k r b := by
  cases hf : fK (namesK 13) s with
  | none => exact implTk_none s w hs hT hN hB hf
  | some p => exact implTk_some s w hs hN hB p.1 p.2 hf

end Go.Proofs.YtndlehogfedfaaaDoor
