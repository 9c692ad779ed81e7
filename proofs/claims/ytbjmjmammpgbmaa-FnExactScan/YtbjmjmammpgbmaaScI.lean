/-
  Scan of the program. By program (scgen.py).
-/
import Derived.Test.YtbjmjmammpgbmaaScP
import Derived.Test.YtbjmjmammpgbmaaRfA
import Derived.Test.YtbjmjmammpgbmaaPlain
import Derived.Test.YtbjmjmammpgbmaaEnsI
import Derived.Deep.RegionHeld3
namespace Go.Proofs.Ytbjmjmammpgbmaa
open Go.RowKit
set_option linter.unusedVariables false
set_option linter.unusedSimpArgs false

set_option maxRecDepth 100000 in
set_option maxHeartbeats 4000000 in
theorem implScan_any (v : Value) (zs : List Int) (w : World) (hr : Reads (.sl .u8) w [v] zs) (hn : zs.length ≤ 1048576) :
    Calls Try.prog 9 #[v] w fun e w' => ∃ u, e = .returned (.tuple #[u, .int .i64 ((scanA zs).2 : Int)]) ∧ w'.ownsRow w.heap.size 33 2 u (scanA zs).1.length (cellsE (scanA zs).1) ∧ Hid (AccOk (scanA zs).1 ∧ (scanA zs).2 ≤ zs.length) ∧ Below w.heap.size w w' := by
  obtain ⟨i0, hi, hz0, hz1, hz2⟩ := info_parts infoEntry
  obtain ⟨R, hR⟩ : ∃ R, R = scanA zs := ⟨_, rfl⟩
  rw [← hR]
  obtain ⟨n, hnz⟩ : ∃ n, n = zs.length := ⟨_, rfl⟩
  rw [← hnz] at hn ⊢
  have hz : Byt zs := by
    obtain ⟨a, c, rfl, _, _⟩ := reads_val hr
    exact (reads_bytes hr).2.1.1
  have qF : Hid (∀ w' (p : Nat), Below w.heap.size w w' → p ≤ n → Calls Try.prog 15 #[v, .int .i64 (p : Int)] w' fun e w'' => e = .returned (.tuple #[.agg #[.int .i64 (frAns zs (p : Int)).1, .string (frAns zs (p : Int)).2.1], .int .i64 (frAns zs (p : Int)).2.2.1, .int .i64 (frAns zs (p : Int)).2.2.2]) ∧ Below w'.heap.size w' w'') := fun w' p hb hp => rf_impl v zs p w' (hr.later hb) (by omega) (by omega) (by omega)
  have qOk : Hid (∀ p : Nat, (frAns zs (p : Int)).2.2.2 = 0 → 1 ≤ (frAns zs (p : Int)).1 ∧ (frAns zs (p : Int)).1 ≤ 1000000000 ∧ (frAns zs (p : Int)).2.1.size ≤ 1000 ∧ ∃ nx : Nat, (frAns zs (p : Int)).2.2.1 = (nx : Int) ∧ p + 11 ≤ nx ∧ nx ≤ n) := fun p h => by rw [hnz]; exact fr_ok zs hz p h
  have HR0 : Hid (R = scanL zs (n + 1) [] 0) := by show _ = _; rw [hR, hnz]; rfl
  clear hr hR hnz hz
  have HO : Hid (w.ownsRow w.heap.size 33 2 (.slice none 0 0) 0 []) := ⟨rfl, .inl ⟨rfl, rfl⟩⟩
  have bA : Below w.heap.size w w := Below.refl _ _
  go_enter Try.func9, Try.ntmps9
  go_wp2
  go_loopw [4, 5] (fun u i wr => ∃ (f p m : Nat) (acc : List EntD) (uu : Value), uu = u ∧ i = .int .i64 p ∧ wr.ownsRow w.heap.size 33 2 uu m (cellsE acc) ∧ Hid (acc.length = m ∧ R = scanL zs f acc p ∧ n + 1 ≤ f + p ∧ AccOk acc) ∧ p ≤ n ∧ m ≤ p ∧ Below w.heap.size w wr) (fun _ i _ => n + 1 - (intOf i).toNat)
  case atStart => exact ⟨n + 1, 0, 0, [], _, rfl, rfl, HO.out, ⟨rfl, HR0.out, by omega, fun x hx => by cases hx⟩, by omega, by omega, bA⟩
  case round =>
    obtain ⟨f, p, m, acc, u, rfl, rfl, hown, HA, hp, hm, hbel⟩ := hrel
    obtain ⟨ua, uc, rfl⟩ := own_sliceE hown
    have hbs := hbel.size
    obtain ⟨y0, hy0⟩ : ∃ y, y = (frAns zs (p : Int)).1 := ⟨_, rfl⟩
    obtain ⟨y1, hy1⟩ : ∃ y, y = (frAns zs (p : Int)).2.1 := ⟨_, rfl⟩
    obtain ⟨nx, hnx⟩ : ∃ y, y = (frAns zs (p : Int)).2.2.1 := ⟨_, rfl⟩
    obtain ⟨cd, hcd⟩ : ∃ y, y = (frAns zs (p : Int)).2.2.2 := ⟨_, rfl⟩
    have q1 : Hid (∀ w', Below w.heap.size w w' → Calls Try.prog 15 #[v, .int .i64 (p : Int)] w' fun e w'' => e = .returned (.tuple #[.agg #[.int .i64 y0, .string y1], .int .i64 nx, .int .i64 cd]) ∧ Below w'.heap.size w' w'') := fun w' hb' => by rw [hy0, hy1, hnx, hcd]; exact qF.out w' p hb' hp
    have hgo : goesOn zs acc p = (decide (cd = 0) && linkB (lastNum acc) y0) := by rw [hy0, hcd]; rfl
    have hrec : recOf zs p = (y0, y1, ()) := by rw [hy0, hy1]; rfl
    have hok := qOk.out p
    rw [← hy0, ← hy1, ← hnx, ← hcd] at hok
    have hsc := HA.out.2.1
    have hff := HA.out.2.2.1
    have hon : goesOn zs acc p = true → R = scanL zs (f - 1) (acc ++ [(y0, y1, ())]) nx.toNat := fun h => by rw [hsc, scanL_on zs f acc p h (by omega), hrec, hnx]
    have hend : goesOn zs acc p = false → R = (acc, p) := fun h => by rw [hsc, scanL_end zs f acc p h]
    have HFin : Hid (goesOn zs acc p = false → ∀ W : World, W.ownsRow w.heap.size 33 2 (.slice ua m uc) m (cellsE acc) → (p : Int) = (R.2 : Int) ∧ W.ownsRow w.heap.size 33 2 (.slice ua m uc) R.1.length (cellsE R.1) ∧ Hid (AccOk R.1 ∧ R.2 ≤ n)) := fun h W hW => by
      have e := hend h
      rw [e]
      refine ⟨rfl, ?_, ⟨HA.out.2.2.2, hp⟩⟩
      show W.ownsRow _ _ _ _ acc.length _
      rw [HA.out.1]; exact hW
    go_wp2_with fail
    refine (q1.out _ hbel).mono ?_
    rintro e w2 ⟨rfl, hb2⟩
    have b2 := hbel.trans (hb2.mono hbs)
    have ho2 := own_later hown hb2
    obtain ⟨W0, hW0⟩ : ∃ W0, W0 = w2.alloc (.cells #[.int .i64 y0, .string y1] 33) := ⟨_, rfl⟩
    have bw0 : Below w2.heap.size w2 W0 := by rw [hW0]; exact (Below.refl _ _).alloc (Nat.le_refl _) _
    have bW0 : Below w.heap.size w W0 := b2.trans (bw0.mono b2.size)
    have hbox : W0.heap[w2.heap.size]? = some (.cells #[.int .i64 y0, .string y1] 33 (0, 0)) := by rw [hW0]; exact heap_alloc_new w2 _
    have zlt0 : w2.heap.size < W0.heap.size := by rw [hW0]; simp
    have HW0 : Hid (W0 = w2.alloc (.cells #[.int .i64 y0, .string y1] 33)) := hW0
    have ho3 := own_later ho2 bw0
    have HO3 : Hid (W0.ownsRow w.heap.size 33 2 (.slice ua m uc) m (cellsE acc)) := ho3
    have BX : Hid (∀ w', Below W0.heap.size W0 w' → w'.cell? ⟨w2.heap.size, 0, none⟩ = some (.int .i64 y0) ∧ w'.cell? ⟨w2.heap.size, 1, none⟩ = some (.string y1)) := fun w' h' => by
      have i := (h'.block _ zlt0).trans hbox
      exact ⟨box_cell i rfl, box_cell i rfl⟩
    have bD0 : Below W0.heap.size W0 W0.drew := (Below.refl _ _).drew
    obtain ⟨v0, v1⟩ := BX.out W0 (Below.refl _ _)
    clear hown ho2 hW0 hbox hy0 hy1 hnx hcd hrec hsc hb2 bw0 ho3 hend qF qOk q1
    by_cases hc : cd = 0
    case neg =>
      have hgf : goesOn zs acc p = false := by rw [hgo]; simp [hc]
      have FN := HFin.out hgf
      have hc1 : (cd == 0) = false := by simp; exact hc
      clear hgo hok hon HFin hgf
      have bX : Below w.heap.size w (w2.alloc (.cells #[.int .i64 y0, .string y1] 33)) := by rw [← HW0.out]; exact bW0
      have oX : (w2.alloc (.cells #[.int .i64 y0, .string y1] 33)).ownsRow w.heap.size 33 2 (.slice ua m uc) m (cellsE acc) := by rw [← HW0.out]; exact HO3.out
      go_wp2
      go_ret2
      exact ⟨_, by rw [← (FN _ oX).1]; rfl, (FN _ oX).2.1, (FN _ oX).2.2, bX⟩
    subst hc
    obtain ⟨k1, k2, k3, nn, k4, k5, k6⟩ := hok rfl
    subst k4
    have FNX : Hid (goesOn zs acc p = true → (acc ++ [(y0, y1, ())]).length = m + 1 ∧ R = scanL zs (f - 1) (acc ++ [(y0, y1, ())]) nn ∧ n + 1 ≤ f - 1 + nn ∧ AccOk (acc ++ [(y0, y1, ())])) := fun h => by
      refine ⟨by rw [List.length_append, HA.out.1]; rfl, hon h, by omega, accOk_snoc _ _ HA.out.2.2.2 ⟨k1, k2, k3⟩⟩
    have HCE : Hid (cellsE (acc ++ [(y0, y1, ())]) = cellsE acc ++ [.int .i64 y0, .string y1]) := cellsE_snoc _ _
    clear hok hon
    have qL : Hid (∀ w', Below W0.heap.size W0 w' → Calls Try.prog 27 #[.slice ua m uc, .agg #[.int .i64 y0, .string y1]] w' fun e w'' => e = .returned (.bool (goesOn zs acc p)) ∧ Below w'.heap.size w' w'') := fun w' hw' => by
      rw [hgo]
      by_cases hm0 : m = 0
      · have hlk : lastNum acc = none := by unfold lastNum; rw [HA.out.1, hm0]; rfl
        rw [hlk, hm0]
        exact follows_none _ _ _ _ _
      · obtain ⟨j, hj⟩ : ∃ j, m = j + 1 := ⟨m - 1, by omega⟩
        obtain ⟨g, cq, he, hg1, hg2⟩ := own_form HO3.out (by omega)
        simp only [Value.slice.injEq, and_true] at he
        obtain ⟨rfl, hcq⟩ := he
        have oW := own_later HO3.out hw'
        obtain ⟨z, hzz, hlk, hmem, hcell⟩ := own_last (j := j) (g := g) (c := uc) (by rw [← hj]; exact oW) (by rw [HA.out.1, hj])
        have hzb := HA.out.2.2.2 z hmem
        have e1 : (decide ((0 : Int) = 0) && linkB (lastNum acc) y0) = (y0 == z.1 + 1) := by
          rw [hlk, Bool.eq_iff_iff]; simp [linkB]
        rw [e1, hj]
        exact follows_some g 0 j uc z.1 y0 y1 w' (Nat.lt_of_lt_of_le hg2 hw'.size) hcell (by omega) hzb.1 hzb.2.1
    cases hG : goesOn zs acc p with
    | true =>
      have FN := FNX.out hG
      rw [hG] at qL
      have FNh : Hid ((acc ++ [(y0, y1, ())]).length = m + 1 ∧ R = scanL zs (f - 1) (acc ++ [(y0, y1, ())]) nn ∧ n + 1 ≤ f - 1 + nn ∧ AccOk (acc ++ [(y0, y1, ())])) := FN
      clear hgo hG FN FNX HFin
      go_wp2_with fail
      rw [← HW0.out]
      refine (qL.out _ (Below.refl _ _)).mono ?_
      rintro e w5 ⟨rfl, hb5⟩
      have oW := own_later HO3.out hb5
      have bWW := bW0.trans ((hb5).mono bW0.size)
      obtain ⟨x0, x1⟩ := BX.out w5 hb5
      go_wp2_with (at_builtin; refine wpList_append_src rfl _ _ 23 rfl w.heap.size 33 i0 (.agg #[.int .i64 0, .string ByteArray.empty]) 2 24 Try.underlying23 hi hz0 hz1 hz2 rfl (by decide) (.slice ua m uc) m (cellsE acc) rfl (oW.alloc _) (.slice (some ⟨w5.heap.size, 0, none⟩) 1 1) 1 [.int .i64 y0, .string y1] rfl rfl (.inr ⟨_, 1, rfl, cells_new w5 [.int .i64 y0, .string y1] 33⟩) ?c2 ?c3 ?c4 ?c5 ?_)
      case c2 => intro u hu; simp at hu; rcases hu with rfl | rfl <;> rfl
      case c3 => unfold maxLen; omega
      case c4 => omega
      case c5 => have := bWW.size; simp; omega
      intro v3 w3 o3 gr3
      have b3 : Below w.heap.size w w3 := (bWW.alloc bWW.size _).grown gr3 (by have := bWW.size; simp; omega) (fun y h => (oW.lt y h).1)
      rw [← HCE.out] at o3
      clear gr3 oW
      go_wp2
      go_roundw
      case rel => exact ⟨f - 1, nn, m + 1, _, _, rfl, rfl, o3, FNh, k6, by omega, b3⟩
      case measure => simp [intOf]; omega
    | false =>
      have FN := HFin.out hG
      rw [hG] at qL
      clear hgo hG FNX HFin
      go_wp2_with fail
      rw [← HW0.out]
      refine (qL.out _ (Below.refl _ _)).mono ?_
      rintro e w5 ⟨rfl, hb5⟩
      have b5 := bW0.trans (hb5.mono bW0.size)
      have oW := own_later HO3.out hb5
      go_wp2
      go_ret2
      exact ⟨_, by rw [← (FN w5 oW).1]; rfl, (FN w5 oW).2.1, (FN w5 oW).2.2, b5⟩

end Go.Proofs.Ytbjmjmammpgbmaa
