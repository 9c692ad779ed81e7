/-
  LogBytes of the program. By program (loggen.py).
-/
import Derived.Test.YtcmipfpblnbccaaLogP
import Derived.Test.YtcmipfpblnbccaaEnsI
import Derived.Test.YtcmipfpblnbccaaFrI
import Derived.Test.YtcmipfpblnbccaaLogS
namespace Go.Proofs.Ytcmipfpblnbccaa
open Go.RowKit
set_option linter.unusedVariables false

set_option maxRecDepth 100000 in
set_option maxHeartbeats 2000000 in
theorem implLog_bad (a : Option Addr) (n c : Nat) (d : List EntD) (w : World) (hr : Reads (.sl shEntry) w [.slice a n c] d) (hE : entsB d = false) :
    Calls Try.prog 23 #[.slice a n c] w fun e w' => e = .returned (.tuple #[.slice none 0 0, .bool false]) ∧ Below w.heap.size w w' := by
  have qE : Hid (Calls Try.prog 15 #[.slice a n c] w fun e w' => e = .returned (.bool false) ∧ Below w.heap.size w w') := by show Calls _ _ _ _ _; rw [← hE]; exact implEnts_any a n c d w hr
  clear hr hE
  go_enter Try.func23, Try.ntmps23
  go_wp2_with fail
  refine qE.out.mono ?_
  rintro e w1 ⟨rfl, b1⟩
  go_wp2
  go_ret2
  exact ⟨rfl, b1⟩

set_option maxRecDepth 100000 in
set_option maxHeartbeats 4000000 in
theorem implLog_good (a : Option Addr) (n c : Nat) (d : List EntD) (w : World) (hr : Reads (.sl shEntry) w [.slice a n c] d) (hE : entsB d = true) :
    Calls Try.prog 23 #[.slice a n c] w fun e w' => Below w.heap.size w w' ∧ (((logL d).length ≤ 65536 ∧ ∃ v, e = .returned (.tuple #[v, .bool true]) ∧ w'.ownsRow w.heap.size 5 1 v (logL d).length ((logL d).map (Value.int .u8))) ∨
      (65536 < (logL d).length ∧ e = .returned (.tuple #[.slice none 0 0, .bool false]))) := by
  obtain ⟨i0, hi, hz0, hz1, hz2⟩ := info_parts Try.infoB
  have qE : Hid (Calls Try.prog 15 #[.slice a n c] w fun e w' => e = .returned (.bool true) ∧ Below w.heap.size w w') := by show Calls _ _ _ _ _; rw [← hE]; exact implEnts_any a n c d w hr
  obtain ⟨hl, hc1, hc2⟩ := reads_len hr
  unfold maxLen at hc2
  have HR : Hid (Reads (.sl shEntry) w [.slice a n c] d) := hr
  have HL : Hid (List.length (α := EntD) d = n) := hl
  have HEE : Hid (entsB d = true) := hE
  clear hr hl hE
  go_enter Try.func23, Try.ntmps23
  go_wp2_with fail
  refine qE.out.mono ?_
  rintro e w1 ⟨rfl, b1⟩
  have b1s := b1.size
  have hown00 : w1.ownsRow w.heap.size 5 1 (.slice none 0 0) 0 [] := ⟨rfl, .inl ⟨rfl, rfl⟩⟩
  have bA := b1
  have HO : Hid (w1.ownsRow w.heap.size 5 1 (.slice none 0 0) 0 []) := hown00
  clear hown00
  go_wp2
  go_loopw [4, 14] (fun v i wr => ∃ k m : Nat, k ≤ n ∧ i = .int .i64 k ∧ wr.ownsRow w.heap.size 5 1 v m ((logTo d k).map (Value.int .u8)) ∧ m ≤ 65536 ∧ Hid ((logTo d k).length = m) ∧ Below w.heap.size w wr) (fun _ i _ => n - (intOf i).toNat)
  case atStart => exact ⟨0, 0, Nat.zero_le _, rfl, by rw [logTo_zero]; exact HO.out, by omega, by show _ = _; rw [logTo_zero]; rfl, bA⟩
  case round =>
    obtain ⟨k, m, hk, rfl, hown, hm, HM, hbel⟩ := hrel
    obtain ⟨va, vc, rfl⟩ := own_slice hown
    by_cases hlt : k < n
    · obtain ⟨b, off, cc, x, rfl, hb, hx, hrx, hcell⟩ := reads_elem HR.out k hlt
      obtain ⟨rfl, ls⟩ := open_Entry hrx
      obtain ⟨y0, ey0⟩ : ∃ y : Int, y = x.1 := ⟨_, rfl⟩
      obtain ⟨y1, ey1⟩ : ∃ y : ByteArray, y = x.2.1 := ⟨_, rfl⟩
      have hB : entB y0 y1.size = true := by rw [ey0, ey1]; exact ents_at d HEE.out k x hx
      have hbd := (entB_iff _ _).1 hB
      have hy1 : y1.size ≤ 1000 := hbd.2.2.2
      have g0 : wr.cell? ⟨b, off + k * 2, none⟩ = some (.int .i64 y0) := by rw [ey0]; exact (hbel.cell (p := ⟨b, off + (k * 2 + 0), none⟩) hb).trans (hcell 0 (by decide))
      have g1 : wr.cell? ⟨b, off + k * 2 + 1, none⟩ = some (.string y1) := by rw [ey1]; exact (hbel.cell (p := ⟨b, off + (k * 2 + 1), none⟩) hb).trans (hcell 1 (by decide))
      have hsu : logTo d (k + 1) = logTo d k ++ frameL y0 (sB y1) := by rw [ey0, ey1]; exact logTo_succ d k x hx
      have hfl : (frameL y0 (sB y1)).length = 10 + y1.size := by rw [frameL_len, sB_len]
      have HS : Hid (logTo d (k + 1) = logTo d k ++ frameL y0 (sB y1) ∧ (logTo d (k + 1)).length = m + (10 + y1.size)) := ⟨hsu, by rw [hsu, List.length_append, HM.out, hfl]⟩
      have qF : Hid (∀ w', Calls Try.prog 18 #[.agg #[.int .i64 y0, .string y1]] w' fun e w'' => ∃ v, e = .returned (.tuple #[v, .bool true]) ∧ w''.ownsRow w'.heap.size 5 1 v (10 + y1.size) ((frameL y0 (sB y1)).map (Value.int .u8)) ∧ Below w'.heap.size w' w'') := fun w' => implFrame_yes y0 y1 w' hB
      obtain ⟨T, hT⟩ : ∃ T, T = (frameL y0 (sB y1)).map (Value.int .u8) := ⟨_, rfl⟩
      have hT1 : ∀ u ∈ T, u.oneCell' = true := by rw [hT]; exact ints_oneCell _ _
      have hTl : T.length = 10 + y1.size := by rw [hT, List.length_map, hfl]
      rw [← hT] at qF
      have HT : Hid (T = (frameL y0 (sB y1)).map (Value.int .u8)) := hT
      have hbs := hbel.size
      obtain ⟨W0, hW0⟩ : ∃ W0, W0 = wr.alloc (.cells #[.int .i64 y0, .string y1] 26) := ⟨_, rfl⟩
      have bw0 : Below wr.heap.size wr W0 := by rw [hW0]; exact (Below.refl _ _).alloc (Nat.le_refl _) _
      have bW0 : Below w.heap.size w W0 := hbel.trans (bw0.mono hbs)
      have HW0 : Hid (W0 = wr.alloc (.cells #[.int .i64 y0, .string y1] 26)) := hW0
      clear hcell hrx hx ey0 ey1 hW0 hsu hfl hT hB hbd
      go_wp2_with fail
      rw [← HW0.out]
      refine (qF.out _).mono ?_
      rintro e w2 ⟨v2, rfl, o2, hb2⟩
      obtain ⟨g2, c2, rfl, hg2, hl2⟩ := own_form o2 (by omega)
      have b2 := bW0.trans (hb2.mono bW0.size)
      have bR2 : Below wr.heap.size wr w2 := bw0.trans (hb2.mono bw0.size)
      have ho2 := own_later hown bR2
      have so := src_own o2
      clear g0 g1 hown o2 hg2 hl2 hb2
      by_cases hM : m + (10 + y1.size) ≤ 65536
      · have hM1 : ¬ ((65536 : Int) - ((10 : Int) + (y1.size : Int)) < (m : Int)) := by omega
        have hM2 : ¬ ((65536 : Int) < (m : Int) + ((10 : Int) + (y1.size : Int))) := by omega
        have SO : Hid (Src w2 (.slice (some ⟨g2, 0, none⟩) (10 + y1.size) c2) (10 + y1.size) T) := so
        have HO2 : Hid (w2.ownsRow w.heap.size 5 1 (.slice va m vc) m ((logTo d k).map (Value.int .u8))) := ho2
        clear so ho2
        go_wp2_with (at_builtin; refine wpList_append_src rfl _ _ 36 rfl w.heap.size 5 i0 (.int .u8 0) 1 1 Try.underlying36 hi hz0 hz1 hz2 rfl (by decide) (.slice va m vc) m ((logTo d k).map (Value.int .u8)) rfl HO2.out (.slice (some ⟨g2, 0, none⟩) (10 + y1.size) c2) (10 + y1.size) T rfl ?c0 ?c1 ?c2 ?c3 ?c4 ?c5 ?_)
        case c0 => omega
        case c1 => exact SO.out
        case c2 => exact hT1
        case c3 => unfold maxLen; omega
        case c4 => omega
        case c5 => exact b2.size
        intro v3 w3 o3 gr3
        have b3 : Below w.heap.size w w3 := b2.grown gr3 b2.size (fun k h => (HO2.out.lt k h).1)
        have o4 : w3.ownsRow w.heap.size 5 1 v3 (m + (10 + y1.size)) ((logTo d (k + 1)).map (Value.int .u8)) := by
          rw [HS.out.1, List.map_append, ← HT.out]; exact o3
        clear o3 gr3 SO HO2
        go_wp2
        go_roundw
        case rel => exact ⟨k + 1, m + (10 + y1.size), by omega, by go_num, o4, hM, HS.out.2, b3⟩
        case measure => simp [intOf]; omega
      · have hM1 : ((65536 : Int) - ((10 : Int) + (y1.size : Int)) < (m : Int)) := by omega
        have hM2 : ((65536 : Int) < (m : Int) + ((10 : Int) + (y1.size : Int))) := by omega
        have hE2 : 65536 < (logL d).length := by
          have h1 := logTo_le d (k + 1)
          have h2 := HS.out.2
          omega
        have HE2 : Hid (65536 < (logL d).length) := hE2
        clear hE2 so ho2
        go_wp2
        go_ret2
        exact ⟨b2, .inr ⟨HE2.out, rfl⟩⟩
    · have e : k = n := by omega
      subst e
      have ha : logTo d k = logL d := logTo_all d k (Nat.le_of_eq HL.out)
      have HA : Hid ((logL d).length = m ∧ wr.ownsRow w.heap.size 5 1 (.slice va m vc) (logL d).length ((logL d).map (Value.int .u8))) := by
        have h1 : (logL d).length = m := by rw [← ha]; exact HM.out
        refine ⟨h1, ?_⟩
        rw [h1, ← ha]; exact hown
      clear ha hown
      go_wp2
      go_ret2
      exact ⟨hbel, .inl ⟨by rw [HA.out.1]; exact hm, _, rfl, HA.out.2⟩⟩

end Go.Proofs.Ytcmipfpblnbccaa
