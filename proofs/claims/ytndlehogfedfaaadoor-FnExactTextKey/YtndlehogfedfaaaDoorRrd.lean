/-
  RuneRead, the model's.
-/
import Derived.Test.YtndlehogfedfaaaDoorRmath
import Derived.Test.YtndlehogfedfaaaDoorConv
namespace Go.Proofs.YtndlehogfedfaaaDoor
open Go.RowKit
set_option linter.unusedVariables false

theorem strOfNums_inj {xs ys : List Int} (hx : ∀ x ∈ xs, 0 ≤ x ∧ x < 256) (hy : ∀ x ∈ ys, 0 ≤ x ∧ x < 256) (h : strOfNums xs = strOfNums ys) : xs = ys := by
  have h1 : xs.map (fun n => UInt8.ofNat n.toNat) = ys.map (fun n => UInt8.ofNat n.toNat) := by
    have := congrArg (fun s : ByteArray => s.data.toList) h
    simpa [strOfNums_data] using this
  have back : ∀ l : List Int, (∀ x ∈ l, 0 ≤ x ∧ x < 256) → (l.map (fun n => UInt8.ofNat n.toNat)).map (fun u => (u.toNat : Int)) = l := by
    intro l hl
    rw [List.map_map]
    conv => rhs; rw [← List.map_id l]
    apply List.map_congr_left
    intro x hx
    have := hl x hx
    simp [Function.comp]
    omega
  rw [← back xs hx, ← back ys hy, h1]

theorem neq_str {a b : ByteArray} (h : ¬ a = b) : (a.toList == b.toList) = false := by
  rw [beq_eq_false_iff_ne]
  intro e
  apply h
  rw [ByteArray.toList_eq, ByteArray.toList_eq] at e
  exact ByteArray.ext (Array.toList_inj.1 e)

theorem bt_of_rd {w : World} {a : Option Addr} {zs : List Int} (h : Rd w a zs) : ∀ i, 0 ≤ bt zs i ∧ bt zs i ≤ 255 := h.1

theorem sub_conv {w : World} {b off A k c : Nat} {zs : List Int} (hk : A + k ≤ zs.length) (hc : ∀ i, i < zs.length → w.cell? ⟨b, off + i, none⟩ = some (.int .u8 (zs[i]?.getD 0))) :
    (convert 32 9 (.slice (some ⟨b, off + A, none⟩) k c)).run Tryd.prog w = .ok (.string (strOfNums ((zs.drop A).take k))) w := by
  refine run_convert_bytes_arg (P := Tryd.prog) w 32 5 Tryd.underlying32 Tryd.underlying5 b (off + A) k c ((zs.drop A).take k) (by simp; omega) ?_ 9 Tryd.underlying9
  intro i hi
  have e : off + A + i = off + (A + i) := by omega
  rw [e, hc (A + i) (by omega)]
  have h1 : A + i < zs.length := by omega
  simp [hi, h1]

theorem base_lit (w : World) (k : Nat) (hk : k < 5) : (w.alloc (.cells #[.int .i64 0, .int .i64 0, .int .i64 192, .int .i64 224, .int .i64 240] 3)).cell? ⟨w.heap.size, k, none⟩ = some (.int .i64 (base k)) := by
  have own := World.ownsRow_lit (base := w.heap.size) (e := 3) (size := 1) w #[.int .i64 0, .int .i64 0, .int .i64 192, .int .i64 224, .int .i64 240] 5 (Nat.le_refl _) (by decide) rfl
  have hc := own.cellAt k (by omega)
  rw [hc]
  have : k = 0 ∨ k = 1 ∨ k = 2 ∨ k = 3 ∨ k = 4 := by omega
  rcases this with rfl | rfl | rfl | rfl | rfl <;> simp [base]

theorem specRb_len (c : Int) (k : Nat) (w : World) (hk : (rb c).length = k) (h0 : 0 < k) :
    Calls Tryd.prog 26 #[.int .i64 c] w fun e w' => ∃ g c2, e = .returned (.slice (some ⟨g, 0, none⟩) k c2) ∧ w'.ownsRow w.heap.size 5 1 (.slice (some ⟨g, 0, none⟩) k c2) k ((rb c).map (Value.int .u8)) ∧ Below w.heap.size w w' := by
  subst hk
  refine (specRb_any c w).mono ?_
  rintro e w1 ⟨v, rfl, ho, hb⟩
  obtain ⟨g, c2, rfl, _⟩ := own_form ho h0
  exact ⟨g, c2, rfl, ho, hb⟩

theorem specRb_ne (c : Int) (w : World) :
    Calls Tryd.prog 26 #[.int .i64 c] w fun e w' => ∃ a c2, e = .returned (.slice a (rb c).length c2) ∧ Below w.heap.size w w' := by
  refine (specRb_any c w).mono ?_
  rintro e w1 ⟨v, rfl, ho, hb⟩
  rcases ho.2 with ⟨rfl, h0⟩ | ⟨g, cap, cur, rfl, _⟩
  · exact ⟨none, 0, by rw [h0], hb⟩
  · exact ⟨_, _, rfl, hb⟩

set_option maxRecDepth 100000 in
set_option maxHeartbeats 2000000 in
theorem specRrd_in (b off n cap A : Nat) (zs : List Int) (w : World) (hl : Hid (zs.length = n)) (hb : Hid (∀ i, 0 ≤ bt zs i ∧ bt zs i ≤ 255)) (hlt : b < w.heap.size)
    (hc : Hid (∀ i, i < zs.length → w.cell? ⟨b, off + i, none⟩ = some (.int .u8 (zs[i]?.getD 0)))) (hn : n ≤ 2097152) (hcap : n ≤ cap) (hcm : cap ≤ maxLen) (hA : A < n) :
    Calls Tryd.prog 31 #[.slice (some ⟨b, off, none⟩) n cap, .int .i64 A] w fun e w' => e = .returned (.tuple #[.int .i64 (rrd zs A).1, .int .i64 (rrd zs A).2]) ∧ Below w.heap.size w w' := by
  unfold maxLen at hcm
  have a0 : (0 : Int) ≤ (A : Int) := by omega
  have a1 : (A : Int) < (n : Int) := by omega
  have d1 : decide (n ≤ A) = false := by simp; omega
  have d2 : decide ((A : Int) < 0) = false := by simp
  have d3 : decide ((n : Int) ≤ (A : Int)) = false := by simp; omega
  go_enter Tryd.func31, Tryd.ntmps31
  go_wp2
  go_loopw [6] (fun s wr => ∃ k : Nat, 1 ≤ k ∧ k ≤ 5 ∧ A + k ≤ n + 1 ∧ s = .int .i64 k ∧ Hid (∀ j, 1 ≤ j → j < k → ¬ hit zs A j) ∧ Below w.heap.size w wr) (fun s _ => 5 - (intOf s).toNat)
  case atStart => exact ⟨1, by omega, by omega, by omega, rfl, fun j h1 h2 => by omega, Below.refl _ _⟩
  case round =>
    obtain ⟨k, hk1, hk5, hkn, rfl, hno, hbel⟩ := hrel
    by_cases hin : k ≤ 4 ∧ A + k ≤ n
    · obtain ⟨x, hx⟩ : ∃ x, x = bt zs A := ⟨_, rfl⟩
      have HX : Hid (x = _) := hx
      have hxb : 0 ≤ x ∧ x ≤ 255 := by rw [hx]; exact hb.out A
      have hx0 : wr.cell? ⟨b, off + A, none⟩ = some (.int .u8 x) := by rw [hx]; exact (hbel.cell (p := ⟨b, off + A, none⟩) hlt).trans (hc.out A (by have := hl.out; omega))
      clear hx
      have h4' : (k : Int) ≤ 4 := by omega
      have h6 : (k : Int) ≤ (n : Int) - (A : Int) := by omega
      by_cases hk : k = 1
      · subst hk
        go_wp2
        go_loop [7, 8] (fun r i => ∃ j : Nat, 1 ≤ j ∧ j ≤ 1 ∧ i = .int .i64 j ∧ r = .int .i64 (accu zs A 1 (j - 1))) (fun _ i => 5 - (intOf i).toNat)
        case atStart => exact ⟨1, by omega, by omega, rfl, by rw [HX.out]; simp [accu, base]⟩
        case round =>
          obtain ⟨j, hj0, hj, rfl, rfl⟩ := hrel
          obtain ⟨r, hrr⟩ : ∃ r, r = accu zs A 1 (j - 1) := ⟨_, rfl⟩
          have HR : Hid (r = _) := hrr
          have hrb : -300000000 ≤ r ∧ r ≤ 300000000 := by rw [hrr]; exact accu_bd zs A _ _ hb.out (by omega)
          rw [← hrr]
          clear hrr
          by_cases hjk : j < 1
          · exfalso; omega
          · have ej : j = 1 := by omega
            subst ej
            have HCD : Hid (r = cnd zs A 1) := HR.out
            clear HR
            by_cases hlen : (rb r).length = 1
            · have hcall : Hid (∀ w', Calls Tryd.prog 26 #[.int .i64 r] w' fun e w1 => ∃ g c2, e = .returned (.slice (some ⟨g, 0, none⟩) 1 c2) ∧ w1.ownsRow w'.heap.size 5 1 (.slice (some ⟨g, 0, none⟩) 1 c2) 1 ((rb r).map (Value.int .u8)) ∧ Below w'.heap.size w' w1) := fun w' => specRb_len r _ w' hlen (by omega)
              have HLN : Hid ((rb r).length = _) := hlen
              clear hlen
              go_wp2_with fail
              refine (hcall.out _).mono ?_
              rintro e w2 ⟨g, c2, rfl, ho, hb2⟩
              have hbel2 := hbel.trans (hb2.mono hbel.size)
              obtain ⟨S1, hS1⟩ : ∃ S1, S1 = strOfNums (rb r) := ⟨_, rfl⟩
              obtain ⟨S2, hS2⟩ : ∃ S2, S2 = strOfNums ((zs.drop A).take 1) := ⟨_, rfl⟩
              have q1 : ∀ q, (convert 32 9 (.slice (some ⟨g, 0, none⟩) 1 c2)).run Tryd.prog (w2.drewN q) = .ok (.string S1) (w2.drewN q) := by
                intro q
                rw [hS1]
                exact own_conv (w := w2.drewN q) HLN.out ho
              have q2 : ∀ q, (convert 32 9 (.slice (some ⟨b, off + A, none⟩) 1 (cap - A))).run Tryd.prog (w2.drewN q) = .ok (.string S2) (w2.drewN q) := by
                intro q
                rw [hS2]
                exact sub_conv (w := w2.drewN q) (by have := hl.out; omega) (fun i hi => (hbel2.cell (p := ⟨b, off + i, none⟩) hlt).trans (hc.out i hi))
              have p1 := q1 0
              have p2 := q2 0
              have HS : Hid (S1 = _ ∧ S2 = _) := ⟨hS1, hS2⟩
              clear hS1 hS2 ho
              have g1 : ((1 : Int) == (1 : Int)) = true := by simp
              have i2 : (A : Int) + (1 : Int) ≤ (cap : Int) := by omega
              by_cases heq : S1 = S2
              · have E : rrd zs A = (r, (1 : Int)) := by
                  rw [HCD.out]
                  refine rrd_hit zs A _ hb.out (by omega) (by omega) (by have := hl.out; omega) ?_
                  unfold hit
                  rw [← HCD.out]
                  refine strOfNums_inj (rb_byte r) ?_ (by rw [← HS.out.1, ← HS.out.2]; exact heq)
                  intro x hx
                  obtain ⟨i, hi, rfl⟩ := List.mem_iff_getElem.1 (List.mem_of_mem_drop (List.mem_of_mem_take hx))
                  have := hb.out i
                  simp [bt, hi] at this
                  omega
                subst heq
                have g2 : (S1.toList == S1.toList) = true := by simp
                go_wp2
                go_quiet (fail)
                go_wp2
                go_ret2
                exact ⟨by first | rfl | (rw [E]; done) | (rw [E]; rfl), below_drewN hbel2 _⟩
              · have g2 : (S1.toList == S2.toList) = false := neq_str heq
                have HN : Hid (¬ hit zs A 1) := by
                  intro h
                  apply heq
                  rw [HS.out.1, HS.out.2, HCD.out]
                  exact congrArg strOfNums h
                go_wp2
                go_quiet (fail)
                go_wp2
                go_roundw
                case rel =>
                  refine ⟨1 + 1, by omega, by omega, by omega, by go_num, ?_, below_drewN hbel2 _⟩
                  intro i h1 h2
                  by_cases h3 : i = 1
                  · rw [h3]; exact HN.out
                  · exact hno.out i h1 (by omega)
                case measure => first | (simp [intOf]; done) | (simp [intOf]; omega)
            · have hcall : Hid (∀ w', Calls Tryd.prog 26 #[.int .i64 r] w' fun e w1 => ∃ a c2, e = .returned (.slice a (rb r).length c2) ∧ Below w'.heap.size w' w1) := fun w' => specRb_ne r w'
              have HN : Hid (¬ hit zs A 1) := by
                intro h
                apply hlen
                unfold hit at h
                rw [HCD.out, h]
                have := hl.out
                simp; omega
              obtain ⟨m, hm⟩ : ∃ m, m = (rb r).length := ⟨_, rfl⟩
              rw [← hm] at hlen hcall
              clear hm
              have g1 : ((m : Int) == (1 : Int)) = false := by simp; omega
              go_wp2_with fail
              refine (hcall.out _).mono ?_
              rintro e w2 ⟨a2, c2, rfl, hb2⟩
              have hbel2 := hbel.trans (hb2.mono hbel.size)
              go_wp2
              go_quiet (fail)
              go_wp2
              go_roundw
              case rel =>
                refine ⟨1 + 1, by omega, by omega, by omega, by go_num, ?_, below_drewN hbel2 _⟩
                intro i h1 h2
                by_cases h3 : i = 1
                · rw [h3]; exact HN.out
                · exact hno.out i h1 (by omega)
              case measure => first | (simp [intOf]; done) | (simp [intOf]; omega)
      · have hk2 : ¬ ((k : Int) ≤ 1) := by omega
        have hcb := base_lit wr k (by omega)
        obtain ⟨bs, hbs⟩ : ∃ bs, bs = base k := ⟨_, rfl⟩
        have HB : Hid (bs = _) := hbs
        have hbsb : 0 ≤ bs ∧ bs ≤ 240 := by rw [hbs]; unfold base; repeat' split
                                            all_goals omega
        rw [← hbs] at hcb
        clear hbs
        have hbelA := hbel.alloc hbel.size (.cells #[.int .i64 0, .int .i64 0, .int .i64 192, .int .i64 224, .int .i64 240] 3)
        go_wp2
        go_loop [7, 8] (fun r i => ∃ j : Nat, 1 ≤ j ∧ j ≤ k ∧ i = .int .i64 j ∧ r = .int .i64 (accu zs A k (j - 1))) (fun _ i => 5 - (intOf i).toNat)
        case atStart => exact ⟨1, by omega, by omega, rfl, by rw [HX.out, HB.out]; rfl⟩
        case round =>
          obtain ⟨j, hj0, hj, rfl, rfl⟩ := hrel
          obtain ⟨r, hrr⟩ : ∃ r, r = accu zs A k (j - 1) := ⟨_, rfl⟩
          have HR : Hid (r = _) := hrr
          have hrb : -300000000 ≤ r ∧ r ≤ 300000000 := by rw [hrr]; exact accu_bd zs A _ _ hb.out (by omega)
          rw [← hrr]
          clear hrr
          by_cases hjk : j < k
          · obtain ⟨y, hy⟩ : ∃ y, y = bt zs (A + j) := ⟨_, rfl⟩
            have HY : Hid (y = _) := hy
            have hyb : 0 ≤ y ∧ y ≤ 255 := by rw [hy]; exact hb.out _
            have hcy : (wr.alloc (.cells #[.int .i64 0, .int .i64 0, .int .i64 192, .int .i64 224, .int .i64 240] 3)).cell? ⟨b, off + (A + j), none⟩ = some (.int .u8 y) := by rw [hy]; exact (hbelA.cell (p := ⟨b, off + (A + j), none⟩) hlt).trans (hc.out (A + j) (by have := hl.out; omega))
            clear hy
            have i1 : (A : Int) + (j : Int) < (n : Int) := by omega
            go_wp2
            go_round
            case rel =>
              refine ⟨j + 1, by omega, by omega, by go_num, ?_⟩
              have e1 : j + 1 - 1 = (j - 1) + 1 := by omega
              have e2 : j - 1 + 1 = j := by omega
              rw [e1, accu, e2, ← HR.out, ← HY.out]
            case measure => first | (simp [intOf]; done) | (simp [intOf]; omega)
          · have ej : j = k := by omega
            subst ej
            have HCD : Hid (r = cnd zs A _) := HR.out
            clear HR
            by_cases hlen : (rb r).length = j
            · have hcall : Hid (∀ w', Calls Tryd.prog 26 #[.int .i64 r] w' fun e w1 => ∃ g c2, e = .returned (.slice (some ⟨g, 0, none⟩) j c2) ∧ w1.ownsRow w'.heap.size 5 1 (.slice (some ⟨g, 0, none⟩) j c2) j ((rb r).map (Value.int .u8)) ∧ Below w'.heap.size w' w1) := fun w' => specRb_len r _ w' hlen (by omega)
              have HLN : Hid ((rb r).length = _) := hlen
              clear hlen
              go_wp2_with fail
              refine (hcall.out _).mono ?_
              rintro e w2 ⟨g, c2, rfl, ho, hb2⟩
              have hbel2 := hbelA.trans (hb2.mono hbelA.size)
              obtain ⟨S1, hS1⟩ : ∃ S1, S1 = strOfNums (rb r) := ⟨_, rfl⟩
              obtain ⟨S2, hS2⟩ : ∃ S2, S2 = strOfNums ((zs.drop A).take j) := ⟨_, rfl⟩
              have q1 : ∀ q, (convert 32 9 (.slice (some ⟨g, 0, none⟩) j c2)).run Tryd.prog (w2.drewN q) = .ok (.string S1) (w2.drewN q) := by
                intro q
                rw [hS1]
                exact own_conv (w := w2.drewN q) HLN.out ho
              have q2 : ∀ q, (convert 32 9 (.slice (some ⟨b, off + A, none⟩) j (cap - A))).run Tryd.prog (w2.drewN q) = .ok (.string S2) (w2.drewN q) := by
                intro q
                rw [hS2]
                exact sub_conv (w := w2.drewN q) (by have := hl.out; omega) (fun i hi => (hbel2.cell (p := ⟨b, off + i, none⟩) hlt).trans (hc.out i hi))
              have p1 := q1 0
              have p2 := q2 0
              have HS : Hid (S1 = _ ∧ S2 = _) := ⟨hS1, hS2⟩
              clear hS1 hS2 ho
              have g1 : ((j : Int) == (j : Int)) = true := by simp
              have i2 : (A : Int) + (j : Int) ≤ (cap : Int) := by omega
              by_cases heq : S1 = S2
              · have E : rrd zs A = (r, (j : Int)) := by
                  rw [HCD.out]
                  refine rrd_hit zs A _ hb.out (by omega) (by omega) (by have := hl.out; omega) ?_
                  unfold hit
                  rw [← HCD.out]
                  refine strOfNums_inj (rb_byte r) ?_ (by rw [← HS.out.1, ← HS.out.2]; exact heq)
                  intro x hx
                  obtain ⟨i, hi, rfl⟩ := List.mem_iff_getElem.1 (List.mem_of_mem_drop (List.mem_of_mem_take hx))
                  have := hb.out i
                  simp [bt, hi] at this
                  omega
                subst heq
                have g2 : (S1.toList == S1.toList) = true := by simp
                go_wp2
                go_quiet (fail)
                go_wp2
                go_ret2
                exact ⟨by first | rfl | (rw [E]; done) | (rw [E]; rfl), below_drewN hbel2 _⟩
              · have g2 : (S1.toList == S2.toList) = false := neq_str heq
                have HN : Hid (¬ hit zs A j) := by
                  intro h
                  apply heq
                  rw [HS.out.1, HS.out.2, HCD.out]
                  exact congrArg strOfNums h
                go_wp2
                go_quiet (fail)
                go_wp2
                go_roundw
                case rel =>
                  refine ⟨j + 1, by omega, by omega, by omega, by go_num, ?_, below_drewN hbel2 _⟩
                  intro i h1 h2
                  by_cases h3 : i = j
                  · rw [h3]; exact HN.out
                  · exact hno.out i h1 (by omega)
                case measure => first | (simp [intOf]; done) | (simp [intOf]; omega)
            · have hcall : Hid (∀ w', Calls Tryd.prog 26 #[.int .i64 r] w' fun e w1 => ∃ a c2, e = .returned (.slice a (rb r).length c2) ∧ Below w'.heap.size w' w1) := fun w' => specRb_ne r w'
              have HN : Hid (¬ hit zs A j) := by
                intro h
                apply hlen
                unfold hit at h
                rw [HCD.out, h]
                have := hl.out
                simp; omega
              obtain ⟨m, hm⟩ : ∃ m, m = (rb r).length := ⟨_, rfl⟩
              rw [← hm] at hlen hcall
              clear hm
              have g1 : ((m : Int) == (j : Int)) = false := by simp; omega
              go_wp2_with fail
              refine (hcall.out _).mono ?_
              rintro e w2 ⟨a2, c2, rfl, hb2⟩
              have hbel2 := hbelA.trans (hb2.mono hbelA.size)
              go_wp2
              go_quiet (fail)
              go_wp2
              go_roundw
              case rel =>
                refine ⟨j + 1, by omega, by omega, by omega, by go_num, ?_, below_drewN hbel2 _⟩
                intro i h1 h2
                by_cases h3 : i = j
                · rw [h3]; exact HN.out
                · exact hno.out i h1 (by omega)
              case measure => first | (simp [intOf]; done) | (simp [intOf]; omega)
    · have E : rrd zs A = (0, 0) := by
        refine rrd_none zs A hb.out (by have := hl.out; omega) ?_
        intro j h1 h4 h5
        exact hno.out j h1 (by have := hl.out; omega)
      by_cases h4 : k ≤ 4
      · have h6 : ¬ ((k : Int) ≤ (n : Int) - (A : Int)) := by omega
        have h4' : (k : Int) ≤ 4 := by omega
        go_wp2
        go_ret2
        exact ⟨by first | rfl | rw [E], hbel⟩
      · have h4' : ¬ (k : Int) ≤ 4 := by omega
        go_wp2
        go_ret2
        exact ⟨by first | rfl | rw [E], hbel⟩

set_option maxHeartbeats 400000 in
theorem specRrd_out (a : Option Addr) (n cap : Nat) (at' : Int) (w : World) (h : at' < 0 ∨ (n : Int) ≤ at') :
    Calls Tryd.prog 31 #[.slice a n cap, .int .i64 at'] w fun e w' => e = .returned (.tuple #[.int .i64 0, .int .i64 0]) ∧ w' = w := by
  by_cases h0 : at' < 0
  · go_enter Tryd.func31, Tryd.ntmps31
    go_wp2
    go_ret2
    exact ⟨rfl, rfl⟩
  · have h1 : (n : Int) ≤ at' := by omega
    go_enter Tryd.func31, Tryd.ntmps31
    go_wp2
    go_ret2
    exact ⟨rfl, rfl⟩

/-- What RuneRead answers. -/
def rra (zs : List Int) (at' : Int) : Int × Int := if at' < 0 ∨ (zs.length : Int) ≤ at' then (0, 0) else rrd zs at'.toNat

theorem specRrd_any (a : Option Addr) (n cap : Nat) (zs : List Int) (at' : Int) (w : World) (hl : zs.length = n) (hr : Rd w a zs) (hn : n ≤ 2097152) (hcap : n ≤ cap) (hcm : cap ≤ maxLen) :
    Calls Tryd.prog 31 #[.slice a n cap, .int .i64 at'] w fun e w' => e = .returned (.tuple #[.int .i64 (rra zs at').1, .int .i64 (rra zs at').2]) ∧ Below w.heap.size w w' := by
  by_cases h : at' < 0 ∨ (n : Int) ≤ at'
  · have e : rra zs at' = (0, 0) := by unfold rra; rw [hl, if_pos h]
    rw [e]
    refine (specRrd_out a n cap at' w h).mono ?_
    rintro e w' ⟨rfl, rfl⟩
    exact ⟨rfl, Below.refl _ _⟩
  · have e : rra zs at' = rrd zs at'.toNat := by unfold rra; rw [hl, if_neg h]
    rw [e]
    obtain ⟨A, rfl⟩ := Int.eq_ofNat_of_zero_le (show 0 ≤ at' by omega)
    have hne : zs ≠ [] := by intro h'; subst h'; simp at hl; omega
    obtain ⟨b, off, rfl, hb, hc⟩ := hr.2.resolve_left hne
    exact specRrd_in b off n cap A zs w hl hr.1 hb hc hn hcap hcm (by omega)

end Go.Proofs.YtndlehogfedfaaaDoor
