/-
  directoryBehind, turnsOk of the program.
-/
import Derived.Test.YtkjnbjohicgooaaGreatTurnI
import Derived.Test.YtkjnbjohicgooaaGreatDOkS
namespace Go.Proofs.YtkjnbjohicgooaaGreat
open Go.RowKit Go.Maps
set_option linter.unusedVariables false

def dirF (l : List LinkD) (ts : List TurnD) : List LinkD := ts.foldl turnI l
theorem dirF_snoc (l : List LinkD) (ts : List TurnD) (t : TurnD) : dirF l (ts ++ [t]) = turnI (dirF l ts) t := by simp [dirF]
theorem rev_take (l : List LinkD) (k : Nat) (hk : k < l.length) (x : LinkD) (hx : l[k] = x) : (l.take (k + 1)).reverse = x :: (l.take k).reverse := by
  rw [List.take_succ_eq_append_getElem hk, hx]; simp

theorem makeMap_run (h : Int) (w : World) : (Instr.makeMap 77 (some (.int .i64 h))).run Tryz.prog w = .ok (.map (some w.heap.size)) (w.alloc (.map #[] 0)) := by
  simp [Instr.makeMap, run_underlying Tryz.underlying77, asInt, Result.andThen]
  rfl

theorem turnsOkI_snoc : ∀ {l : List LinkD} {ts : List TurnD} {t : TurnD}, turnsOkI l (ts ++ [t]) ↔ turnsOkI l ts ∧ turnOkI t ∧ turnFitsI (dirF l ts) t
  | l, [], t => by simp [turnsOkI, dirF]
  | l, u :: ts, t => by
    have ih := turnsOkI_snoc (l := turnI l u) (ts := ts) (t := t)
    simp only [List.cons_append, turnsOkI]
    rw [ih]
    simp [dirF, and_assoc]
theorem turnsOkI_take {l : List LinkD} {ts : List TurnD} (h : turnsOkI l ts) (k : Nat) : turnsOkI l (ts.take k) := by
  induction ts generalizing l k with
  | nil => simpa using h
  | cons t ts ih =>
    cases k with
    | zero => simp [turnsOkI]
    | succ k => exact ⟨h.1, ih h.2 k⟩

set_option maxRecDepth 100000 in
set_option maxHeartbeats 4000000 in
theorem directory_ok (a4 : Option Addr) (n4 c4 : Nat) (kp : List LinkD) (a5 : Option Addr) (n5 c5 : Nat) (tn : List TurnD) (w : World) (r4 : Reads (.sl shLink) w [.slice a4 n4 c4] kp) (r5 : Reads (.sl shTurn) w [.slice a5 n5 c5] tn) (hn45 : n4 + n5 ≤ 1048576) :
    Calls Tryz.prog 47 #[.slice a4 n4 c4, .slice a5 n5 c5] w fun e w' => e = .returned (.map (some w.heap.size)) ∧ MapIs w' w.heap.size (n4 + n5) (dirF kp.reverse tn) ∧ Below w.heap.size w w' := by
  have l4 : kp.length = n4 := (reads_len r4).1
  have l5 : tn.length = n5 := (reads_len r5).1
  have hmm := makeMap_run
  have HR : Hid (Reads (.sl shLink) w [.slice a4 n4 c4] kp ∧ Reads (.sl shTurn) w [.slice a5 n5 c5] tn) := ⟨r4, r5⟩
  have HL : Hid (kp.length = n4 ∧ tn.length = n5) := ⟨l4, l5⟩
  have HM0 : Hid (MapIs (w.alloc (.map #[] 0)) w.heap.size 0 []) := MapIs.made w
  clear r4 r5 l4 l5
  obtain ⟨b, hb0⟩ : ∃ b, b = w.heap.size := ⟨_, rfl⟩
  have HB : Hid (b = w.heap.size) := hb0
  have hbw : w.heap.size ≤ b := by omega
  rw [← hb0] at HM0 ⊢
  clear hb0
  go_enter Tryz.func47, Tryz.ntmps47
  go_wp2
  rw [← HB.out]
  go_loopw [15] (fun i wr => ∃ k : Nat, k ≤ n4 ∧ i = .int .i64 k ∧ Hid (MapIs wr b k (kp.take k).reverse) ∧ Below w.heap.size w wr) (fun i _ => n4 - (intOf i).toNat)
  case atStart => exact ⟨0, Nat.zero_le _, rfl, HM0.out, (Below.refl _ _).alloc (Nat.le_refl _) _⟩
  case round =>
    obtain ⟨k, hk, rfl, hM, hbel⟩ := hrel
    have hbs := hbel.size
    have hblt := hM.out.lt
    by_cases hlt : k < n4
    · obtain ⟨b', off, cc, x, rfl, hb, hx, hrx, hcell⟩ := reads_elem HR.out.1 k hlt
      obtain ⟨rfl, hys⟩ := open_Link hrx
      obtain ⟨hkd, hxe⟩ := at_some' hx
      obtain ⟨y0, ey0⟩ : ∃ y : ByteArray, y = x.1 := ⟨_, rfl⟩
      obtain ⟨y1, ey1⟩ : ∃ y : Int, y = x.2.1 := ⟨_, rfl⟩
      have hxv : x = (y0, y1, ()) := by rw [ey0, ey1]; rfl
      have HT : Hid ((kp.take (k + 1)).reverse = (y0, y1, ()) :: (kp.take k).reverse) := rev_take kp k hkd _ (hxe.trans hxv)
      have g0 : wr.cell? ⟨b', off + k * 2, none⟩ = some (.string y0) := by rw [ey0]; exact (hbel.cell (p := ⟨b', off + (k * 2 + 0), none⟩) hb).trans (hcell 0 (by decide))
      have g1 : wr.cell? ⟨b', off + k * 2 + 1, none⟩ = some (.int .i64 y1) := by rw [ey1]; exact (hbel.cell (p := ⟨b', off + (k * 2 + 1), none⟩) hb).trans (hcell 1 (by decide))
      rw [← ey0] at hys
      clear hcell hrx hx hxe hxv ey0 ey1
      go_wp2_with (at_mapUpdate; refine wp_store _ rfl _ _ _ rfl b k _ rfl (hM.out.alloc _) (by unfold maxLen; omega) y0 y1 rfl rfl hys ?_)
      intro w1 hm1 hg1
      rw [← HT.out] at hm1
      have b1 : Below w.heap.size w w1 := (hbel.alloc hbs _).grown hg1 (by simp; omega) (fun y h => by cases h; exact hbw)
      have HM1 : Hid (MapIs w1 b (k + 1) (kp.take (k + 1)).reverse) := hm1
      clear hm1 hg1 hM
      go_wp2
      go_roundw
      case rel => exact ⟨k + 1, by omega, by go_num, HM1, b1⟩
      case measure => simp [intOf]; omega
    · have HMK : Hid (MapIs wr b n4 kp.reverse) := by
        have h := hM.out
        rw [List.take_of_length_le (by have := HL.out.1; omega)] at h
        exact h.mono hk
      clear hM
      go_wp2
      go_loopw [27] (fun i wr => ∃ k : Nat, k ≤ n5 ∧ i = .int .i64 k ∧ Hid (MapIs wr b (n4 + k) (dirF kp.reverse (tn.take k))) ∧ Below w.heap.size w wr) (fun i _ => n5 - (intOf i).toNat)
      case atStart => exact ⟨0, Nat.zero_le _, rfl, HMK.out, hbel⟩
      case round =>
        clear HMK hbel hbs hlt hk hblt
        obtain ⟨k, hk, rfl, hM, hbel⟩ := hrel
        have hbs := hbel.size
        by_cases hlt : k < n5
        · obtain ⟨b', off, cc, x, rfl, hb, hx, hrx, hcell⟩ := reads_elem HR.out.2 k hlt
          obtain ⟨rfl, hl1, hl2⟩ := open_Turn hrx
          obtain ⟨hkd, hxe⟩ := at_some' hx
          obtain ⟨y0, ey0⟩ : ∃ y : Int, y = x.1 := ⟨_, rfl⟩
          obtain ⟨y1, ey1⟩ : ∃ y : ByteArray, y = x.2.1 := ⟨_, rfl⟩
          obtain ⟨y2, ey2⟩ : ∃ y : ByteArray, y = x.2.2.1 := ⟨_, rfl⟩
          obtain ⟨y3, ey3⟩ : ∃ y : Int, y = x.2.2.2.1 := ⟨_, rfl⟩
          have hxv : x = (y0, y1, y2, y3, ()) := by rw [ey0, ey1, ey2, ey3]; rfl
          have g0 : wr.cell? ⟨b', off + k * 4, none⟩ = some (.int .i64 y0) := by rw [ey0]; exact (hbel.cell (p := ⟨b', off + (k * 4 + 0), none⟩) hb).trans (hcell 0 (by decide))
          have g1 : wr.cell? ⟨b', off + k * 4 + 1, none⟩ = some (.string y1) := by rw [ey1]; exact (hbel.cell (p := ⟨b', off + (k * 4 + 1), none⟩) hb).trans (hcell 1 (by decide))
          have g2 : wr.cell? ⟨b', off + k * 4 + 2, none⟩ = some (.string y2) := by rw [ey2]; exact (hbel.cell (p := ⟨b', off + (k * 4 + 2), none⟩) hb).trans (hcell 2 (by decide))
          have g3 : wr.cell? ⟨b', off + k * 4 + 3, none⟩ = some (.int .i64 y3) := by rw [ey3]; exact (hbel.cell (p := ⟨b', off + (k * 4 + 3), none⟩) hb).trans (hcell 3 (by decide))
          rw [← ey1] at hl1
          rw [← ey2] at hl2
          have HT : Hid (tn.take (k + 1) = tn.take k ++ [(y0, y1, y2, y3, ())]) := take_snocT tn k hkd _ (hxe.trans hxv)
          obtain ⟨W1, hW1⟩ : ∃ W1, W1 = wr.alloc (.cells #[.int .i64 y0, .string y1, .string y2, .int .i64 y3] 95) := ⟨_, rfl⟩
          have bA : Below w.heap.size w W1 := by rw [hW1]; exact hbel.alloc hbs _
          have bA1 : Below wr.heap.size wr W1 := by rw [hW1]; exact (Below.refl _ _).alloc (Nat.le_refl _) _
          have zW1 : wr.heap.size < W1.heap.size := by rw [hW1]; simp
          have hbx : W1.heap[wr.heap.size]? = some (.cells #[.int .i64 y0, .string y1, .string y2, .int .i64 y3] 95 (0, 0)) := by rw [hW1]; exact heap_alloc_new wr _
          have HW1 : Hid (W1 = wr.alloc (.cells #[.int .i64 y0, .string y1, .string y2, .int .i64 y3] 95)) := hW1
          have BT : Hid (∀ w', Below W1.heap.size W1 w' → w'.cell? ⟨wr.heap.size, 0, none⟩ = some (.int .i64 y0) ∧ w'.cell? ⟨wr.heap.size, 1, none⟩ = some (.string y1) ∧ w'.cell? ⟨wr.heap.size, 2, none⟩ = some (.string y2) ∧ w'.cell? ⟨wr.heap.size, 3, none⟩ = some (.int .i64 y3)) := fun w' h => by
            have i := (h.block _ zW1).trans hbx
            exact ⟨box_cell i rfl, box_cell i rfl, box_cell i rfl, box_cell i rfl⟩
          clear hcell hrx hx hxe hxv ey0 ey1 ey2 ey3 hW1 hbx
          have qM : Hid (Calls Tryz.prog 99 #[.map (some b), .agg #[.int .i64 y0, .string y1, .string y2, .int .i64 y3]] W1 fun e w' => e = .returned (.tuple #[]) ∧ MapIs w' b (n4 + k + 1) (turnI (dirF kp.reverse (tn.take k)) (y0, y1, y2, y3, ())) ∧ W1.grownBy w' (some b)) := makeTurn_any b (n4 + k) _ y0 y1 y2 y3 W1 (hM.out.later bA1) hl1 hl2 (by omega)
          clear bA1 hl1 hl2 BT
          go_wp2_with fail
          rw [← HW1.out]
          refine qM.out.mono ?_
          rintro e w1 ⟨rfl, hm1, hg1⟩
          rw [← dirF_snoc, ← HT.out] at hm1
          have b1 : Below w.heap.size w w1 := bA.grown hg1 bA.size (fun y h => by cases h; exact hbw)
          have HM1 : Hid (MapIs w1 b (n4 + (k + 1)) (dirF kp.reverse (tn.take (k + 1)))) := hm1
          clear hm1 hg1 hM
          go_wp2
          go_roundw
          case rel => exact ⟨k + 1, by omega, by go_num, HM1, b1⟩
          case measure => simp [intOf]; omega
        · have HE : Hid (MapIs wr b (n4 + n5) (dirF kp.reverse tn)) := by
            have h := hM.out
            rw [List.take_of_length_le (by have := HL.out.2; omega)] at h
            exact h.mono (by omega)
          clear hM
          go_wp2
          go_ret
          exact ⟨rfl, HE.out, by rw [HB.out]; exact hbel⟩

/-- The turns fit, one behind the other. -/
def fitAllB : List LinkD → List TurnD → Bool
  | _, [] => true
  | l, t :: ts => okIB t && fitsB l t && fitAllB (turnI l t) ts
theorem fitAllB_iff : ∀ (ts : List TurnD) (l : List LinkD), fitAllB l ts = true ↔ turnsOkI l ts
  | [], l => by simp [fitAllB, turnsOkI]
  | t :: ts, l => by
    unfold fitAllB turnsOkI
    rw [Bool.and_eq_true, Bool.and_eq_true, okIB_iff, fitsB_iff, fitAllB_iff ts]
/-- The word of turnsOk. -/
def turnsIB (kp : List LinkD) (tn : List TurnD) : Bool := decide (tn.length ≤ 40) && fitAllB kp.reverse tn
theorem turnsIB_iff (kp : List LinkD) (tn : List TurnD) : turnsIB kp tn = true ↔ tn.length ≤ 40 ∧ turnsOkI kp.reverse tn := by
  unfold turnsIB
  rw [Bool.and_eq_true, decide_eq_true_eq, fitAllB_iff]
theorem turnsIB_no {kp : List LinkD} {tn : List TurnD} (h : ¬ (tn.length ≤ 40 ∧ turnsOkI kp.reverse tn)) : turnsIB kp tn = false := by
  cases e : turnsIB kp tn
  · rfl
  · exact absurd ((turnsIB_iff kp tn).1 e) h
theorem turnsIB_yes {kp : List LinkD} {tn : List TurnD} (h : tn.length ≤ 40 ∧ turnsOkI kp.reverse tn) : turnsIB kp tn = true := (turnsIB_iff kp tn).2 h

set_option maxRecDepth 100000 in
set_option maxHeartbeats 4000000 in
theorem turnsOk_ok (a4 : Option Addr) (n4 c4 : Nat) (kp : List LinkD) (a5 : Option Addr) (n5 c5 : Nat) (tn : List TurnD) (w : World) (r4 : Reads (.sl shLink) w [.slice a4 n4 c4] kp) (r5 : Reads (.sl shTurn) w [.slice a5 n5 c5] tn) (hn45 : n4 + n5 ≤ 1048576) :
    Calls Tryz.prog 92 #[.slice a4 n4 c4, .slice a5 n5 c5] w fun e w' => e = .returned (.bool (turnsIB kp tn)) ∧ Below w.heap.size w w' := by
  have l5 : tn.length = n5 := (reads_len r5).1
  have l4 : kp.length = n4 := (reads_len r4).1
  have HL : Hid (kp.length = n4 ∧ tn.length = n5) := ⟨l4, l5⟩
  have Hno : Hid (¬ (tn.length ≤ 40 ∧ turnsOkI kp.reverse tn) → turnsIB kp tn = false) := turnsIB_no
  have Hyes : Hid (tn.length ≤ 40 ∧ turnsOkI kp.reverse tn → turnsIB kp tn = true) := turnsIB_yes
  obtain ⟨V, hV⟩ : ∃ V, V = turnsIB kp tn := ⟨_, rfl⟩
  rw [← hV] at Hno Hyes ⊢
  have qD : Hid (Calls Tryz.prog 47 #[.slice a4 n4 c4, .slice none 0 0] w fun e w' => e = .returned (.map (some w.heap.size)) ∧ MapIs w' w.heap.size (n4 + 0) kp.reverse ∧ Below w.heap.size w w') :=
    directory_ok a4 n4 c4 kp none 0 0 [] w r4 ⟨none, 0, rfl, Nat.le_refl _, Nat.zero_le _, .inl rfl⟩ (by omega)
  have HR : Hid (True ∧ Reads (.sl shTurn) w [.slice a5 n5 c5] tn) := ⟨trivial, r5⟩
  obtain ⟨b, hb0⟩ : ∃ b, b = w.heap.size := ⟨_, rfl⟩
  have hbw : w.heap.size ≤ b := by omega
  have HB : Hid (b = w.heap.size) := hb0
  rw [← hb0] at qD
  clear r4 r5 l4 l5 hV hb0
  by_cases h40 : (40 : Int) < (n5 : Int)
  · have EE : Hid (V = false) := Hno.out (fun h => by have := HL.out.2; omega)
    go_enter Tryz.func92, Tryz.ntmps92
    go_wp2
    go_ret
    exact ⟨by rw [EE.out]; rfl, Below.refl _ _⟩
  go_enter Tryz.func92, Tryz.ntmps92
  go_wp2_with fail
  refine qD.out.mono ?_
  rintro e w0 ⟨rfl, hm0, hb0⟩
  have HM0 : Hid (MapIs w0 b (n4 + 0) kp.reverse ∧ Below w.heap.size w w0) := ⟨hm0, by have h := hb0; rw [HB.out] at h; exact h⟩
  clear hm0 hb0
  go_wp2
  go_loopw [15] (fun i wr => ∃ k : Nat, k ≤ n5 ∧ i = .int .i64 k ∧ Hid (MapIs wr b (n4 + k) (dirF kp.reverse (tn.take k)) ∧ turnsOkI kp.reverse (tn.take k)) ∧ Below w.heap.size w wr) (fun i _ => n5 - (intOf i).toNat)
  case atStart => exact ⟨0, Nat.zero_le _, rfl, ⟨HM0.out.1, trivial⟩, HM0.out.2⟩
  case round =>
    obtain ⟨k, hk, rfl, hM, hbel⟩ := hrel
    have hbs := hbel.size
    by_cases hlt : k < n5
    · obtain ⟨b', off, cc, x, rfl, hb, hx, hrx, hcell⟩ := reads_elem HR.out.2 k hlt
      obtain ⟨rfl, hl1, hl2⟩ := open_Turn hrx
      obtain ⟨hkd, hxe⟩ := at_some' hx
      obtain ⟨y0, ey0⟩ : ∃ y : Int, y = x.1 := ⟨_, rfl⟩
      obtain ⟨y1, ey1⟩ : ∃ y : ByteArray, y = x.2.1 := ⟨_, rfl⟩
      obtain ⟨y2, ey2⟩ : ∃ y : ByteArray, y = x.2.2.1 := ⟨_, rfl⟩
      obtain ⟨y3, ey3⟩ : ∃ y : Int, y = x.2.2.2.1 := ⟨_, rfl⟩
      have hxv : x = (y0, y1, y2, y3, ()) := by rw [ey0, ey1, ey2, ey3]; rfl
      have g0 : wr.cell? ⟨b', off + k * 4, none⟩ = some (.int .i64 y0) := by rw [ey0]; exact (hbel.cell (p := ⟨b', off + (k * 4 + 0), none⟩) hb).trans (hcell 0 (by decide))
      have g1 : wr.cell? ⟨b', off + k * 4 + 1, none⟩ = some (.string y1) := by rw [ey1]; exact (hbel.cell (p := ⟨b', off + (k * 4 + 1), none⟩) hb).trans (hcell 1 (by decide))
      have g2 : wr.cell? ⟨b', off + k * 4 + 2, none⟩ = some (.string y2) := by rw [ey2]; exact (hbel.cell (p := ⟨b', off + (k * 4 + 2), none⟩) hb).trans (hcell 2 (by decide))
      have g3 : wr.cell? ⟨b', off + k * 4 + 3, none⟩ = some (.int .i64 y3) := by rw [ey3]; exact (hbel.cell (p := ⟨b', off + (k * 4 + 3), none⟩) hb).trans (hcell 3 (by decide))
      rw [← ey1] at hl1
      rw [← ey2] at hl2
      have HT : Hid (tn.take (k + 1) = tn.take k ++ [(y0, y1, y2, y3, ())]) := take_snocT tn k hkd _ (hxe.trans hxv)
      obtain ⟨W1, hW1⟩ : ∃ W1, W1 = wr.alloc (.cells #[.int .i64 y0, .string y1, .string y2, .int .i64 y3] 95) := ⟨_, rfl⟩
      have bA : Below w.heap.size w W1 := by rw [hW1]; exact hbel.alloc hbs _
      have bA1 : Below wr.heap.size wr W1 := by rw [hW1]; exact (Below.refl _ _).alloc (Nat.le_refl _) _
      have zW1 : wr.heap.size < W1.heap.size := by rw [hW1]; simp
      have hbx : W1.heap[wr.heap.size]? = some (.cells #[.int .i64 y0, .string y1, .string y2, .int .i64 y3] 95 (0, 0)) := by rw [hW1]; exact heap_alloc_new wr _
      have HW1 : Hid (W1 = wr.alloc (.cells #[.int .i64 y0, .string y1, .string y2, .int .i64 y3] 95)) := hW1
      have BT : Hid (∀ w', Below W1.heap.size W1 w' → w'.cell? ⟨wr.heap.size, 0, none⟩ = some (.int .i64 y0) ∧ w'.cell? ⟨wr.heap.size, 1, none⟩ = some (.string y1) ∧ w'.cell? ⟨wr.heap.size, 2, none⟩ = some (.string y2) ∧ w'.cell? ⟨wr.heap.size, 3, none⟩ = some (.int .i64 y3)) := fun w' h => by
        have i := (h.block _ zW1).trans hbx
        exact ⟨box_cell i rfl, box_cell i rfl, box_cell i rfl, box_cell i rfl⟩
      clear hcell hrx hx hxe hxv ey0 ey1 ey2 ey3 hW1 hbx
      have qO : Hid (Calls Tryz.prog 122 #[.agg #[.int .i64 y0, .string y1, .string y2, .int .i64 y3]] W1 fun e w' => e = .returned (.bool (okIB (y0, y1, y2, y3, ()))) ∧ Below W1.heap.size W1 w') := turnOk_any y0 y1 y2 y3 W1 hl1 hl2
      have qF : Hid (∀ w', Below W1.heap.size W1 w' → Calls Tryz.prog 123 #[.map (some b), .agg #[.int .i64 y0, .string y1, .string y2, .int .i64 y3]] w' fun e w'' => e = .returned (.bool (fitsB (dirF kp.reverse (tn.take k)) (y0, y1, y2, y3, ()))) ∧ Below w'.heap.size w' w'') := fun w' hb' => turnFits_any b (n4 + k) _ y0 y1 y2 y3 w' ((hM.out.1.later bA1).later hb') hl1 hl2
      have qM : Hid (∀ w', Below W1.heap.size W1 w' → Calls Tryz.prog 99 #[.map (some b), .agg #[.int .i64 y0, .string y1, .string y2, .int .i64 y3]] w' fun e w'' => e = .returned (.tuple #[]) ∧ MapIs w'' b (n4 + k + 1) (turnI (dirF kp.reverse (tn.take k)) (y0, y1, y2, y3, ())) ∧ w'.grownBy w'' (some b)) := fun w' hb' => makeTurn_any b (n4 + k) _ y0 y1 y2 y3 w' ((hM.out.1.later bA1).later hb') hl1 hl2 (by omega)
      clear bA1 hl1 hl2
      go_wp2_with fail
      rw [← HW1.out]
      refine qO.out.mono ?_
      rintro e w1 ⟨rfl, hb1⟩
      have b1 := bA.trans (hb1.mono bA.size)
      have HB1 : Hid (Below W1.heap.size W1 w1) := hb1
      clear hb1 g0 g1 g2 g3
      cases hO : okIB (y0, y1, y2, y3, ()) with
      | false =>
        have EE : Hid (V = false) := Hno.out (fun h => by
          have h6 := turnsOkI_take h.2 (k + 1)
          rw [HT.out] at h6
          have h7 := (okIB_iff _).2 (turnsOkI_snoc.1 h6).2.1
          rw [hO] at h7; cases h7)
        go_wp2
        go_ret
        exact ⟨by rw [EE.out]; rfl, b1⟩
      | true =>
      obtain ⟨d0, d1, d2, d3⟩ := BT.out w1 HB1.out
      go_wp2_with fail
      refine (qF.out _ HB1.out).mono ?_
      rintro e w2 ⟨rfl, hb2⟩
      have b2 := b1.trans (hb2.mono b1.size)
      have HB2 : Hid (Below W1.heap.size W1 w2) := HB1.out.trans (hb2.mono HB1.out.size)
      clear hb2 d0 d1 d2 d3
      cases hF : fitsB (dirF kp.reverse (tn.take k)) (y0, y1, y2, y3, ()) with
      | false =>
        have EE : Hid (V = false) := Hno.out (fun h => by
          have h6 := turnsOkI_take h.2 (k + 1)
          rw [HT.out] at h6
          have h7 := (fitsB_iff _ _).2 (turnsOkI_snoc.1 h6).2.2
          rw [hF] at h7; cases h7)
        go_wp2
        go_ret
        exact ⟨by rw [EE.out]; rfl, b2⟩
      | true =>
      obtain ⟨d0, d1, d2, d3⟩ := BT.out w2 HB2.out
      go_wp2_with fail
      refine (qM.out _ HB2.out).mono ?_
      rintro e w3 ⟨rfl, hm3, hg3⟩
      rw [← dirF_snoc, ← HT.out] at hm3
      have b3 : Below w.heap.size w w3 := b2.grown hg3 b2.size (fun y h => by cases h; exact hbw)
      have HM3 : Hid (MapIs w3 b (n4 + (k + 1)) (dirF kp.reverse (tn.take (k + 1))) ∧ turnsOkI kp.reverse (tn.take (k + 1))) := ⟨hm3, by rw [HT.out]; exact turnsOkI_snoc.2 ⟨hM.out.2, (okIB_iff _).1 hO, (fitsB_iff _ _).1 hF⟩⟩
      clear hm3 hg3 hM d0 d1 d2 d3 hO hF
      go_wp2
      go_roundw
      case rel => exact ⟨k + 1, by omega, by go_num, HM3, b3⟩
      case measure => simp [intOf]; omega
    · have EE : Hid (V = true) := Hyes.out ⟨by have := HL.out.2; omega, by
        have h2 := hM.out.2
        rw [List.take_of_length_le (by have := HL.out.2; omega)] at h2
        exact h2⟩
      clear hM
      go_wp2
      go_ret
      exact ⟨by rw [EE.out]; rfl, hbel⟩

end Go.Proofs.YtkjnbjohicgooaaGreat
