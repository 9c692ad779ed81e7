/-
  l03Find, the model's.
-/
import Derived.Test.YtkjnbjohicgooaaGreatTyLink
import Derived.Test.YtkjnbjohicgooaaGreatNm
namespace Go.Proofs.YtkjnbjohicgooaaGreat
open Go.RowKit
set_option linter.unusedVariables false

theorem at_some' {e : Sh} {d : List e.D} {i : Nat} {x : e.D} (h : e.at d i = some x) : ∃ hi : i < d.length, d[i] = x := by
  have hk : i < d.length := by
    rcases Nat.lt_or_ge i d.length with h' | h'
    · exact h'
    · rw [show e.at d i = none from List.getElem?_eq_none h'] at h; cases h
  refine ⟨hk, ?_⟩
  have : d[i]? = some x := h
  rw [List.getElem?_eq_getElem hk] at this
  exact Option.some.inj this

abbrev LinkD := ByteArray × Int × Unit

/-- The Id that a name is linked to. -/
def findL : List LinkD → ByteArray → Int
  | [], _ => 0
  | x :: l, s => if x.1 = s then x.2.1 else findL l s

theorem findL_drop (l : List LinkD) (s : ByteArray) (k : Nat) (h : ∀ i (hi : i < l.length), i < k → l[i].1 ≠ s) : findL l s = findL (l.drop k) s := by
  induction k generalizing l with
  | zero => simp
  | succ k ih =>
    cases l with
    | nil => simp
    | cons x l =>
      have h0 := h 0 (by simp) (by omega)
      simp at h0
      rw [List.drop_succ_cons, ← ih l (fun i hi hk => by have := h (i + 1) (by simp; omega) (by omega); simpa using this)]
      simp [findL, h0]

theorem str_neq {a b : ByteArray} (h : ¬ a = b) : (a.toList == b.toList) = false := by
  rw [beq_eq_false_iff_ne]
  intro e
  apply h
  rw [ByteArray.toList_eq, ByteArray.toList_eq] at e
  exact ByteArray.ext (Array.toList_inj.1 e)

set_option maxRecDepth 100000 in
set_option maxHeartbeats 1000000 in
theorem specFind_ok (a : Option Addr) (n cap : Nat) (d : List LinkD) (s : ByteArray) (w : World) (hr : Reads (.sl shLink) w [.slice a n cap] d) :
    Calls Tryz.prog 59 #[.slice a n cap, .string s] w fun e w' => e = .returned (.int .i64 (findL d s)) ∧ Below w.heap.size w w' := by
  obtain ⟨hl0, hc1, hc2⟩ := reads_len hr
  have hl : List.length (α := LinkD) d = n := hl0
  unfold maxLen at hc2
  have HR : Hid (Reads (.sl shLink) w [.slice a n cap] d) := hr
  have HL : Hid (List.length (α := LinkD) d = n) := hl
  clear hr hl hl0
  go_enter Tryz.func59, Tryz.ntmps59
  go_wp2
  go_loopw [9] (fun i wr => ∃ k : Nat, k ≤ n ∧ i = .int .i64 k ∧ Hid (∀ i (hi : i < List.length (α := LinkD) d), i < k → (d[i] : LinkD).1 ≠ s) ∧ Below w.heap.size w wr) (fun i _ => n - (intOf i).toNat)
  case atStart => exact ⟨0, Nat.zero_le _, rfl, fun i _ hi => by omega, Below.refl _ _⟩
  case round =>
    obtain ⟨k, hk, rfl, hno, hbel⟩ := hrel
    have hfd := findL_drop d s k hno.out
    by_cases hlt : k < n
    · obtain ⟨b, off, c, x, rfl, hb, hx, hrx, hcell⟩ := reads_elem HR.out k hlt
      obtain ⟨rfl, _⟩ := open_Link hrx
      obtain ⟨hkd, hxe⟩ := at_some' hx
      obtain ⟨y0, ey0⟩ : ∃ y : ByteArray, y = x.1 := ⟨_, rfl⟩
      obtain ⟨y1, ey1⟩ : ∃ y : Int, y = x.2.1 := ⟨_, rfl⟩
      have g0 : wr.cell? ⟨b, off + k * 2, none⟩ = some (.string y0) := by rw [ey0]; exact (hbel.cell (p := ⟨b, off + (k * 2 + 0), none⟩) hb).trans (hcell 0 (by decide))
      have g1 : wr.cell? ⟨b, off + k * 2 + 1, none⟩ = some (.int .i64 y1) := by rw [ey1]; exact (hbel.cell (p := ⟨b, off + (k * 2 + 1), none⟩) hb).trans (hcell 1 (by decide))
      have hbs := hbel.size
      have bA : Below w.heap.size w (wr.alloc (.cells #[.string y0, .int .i64 y1] 81)) := hbel.alloc hbs _
      have hd : List.drop (α := LinkD) k d = (y0, y1, ()) :: List.drop (α := LinkD) (k + 1) d := by
        have h1 := List.drop_eq_getElem_cons (l := (show List LinkD from d)) (i := k) hkd
        rw [ey0, ey1]
        have h2 : (show List LinkD from d)[k] = (x.1, x.2.1, ()) := hxe
        exact h1.trans (congrArg (fun z : LinkD => z :: List.drop (α := LinkD) (k + 1) d) h2)
      rw [hd] at hfd
      by_cases hs : y0 = s
      · have E : Hid (findL d s = y1) := by show _ = _; rw [hfd]; simp [findL, hs]
        subst hs
        have hq : (y0.toList == y0.toList) = true := by simp
        clear hcell hrx hx hxe ey0 ey1 hd hfd hno
        go_wp2
        go_ret
        exact ⟨by rw [E.out]; rfl, bA⟩
      · have hq := str_neq hs
        have HN : Hid (∀ i (hi : i < List.length (α := LinkD) d), i < k + 1 → (d[i] : LinkD).1 ≠ s) := by
          intro i hi hik
          by_cases e : i = k
          · subst e
            have h2 : (show List LinkD from d)[i].1 = y0 := by rw [ey0]; exact congrArg Prod.fst hxe
            intro e2
            exact hs (h2.symm.trans e2)
          · exact hno.out i hi (by omega)
        clear hcell hrx hx hxe ey0 ey1 hd hfd hno hs
        go_wp2
        go_roundw
        case rel => exact ⟨k + 1, by omega, by go_num, HN, bA⟩
        case measure => simp [intOf]; omega
    · have E : Hid (findL d s = 0) := by
        show _ = _
        rw [hfd, List.drop_eq_nil_of_le (by have := HL.out; omega)]
        rfl
      clear hfd hno
      go_wp2
      go_ret
      exact ⟨by rw [E.out]; rfl, hbel⟩

end Go.Proofs.YtkjnbjohicgooaaGreat
