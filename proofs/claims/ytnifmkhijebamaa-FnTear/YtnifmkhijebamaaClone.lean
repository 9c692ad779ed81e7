/-
  bytes.Clone, and the cells of a slice of bytes as the source of an append.
-/
import Derived.Test.YtnifmkhijebamaaKeep
import Derived.Laws.AppendOwnNone
import Derived.Lib.SliceRun
namespace Go.Proofs.Ytnifmkhijebamaa
open Go.RowKit
set_option linter.unusedVariables false

theorem rd_take {w : World} {a : Option Addr} {zs : List Int} (h : Rd w a zs) (j : Nat) : Rd w a (zs.take j) := by
  obtain ⟨h1, h2⟩ := h
  refine ⟨fun i => ?_, ?_⟩
  · by_cases hi : i < j
    · rw [List.getElem?_take_of_lt hi]; exact h1 i
    · rw [List.getElem?_eq_none (by simp; omega)]; simp
  · rcases h2 with rfl | ⟨b, off, h3, h4, h5⟩
    · exact .inl (by simp)
    · refine .inr ⟨b, off, h3, h4, fun i hi => ?_⟩
      rw [List.length_take] at hi
      rw [List.getElem?_take_of_lt (by omega)]
      exact h5 i (by omega)

theorem rd_src {w : World} {ad : Addr} {zs : List Int} (h : Rd w (some ad) zs) : ∀ (j : Nat) (u : Value), (zs.map (Value.int .u8))[j]? = some u → w.cell? (ad.add j) = some u := by
  intro j u hu
  rcases h.2 with rfl | ⟨b, off, h3, h4, h5⟩
  · simp at hu
  · obtain rfl : ad = ⟨b, off, none⟩ := Option.some.inj h3
    have hj : j < zs.length := by
      have := (List.getElem?_eq_some_iff.1 hu).1
      simpa using this
    have e : (⟨b, off, none⟩ : Addr).add j = ⟨b, off + j, none⟩ := by cases j <;> simp [Addr.add]
    rw [e, h5 j hj]
    rw [List.getElem?_map] at hu
    rw [List.getElem?_eq_getElem hj] at hu ⊢
    simpa using hu

theorem bytes_oneCell (zs : List Int) : ∀ u ∈ zs.map (Value.int .u8), u.oneCell' = true := by
  intro u hu
  simp at hu
  obtain ⟨z, _, rfl⟩ := hu
  rfl

theorem rd_none {w : World} {zs : List Int} (h : Rd w none zs) : zs = [] := by
  rcases h.2 with h | ⟨b, off, h, _⟩
  · exact h
  · cases h

set_option maxHeartbeats 1000000 in
theorem clone_any (a : Option Addr) (n cap : Nat) (zs : List Int) (w : World) (hl : Hid (zs.length = n)) (hr : Rd w a zs) (hn : n ≤ 2097152) :
    Calls Try.prog 13 #[.slice a n cap] w fun e w' => ∃ v, e = .returned v ∧ w'.ownsRow w.heap.size 5 1 v n (zs.map (Value.int .u8)) ∧ Below w.heap.size w w' := by
  obtain ⟨i0, hi, hz0, hz1, hz2⟩ := info_parts Try.infoB
  have hm0 : (0 : Nat) ≤ maxLen := Nat.zero_le _
  have hown00 := World.ownsRow_lit (base := w.heap.size) (e := 5) (size := 1) w #[] 0 (Nat.le_refl _) hm0 rfl
  have q22 : ∀ (w : World) (a : Option Addr) (n c n' c' : Nat), (binOp .eql 22 (.slice a n c) (.slice none n' c')).run Try.prog w = .ok (.bool a.isNone) w := fun w a n c n' c' => Lib.run_eql_slice_nil w _ _ a n c n' c' Try.underlying22
  cases a with
  | none =>
    have hz := rd_none hr
    subst hz
    have h0 : n = 0 := by have := hl.out; simpa using this.symm
    subst h0
    go_enter Try.func13, Try.ntmps13
    go_wp2
    go_ret
    exact ⟨_, rfl, ⟨by simp, .inl ⟨rfl, rfl⟩⟩, Below.refl _ _⟩
  | some ad =>
    have hsrc := rd_src (hr.later ((Below.refl w.heap.size w).alloc (Nat.le_refl _) (.cells #[] 5)))
    go_enter Try.func13, Try.ntmps13
    have k0 : (zs.map (Value.int .u8)).length = n * 1 := by simp; exact hl.out
    have k3 : 0 + n ≤ maxLen := by unfold maxLen; omega
    have k4 : (0 + n) * 1 ≤ 140737488355328 := by omega
    have k5 : w.heap.size ≤ (w.alloc (.cells #[] 5)).heap.size := by simp
    have K5 : Hid (_ ∧ _ ∧ _ ∧ _ ∧ _) := ⟨k0, hsrc, k3, k4, k5⟩
    clear k0 k3 k4 k5 hsrc
    go_wp2_with (at_builtin; refine wpList_append_own _ rfl _ _ 22 rfl w.heap.size 5 i0 (.int .u8 0) 1 1 Try.underlying22 hi hz0 hz1 hz2 rfl (by decide) _ _ _ rfl hown00 ad n _ (zs.map (Value.int .u8)) rfl K5.out.1 K5.out.2.1 (bytes_oneCell _) K5.out.2.2.1 K5.out.2.2.2.1 K5.out.2.2.2.2 ?_)
    intro v0 w1 hown1 hgrow1 _
    have hbel1 : Below w.heap.size w w1 := ((Below.refl _ _).alloc (Nat.le_refl _) _).grown hgrow1 (by simp) (fun k h => by simp [Value.ownBlock] at h; omega)
    go_wp2
    go_ret
    exact ⟨_, rfl, by simpa using hown1, hbel1⟩

end Go.Proofs.Ytnifmkhijebamaa
