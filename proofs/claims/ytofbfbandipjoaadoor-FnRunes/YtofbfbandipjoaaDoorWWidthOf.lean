/-
  WidthOf, the model's and the program's; the walk of the law FnExactWidthOf.
-/
import Derived.Test.YtofbfbandipjoaaDoorWid
import Derived.Test.YtofbfbandipjoaaDoorIMarks
namespace Go.Proofs.YtofbfbandipjoaaDoor
open Go.RowKit
set_option linter.unusedVariables false

def sumw (zs : List Int) : Nat → Int
  | 0 => 0
  | k + 1 => sumw zs k + wd (zs[k]?.getD 0)

theorem sumw_bd (zs : List Int) : ∀ k : Nat, 0 ≤ sumw zs k ∧ sumw zs k ≤ 2 * k
  | 0 => by simp [sumw]
  | k + 1 => by
    have h1 := sumw_bd zs k
    have h2 := wd_bd (zs[k]?.getD 0)
    simp only [sumw]
    omega

set_option maxHeartbeats 400000 in
theorem implWidOf_any (a : Option Addr) (n cap : Nat) (zs : List Int) (w : World) (hl : Hid (zs.length = n)) (hr : RdI w a zs) (hn : n ≤ 2097152) :
    Calls Tryd.prog 14 #[.slice a n cap] w fun e w' => e = .returned (.int .i64 (sumw zs n)) ∧ Below w.heap.size w w' := by
  go_enter Tryd.func14, Tryd.ntmps14
  go_wp2
  go_loopw [3, 8] (fun s i wr => ∃ k : Nat, k ≤ n ∧ s = .int .i64 (sumw zs k) ∧ i = .int .i64 k ∧ Below w.heap.size w wr) (fun _ i _ => n - (intOf i).toNat)
  case atStart => exact ⟨0, Nat.zero_le _, rfl, rfl, Below.refl _ _⟩
  case round =>
    obtain ⟨k, hk, rfl, rfl, hb⟩ := hrel
    by_cases hlt : k < n
    · have hne : zs ≠ [] := by intro h; have := hl.out; subst h; simp at this; omega
      obtain ⟨b, off, rfl, hbl, hc⟩ := hr.resolve_left hne
      obtain ⟨x, hx⟩ : ∃ x, x = zs[k]?.getD 0 := ⟨_, rfl⟩
      obtain ⟨S, hS⟩ : ∃ S, S = sumw zs k := ⟨_, rfl⟩
      have hcell : wr.cell? ⟨b, off + k, none⟩ = some (.int .i64 x) := by rw [hx]; exact (hb.cell (p := ⟨b, off + k, none⟩) hbl).trans (hc k (by have := hl.out; omega))
      have HD : Hid (sumw zs (k + 1) = S + wd x) := by show sumw zs (k + 1) = _; rw [sumw, hx, hS]
      have s1 := sumw_bd zs k
      have s2 := wd_bd x
      rw [← hS] at s1 ⊢
      clear hS hx hc hne hr
      go_wp2_with fail
      refine (implWid_any x _).mono ?_
      rintro e w2 ⟨rfl, rfl⟩
      have hb2 := hb
      go_wp2
      go_roundw
      case rel => exact ⟨k + 1, by omega, by rw [HD.out], by go_num, hb2⟩
      case measure => simp [intOf]; omega
    · have e : k = n := by omega
      subst e
      go_wp2
      go_ret
      exact ⟨rfl, hb⟩

end Go.Proofs.YtofbfbandipjoaaDoor
