/-
  raised: a row of ints, each raised by one and the same; new memory.
-/
import Derived.Test.YtojalheohpkdoaaDoorGrU
namespace Go.Proofs.YtojalheohpkdoaaDoor
open Go.RowKit
set_option linter.unusedVariables false

def up (k : Int) (zs : List Int) : List Int := zs.map (· + k)
theorem up_len (k : Int) (zs : List Int) : (up k zs).length = zs.length := by simp [up]
theorem up_at {k : Int} {zs : List Int} {i : Nat} (h : i < zs.length) : at0 (up k zs) i = at0 zs i + k := by
  simp [up, at0, h]
theorem up_up (k : Int) (zs : List Int) : up k (up (-k) zs) = zs := by
  unfold up
  rw [List.map_map]
  have : ((fun x : Int => x + k) ∘ fun x : Int => x + -k) = id := by
    funext x; simp; omega
  rw [this, List.map_id]

set_option maxHeartbeats 1000000 in
theorem raised_any (a : Option Addr) (n cap : Nat) (zs : List Int) (by_ : Int) (w : World) (hl : Hid (zs.length = n)) (hr : RdI w a zs) (hn : n ≤ 1048576) (hz : ∀ i, i < n → -1000000000 ≤ at0 zs i ∧ at0 zs i ≤ 1000000000) (hk0 : -1000 ≤ by_) (hk1 : by_ ≤ 1000) :
    Calls Tryd.prog 57 #[.slice a n cap, .int .i64 by_] w fun e w' => e = .returned (.slice (some ⟨w.heap.size, 0, none⟩) n n) ∧
      w'.ownsRow w.heap.size 3 1 (.slice (some ⟨w.heap.size, 0, none⟩) n n) n ((up by_ zs).map (Value.int .i64)) ∧ Below w.heap.size w w' := by
  obtain ⟨i0, hi, hz0, hz1, hz2⟩ := info_parts Tryd.infoI
  have HZ : Hid (∀ i, i < n → -1000000000 ≤ at0 zs i ∧ at0 zs i ≤ 1000000000) := hz
  clear hz
  go_enter Tryd.func57, Tryd.ntmps57
  go_wp2_with (at_make; refine wpList_make_full _ rfl _ _ 22 rfl w.heap.size 3 i0 (.int .i64 0) 1 Tryd.underlying22 hi hz0 hz1 _ _ _ _ n rfl rfl rfl rfl ?b2 ?b3 (Nat.le_refl _) ?_)
  case b2 => rw [hz2]; omega
  case b3 => unfold maxLen; omega
  intro w0 hown0 hgrow0
  rw [halfI_zero (up by_ zs)] at hown0
  go_wp2
  go_loopw [13] (fun i wr => ∃ k : Nat, k ≤ n ∧ i = .int .i64 k ∧ wr.ownsRow w.heap.size 3 1 (.slice (some ⟨w.heap.size, 0, none⟩) n n) n ((halfI (up by_ zs) n k).map (Value.int .i64)) ∧ Below w.heap.size w wr)
    (fun i _ => n - (intOf i).toNat)
  case atStart => exact ⟨0, Nat.zero_le _, rfl, hown0, (Below.refl _ _).grown hgrow0 (Nat.le_refl _) (fun k h => by cases h)⟩
  case round =>
    obtain ⟨k, hk, rfl, hown, hb⟩ := hrel
    by_cases hlt : k < n
    · obtain ⟨b, off, rfl, hbl, hc⟩ : ∃ b off, a = some ⟨b, off, none⟩ ∧ b < w.heap.size ∧ ∀ i, i < n → w.cell? ⟨b, off + i, none⟩ = some (.int .i64 (at0 zs i)) := by
        rcases hr with h | ⟨b, off, h1, h2, h3⟩
        · have := hl.out; subst h; simp at this; omega
        · exact ⟨b, off, h1, h2, fun i hi => h3 i (by have := hl.out; omega)⟩
      obtain ⟨x, hx⟩ : ∃ x, x = at0 zs k := ⟨_, rfl⟩
      have hcr : wr.cell? ⟨b, off + k, none⟩ = some (.int .i64 x) := by rw [hx]; exact (hb.cell (p := ⟨b, off + k, none⟩) hbl).trans (hc k hlt)
      have hzk := HZ.out k hlt
      rw [← hx] at hzk
      obtain ⟨y, hy⟩ : ∃ y, x + by_ = y := ⟨_, rfl⟩
      have hyz : (up by_ zs)[k]?.getD 0 = y := by
        have := up_at (k := by_) (zs := zs) (i := k) (by have := hl.out; omega)
        rw [← hy, hx, ← this]; rfl
      have wy : IntKind.i64.wrap y = y := by simp [IntKind.wrap, IntKind.bits, IntKind.signed]; omega
      have hfz := hown.frozenAt k
      have hco : ∃ u, wr.cell? ⟨w.heap.size, k, none⟩ = some u := by rw [hown.cellAt k (by omega)]; exact ⟨_, List.getElem?_eq_getElem (by simp [halfI]; omega)⟩
      obtain ⟨u, hco⟩ := hco
      have hst := hown.stored k (.int .i64 y)
      rw [← hyz, halfI_set (up by_ zs) n k hlt, hyz] at hst
      have HS : Hid (_ ∧ _) := hst
      have hbs : Below w.heap.size w (wr.setCell ⟨w.heap.size, k, none⟩ (.int .i64 y)) := hb.setCell (Nat.le_refl _) _
      clear hst hc hx hyz hzk
      go_wp2
      go_roundw
      case rel => exact ⟨k + 1, by omega, by go_num, HS.out.1, hbs⟩
      case measure => simp [intOf]; omega
    · have e : k = n := by omega
      subst e
      rw [halfI_full (up by_ zs) k (by rw [up_len]; exact hl.out)] at hown
      go_wp2
      go_ret
      exact ⟨rfl, hown, hb⟩

end Go.Proofs.YtojalheohpkdoaaDoor
