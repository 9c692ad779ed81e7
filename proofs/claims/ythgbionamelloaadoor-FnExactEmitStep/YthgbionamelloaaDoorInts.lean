/-
  What the helpers of the exact laws do to slices of ints: toIntS copies, eqIntS compares. For slices of at most 1048576 bytes.
-/
import Derived.Test.YthgbionamelloaaDoorRows
import Derived.WalkKit
import Derived.WalkSpells
import Derived.WalkLawsBesides
import Derived.Deep.QuietTactic
import Derived.BigQuiet
namespace Go.Proofs.YthgbionamelloaaDoor
open Go.RowKit
set_option linter.unusedVariables false

theorem Tryd.infoI : (Tryd.prog.info? 3).map (fun i => (i.zero, i.size, i.bytes)) = some (some (.int .i64 0), 1, 8) := by kernel_rfl

/-- The address a leads to the bytes zs in w. -/
def RdI (w : World) (a : Option Addr) (zs : List Int) : Prop :=
  (zs = [] ∨ ∃ b off, a = some ⟨b, off, none⟩ ∧ b < w.heap.size ∧ ∀ i, i < zs.length → w.cell? ⟨b, off + i, none⟩ = some (.int .i64 (zs[i]?.getD 0)))

theorem RdI.later {w w' : World} {a : Option Addr} {zs : List Int} (h : RdI w a zs) (hb : Below w.heap.size w w') : RdI w' a zs := by
  rcases h with h2 | ⟨b, off, ha, hlt, hc⟩
  · exact .inl h2
  · exact .inr ⟨b, off, ha, Nat.lt_of_lt_of_le hlt hb.size, fun i hi => (hb.cell (p := ⟨b, off + i, none⟩) hlt).trans (hc i hi)⟩

/-- What toIntS has laid behind k rounds. -/
def halfI (zs : List Int) (n k : Nat) : List Int := (List.range n).map fun i => if i < k then zs[i]?.getD 0 else 0

theorem halfI_zero (zs : List Int) (n : Nat) : (madeCells #[Value.int .i64 0] n).toList = (halfI zs n 0).map (Value.int .i64) := by
  rw [toList_madeCells_one]
  apply List.ext_getElem
  · simp [halfI]
  · intro i h1 h2
    simp [halfI]

theorem halfI_full (zs : List Int) (n : Nat) (h : zs.length = n) : halfI zs n n = zs := by
  apply List.ext_getElem
  · simp [halfI, h]
  · intro i h1 h2
    simp [halfI] at h1
    simp [halfI, h1, h2]

theorem halfI_set (zs : List Int) (n k : Nat) (hk : k < n) : ((halfI zs n k).map (Value.int .i64)).set k (.int .i64 (zs[k]?.getD 0)) = (halfI zs n (k + 1)).map (Value.int .i64) := by
  apply List.ext_getElem
  · simp [halfI]
  · intro i h1 h2
    simp [halfI] at h1 h2
    rw [List.getElem_set]
    by_cases e : k = i
    · subst e; simp [halfI]
    · by_cases h : i < k
      · simp [halfI, e, h, Nat.lt_succ_of_lt h]
      · have : ¬ i < k + 1 := by omega
        simp [halfI, e, h, this]

set_option maxHeartbeats 400000 in
theorem toIntS_any (a : Option Addr) (n cap : Nat) (zs : List Int) (w : World) (hl : Hid (zs.length = n)) (hr : RdI w a zs) (hn : n ≤ 1048576) :
    Calls Tryd.prog 18 #[.slice a n cap] w fun e w' => e = .returned (.slice (some ⟨w.heap.size, 0, none⟩) n n) ∧
      w'.ownsRow w.heap.size 3 1 (.slice (some ⟨w.heap.size, 0, none⟩) n n) n (zs.map (Value.int .i64)) ∧ Below w.heap.size w w' := by
  obtain ⟨i0, hi, hz0, hz1, hz2⟩ := info_parts Tryd.infoI
  go_enter Tryd.func18, Tryd.ntmps18
  go_wp2_with (at_make; refine wpList_make_full _ rfl _ _ 22 rfl w.heap.size 3 i0 (.int .i64 0) 1 Tryd.underlying22 hi hz0 hz1 _ _ _ _ n rfl rfl rfl rfl ?b2 ?b3 (Nat.le_refl _) ?_)
  case b2 => rw [hz2]; omega
  case b3 => unfold maxLen; omega
  intro w0 hown0 hgrow0
  rw [halfI_zero zs] at hown0
  go_wp2
  go_loopw [4] (fun i wr => ∃ k : Nat, k ≤ n ∧ i = .int .i64 k ∧ wr.ownsRow w.heap.size 3 1 (.slice (some ⟨w.heap.size, 0, none⟩) n n) n ((halfI zs n k).map (Value.int .i64)) ∧ Below w.heap.size w wr)
    (fun i _ => n - (intOf i).toNat)
  case atStart => exact ⟨0, Nat.zero_le _, rfl, hown0, (Below.refl _ _).grown hgrow0 (Nat.le_refl _) (fun k h => by cases h)⟩
  case round =>
    obtain ⟨k, hk, rfl, hown, hb⟩ := hrel
    by_cases hlt : k < n
    · obtain ⟨b, off, rfl, hbl, hc⟩ : ∃ b off, a = some ⟨b, off, none⟩ ∧ b < w.heap.size ∧ ∀ i, i < n → w.cell? ⟨b, off + i, none⟩ = some (.int .i64 (zs[i]?.getD 0)) := by
        rcases hr with h | ⟨b, off, h1, h2, h3⟩
        · have := hl.out; subst h; simp at this; omega
        · exact ⟨b, off, h1, h2, fun i hi => h3 i (by have := hl.out; omega)⟩
      have hcr : wr.cell? ⟨b, off + k, none⟩ = some (.int .i64 (zs[k]?.getD 0)) := (hb.cell (p := ⟨b, off + k, none⟩) hbl).trans (hc k hlt)
      have hfz := hown.frozenAt k
      have hco : ∃ u, wr.cell? ⟨w.heap.size, k, none⟩ = some u := by rw [hown.cellAt k (by omega)]; exact ⟨_, List.getElem?_eq_getElem (by simp [halfI]; omega)⟩
      obtain ⟨u, hco⟩ := hco
      have hst := hown.stored k (.int .i64 (zs[k]?.getD 0))
      rw [halfI_set zs n k hlt] at hst
      have HS : Hid (_ ∧ _) := hst
      have hbs : Below w.heap.size w (wr.setCell ⟨w.heap.size, k, none⟩ (.int .i64 (zs[k]?.getD 0))) := hb.setCell (Nat.le_refl _) _
      clear hst hc
      go_wp2
      go_roundw
      case rel => exact ⟨k + 1, by omega, by go_num, HS.out.1, hbs⟩
      case measure => simp [intOf]; omega
    · have e : k = n := by omega
      subst e
      rw [halfI_full zs k hl.out] at hown
      go_wp2
      go_ret
      exact ⟨rfl, hown, hb⟩

end Go.Proofs.YthgbionamelloaaDoor
