/-
  Joined: EnsI, PutY, PutI, PutV, CrcI, Clone, FrI, LogI.
-/
import Derived.Test.YtelbkamgcnmokaaJ1FnFlip
import Derived.Test.YtelbkamgcnmokaaJ0FnFlip
import Derived.Deep.RegionHeld3
import Derived.Laws.AppendOwnNone
import Derived.Lib.SliceRun
import Derived.Lib.ConvBytes
/- EnsI: follows and EntriesOk of the program. By program (entgen.py). -/
namespace Go.Proofs.Ytelbkamgcnmokaa
open Go.RowKit
set_option linter.unusedVariables false
set_option linter.unusedSimpArgs false

/-- follows of no entries. -/
theorem follows_none (a : Option Addr) (c : Nat) (x : Int) (s : ByteArray) (w : World) :
    Calls Try.prog 16 #[.slice a 0 c, .agg #[.int .i64 x, .string s]] w fun e w' => e = .returned (.bool true) ∧ Below w.heap.size w w' := by
  have bA : Below w.heap.size w (w.alloc (.cells #[.int .i64 x, .string s] 28)) := (Below.refl _ _).alloc (Nat.le_refl _) _
  go_enter Try.func16, Try.ntmps16
  go_wp2_with fail
  obtain ⟨W0, hW0⟩ : ∃ W0, W0 = w.alloc (.cells #[.int .i64 x, .string s] 28) := ⟨_, rfl⟩
  rw [← hW0]
  rw [← hW0] at bA
  clear hW0
  refine wp_region_held_drew (S := fun w' => True) (by kernel_rfl) trivial (fun hHeld => ?_)
  refine wpAnyH_take (i := 0) (v := .slice a 0 c) rfl (by kernel_rfl) (by kernel_rfl) (by kernel_rfl) (fun _ _ _ h => h) (Or.inl ⟨by kernel_rfl, ?_⟩) (by assumption) ?_
  · intro w9 hSw; (try dsimp only at hSw); go_simp
  simp only [Act.put, List.getElem_toArray, List.getElem_cons_succ, List.getElem_cons_zero, List.setIfInBounds_toArray, List.set_cons_zero, List.set_cons_succ]
  refine wpAnyH_take (i := 1) (v := .int .i64 0) rfl (by kernel_rfl) (by kernel_rfl) (by kernel_rfl) (fun _ _ _ h => h) (Or.inl ⟨by kernel_rfl, ?_⟩) (by assumption) ?_
  · intro w9 hSw; (try dsimp only at hSw); go_simp
  simp only [Act.put, List.getElem_toArray, List.getElem_cons_succ, List.getElem_cons_zero, List.setIfInBounds_toArray, List.set_cons_zero, List.set_cons_succ]
  refine wpAnyH_take (i := 2) (v := .bool true) rfl (by kernel_rfl) (by kernel_rfl) (by kernel_rfl) (fun _ _ _ h => h) (Or.inl ⟨by kernel_rfl, ?_⟩) (by assumption) ?_
  · intro w9 hSw; (try dsimp only at hSw); go_simp
  simp only [Act.put, List.getElem_toArray, List.getElem_cons_succ, List.getElem_cons_zero, List.setIfInBounds_toArray, List.set_cons_zero, List.set_cons_succ]
  refine wpAnyH_take (i := 3) (v := .bool true) rfl (by kernel_rfl) (by kernel_rfl) (by kernel_rfl) (fun _ _ _ h => h) (Or.inl ⟨by kernel_rfl, ?_⟩) (by assumption) ?_
  · intro w9 hSw; (try dsimp only at hSw); go_simp
  simp only [Act.put, List.getElem_toArray, List.getElem_cons_succ, List.getElem_cons_zero, List.setIfInBounds_toArray, List.set_cons_zero, List.set_cons_succ]
  refine wpAnyH_take (i := 4) (v := undef) rfl (by kernel_rfl) (by kernel_rfl) (by kernel_rfl) (fun _ _ _ h => h) (Or.inr ⟨by kernel_rfl, rfl⟩) (by assumption) ?_
  simp only [Act.put, List.getElem_toArray, List.getElem_cons_succ, List.getElem_cons_zero, List.setIfInBounds_toArray, List.set_cons_zero, List.set_cons_succ]
  refine wpAnyH_take (i := 5) (v := undef) rfl (by kernel_rfl) (by kernel_rfl) (by kernel_rfl) (fun _ _ _ h => h) (Or.inr ⟨by kernel_rfl, rfl⟩) (by assumption) ?_
  simp only [Act.put, List.getElem_toArray, List.getElem_cons_succ, List.getElem_cons_zero, List.setIfInBounds_toArray, List.set_cons_zero, List.set_cons_succ]
  refine wpAnyH_take (i := 6) (v := undef) rfl (by kernel_rfl) (by kernel_rfl) (by kernel_rfl) (fun _ _ _ h => h) (Or.inr ⟨by kernel_rfl, rfl⟩) (by assumption) ?_
  simp only [Act.put, List.getElem_toArray, List.getElem_cons_succ, List.getElem_cons_zero, List.setIfInBounds_toArray, List.set_cons_zero, List.set_cons_succ]
  refine wpAnyH_take (i := 7) (v := undef) rfl (by kernel_rfl) (by kernel_rfl) (by kernel_rfl) (fun _ _ _ h => h) (Or.inr ⟨by kernel_rfl, rfl⟩) (by assumption) ?_
  simp only [Act.put, List.getElem_toArray, List.getElem_cons_succ, List.getElem_cons_zero, List.setIfInBounds_toArray, List.set_cons_zero, List.set_cons_succ]
  refine wpAnyH_take (i := 8) (v := undef) rfl (by kernel_rfl) (by kernel_rfl) (by kernel_rfl) (fun _ _ _ h => h) (Or.inr ⟨by kernel_rfl, rfl⟩) (by assumption) ?_
  simp only [Act.put, List.getElem_toArray, List.getElem_cons_succ, List.getElem_cons_zero, List.setIfInBounds_toArray, List.set_cons_zero, List.set_cons_succ]
  refine wpAnyH_take (i := 9) (v := undef) rfl (by kernel_rfl) (by kernel_rfl) (by kernel_rfl) (fun _ _ _ h => h) (Or.inr ⟨by kernel_rfl, rfl⟩) (by assumption) ?_
  simp only [Act.put, List.getElem_toArray, List.getElem_cons_succ, List.getElem_cons_zero, List.setIfInBounds_toArray, List.set_cons_zero, List.set_cons_succ]
  refine wpAnyH_take (i := 10) (v := undef) rfl (by kernel_rfl) (by kernel_rfl) (by kernel_rfl) (fun _ _ _ h => h) (Or.inr ⟨by kernel_rfl, rfl⟩) (by assumption) ?_
  simp only [Act.put, List.getElem_toArray, List.getElem_cons_succ, List.getElem_cons_zero, List.setIfInBounds_toArray, List.set_cons_zero, List.set_cons_succ]
  refine wpAnyH_take (i := 11) (v := undef) rfl (by kernel_rfl) (by kernel_rfl) (by kernel_rfl) (fun _ _ _ h => h) (Or.inr ⟨by kernel_rfl, rfl⟩) (by assumption) ?_
  simp only [Act.put, List.getElem_toArray, List.getElem_cons_succ, List.getElem_cons_zero, List.setIfInBounds_toArray, List.set_cons_zero, List.set_cons_succ]
  refine wpAnyH_take (i := 12) (v := undef) rfl (by kernel_rfl) (by kernel_rfl) (by kernel_rfl) (fun _ _ _ h => h) (Or.inr ⟨by kernel_rfl, rfl⟩) (by assumption) ?_
  simp only [Act.put, List.getElem_toArray, List.getElem_cons_succ, List.getElem_cons_zero, List.setIfInBounds_toArray, List.set_cons_zero, List.set_cons_succ]
  refine wpAnyH_take (i := 13) (v := undef) rfl (by kernel_rfl) (by kernel_rfl) (by kernel_rfl) (fun _ _ _ h => h) (Or.inr ⟨by kernel_rfl, rfl⟩) (by assumption) ?_
  simp only [Act.put, List.getElem_toArray, List.getElem_cons_succ, List.getElem_cons_zero, List.setIfInBounds_toArray, List.set_cons_zero, List.set_cons_succ]
  refine wpAnyH_take (i := 14) (v := undef) rfl (by kernel_rfl) (by kernel_rfl) (by kernel_rfl) (fun _ _ _ h => h) (Or.inr ⟨by kernel_rfl, rfl⟩) (by assumption) ?_
  simp only [Act.put, List.getElem_toArray, List.getElem_cons_succ, List.getElem_cons_zero, List.setIfInBounds_toArray, List.set_cons_zero, List.set_cons_succ]
  refine wpAnyH_take (i := 15) (v := .bool true) rfl (by kernel_rfl) (by kernel_rfl) (by kernel_rfl) (fun _ _ _ h => h) (Or.inl ⟨by kernel_rfl, ?_⟩) (by assumption) ?_
  · intro w9 hSw; (try dsimp only at hSw); go_simp
  simp only [Act.put, List.getElem_toArray, List.getElem_cons_succ, List.getElem_cons_zero, List.setIfInBounds_toArray, List.set_cons_zero, List.set_cons_succ]
  refine wpAnyH_take (i := 16) (v := .bool true) rfl (by kernel_rfl) (by kernel_rfl) (by kernel_rfl) (fun _ _ _ h => h) (Or.inl ⟨by kernel_rfl, ?_⟩) (by assumption) ?_
  · intro w9 hSw; (try dsimp only at hSw); go_simp
  simp only [Act.put, List.getElem_toArray, List.getElem_cons_succ, List.getElem_cons_zero, List.setIfInBounds_toArray, List.set_cons_zero, List.set_cons_succ]
  refine wpAnyH_done (by kernel_rfl) ?_ _
  have bE := bA.drew
  go_wp2
  go_ret
  exact ⟨rfl, bE⟩

set_option maxRecDepth 100000 in
set_option maxHeartbeats 2000000 in
/-- follows of some entries, the last of number z0. -/
theorem follows_some (b off j c : Nat) (z0 x : Int) (s : ByteArray) (w : World) (hb : b < w.heap.size) (p0 : w.cell? ⟨b, off + j * 2, none⟩ = some (.int .i64 z0)) (hj : j < 9223372036854775807)
    (h1 : 1 ≤ z0) (h2 : z0 ≤ 1000000000) :
    Calls Try.prog 16 #[.slice (some ⟨b, off, none⟩) (j + 1) c, .agg #[.int .i64 x, .string s]] w fun e w' => e = .returned (.bool (x == z0 + 1)) ∧ Below w.heap.size w w' := by
  obtain ⟨W0, hW0⟩ : ∃ W0, W0 = w.alloc (.cells #[.int .i64 x, .string s] 28) := ⟨_, rfl⟩
  have bA : Below w.heap.size w W0 := by rw [hW0]; exact (Below.refl _ _).alloc (Nat.le_refl _) _
  have hbox : W0.heap[w.heap.size]? = some (.cells #[.int .i64 x, .string s] 28 (0, 0)) := by rw [hW0]; exact heap_alloc_new w _
  have zlt0 : w.heap.size < W0.heap.size := by rw [hW0]; simp
  have v0 : W0.cell? ⟨w.heap.size, 0, none⟩ = some (.int .i64 x) := box_cell hbox rfl
  have q0 : W0.cell? ⟨b, off + j * 2, none⟩ = some (.int .i64 z0) := (bA.cell (p := ⟨b, off + j * 2, none⟩) hb).trans p0
  have HW0 : Hid (W0 = w.alloc (.cells #[.int .i64 x, .string s] 28)) := hW0
  have hbW : b < W0.heap.size := Nat.lt_trans hb zlt0
  obtain ⟨n, hn⟩ : ∃ n, n = j + 1 := ⟨_, rfl⟩
  have hkj : (n : Int) - 1 = (j : Int) := by omega
  have hkw : IntKind.i64.wrap (j : Int) = (j : Int) := wrap_i64_in _ (by omega) (by omega)
  have hzw : IntKind.i64.wrap (z0 + 1) = z0 + 1 := wrap_i64_in _ (by omega) (by omega)
  have hn0 : ((n : Int) == 0) = false := by simp; omega
  have hn1 : (n == 0) = false := by simp; omega
  have hj1 : (0 : Int) ≤ (j : Int) := by omega
  have hj2 : (j : Int) < (n : Int) := by omega
  rw [← hn]
  clear hn hW0 hbox p0
  go_enter Try.func16, Try.ntmps16
  go_wp2_with fail
  rw [← HW0.out]
  refine wp_region_held_drew (S := fun w' => w'.cell? ⟨w.heap.size, 0, none⟩ = some (.int .i64 x) ∧ w'.cell? ⟨b, off + j * 2, none⟩ = some (.int .i64 z0)) (by kernel_rfl) ⟨v0, q0⟩ (fun hHeld => ?_)
  refine wpAnyH_take (i := 0) (v := .slice (some ⟨b, off, none⟩) n c) rfl (by kernel_rfl) (by kernel_rfl) (by kernel_rfl) (fun _ _ _ h => h) (Or.inl ⟨by kernel_rfl, ?_⟩) (by assumption) ?_
  · intro w9 hSw; (try dsimp only at hSw); go_simp
  simp only [Act.put, List.getElem_toArray, List.getElem_cons_succ, List.getElem_cons_zero, List.setIfInBounds_toArray, List.set_cons_zero, List.set_cons_succ]
  refine wpAnyH_take (i := 1) (v := .int .i64 n) rfl (by kernel_rfl) (by kernel_rfl) (by kernel_rfl) (fun _ _ _ h => h) (Or.inl ⟨by kernel_rfl, ?_⟩) (by assumption) ?_
  · intro w9 hSw; (try dsimp only at hSw); go_simp
  simp only [Act.put, List.getElem_toArray, List.getElem_cons_succ, List.getElem_cons_zero, List.setIfInBounds_toArray, List.set_cons_zero, List.set_cons_succ]
  refine wpAnyH_take (i := 2) (v := .bool false) rfl (by kernel_rfl) (by kernel_rfl) (by kernel_rfl) (fun _ _ _ h => h) (Or.inl ⟨by kernel_rfl, ?_⟩) (by assumption) ?_
  · intro w9 hSw; (try dsimp only at hSw); go_simp
  simp only [Act.put, List.getElem_toArray, List.getElem_cons_succ, List.getElem_cons_zero, List.setIfInBounds_toArray, List.set_cons_zero, List.set_cons_succ]
  refine wpAnyH_take (i := 3) (v := .bool false) rfl (by kernel_rfl) (by kernel_rfl) (by kernel_rfl) (fun _ _ _ h => h) (Or.inl ⟨by kernel_rfl, ?_⟩) (by assumption) ?_
  · intro w9 hSw; (try dsimp only at hSw); go_simp
  simp only [Act.put, List.getElem_toArray, List.getElem_cons_succ, List.getElem_cons_zero, List.setIfInBounds_toArray, List.set_cons_zero, List.set_cons_succ]
  refine wpAnyH_take (i := 4) (v := .pointer (some ⟨w.heap.size, 0, none⟩)) rfl (by kernel_rfl) (by kernel_rfl) (by kernel_rfl) (fun _ _ _ h => h) (Or.inl ⟨by kernel_rfl, ?_⟩) (by assumption) ?_
  · intro w9 hSw; (try dsimp only at hSw); go_simp
  simp only [Act.put, List.getElem_toArray, List.getElem_cons_succ, List.getElem_cons_zero, List.setIfInBounds_toArray, List.set_cons_zero, List.set_cons_succ]
  refine wpAnyH_take (i := 5) (v := .int .i64 x) rfl (by kernel_rfl) (by kernel_rfl) (by kernel_rfl) (fun _ _ _ h => h) (Or.inl ⟨by kernel_rfl, ?_⟩) (by assumption) ?_
  · intro w9 hSw; (try dsimp only at hSw); go_simp
  simp only [Act.put, List.getElem_toArray, List.getElem_cons_succ, List.getElem_cons_zero, List.setIfInBounds_toArray, List.set_cons_zero, List.set_cons_succ]
  refine wpAnyH_take (i := 6) (v := .slice (some ⟨b, off, none⟩) n c) rfl (by kernel_rfl) (by kernel_rfl) (by kernel_rfl) (fun _ _ _ h => h) (Or.inl ⟨by kernel_rfl, ?_⟩) (by assumption) ?_
  · intro w9 hSw; (try dsimp only at hSw); go_simp
  simp only [Act.put, List.getElem_toArray, List.getElem_cons_succ, List.getElem_cons_zero, List.setIfInBounds_toArray, List.set_cons_zero, List.set_cons_succ]
  refine wpAnyH_take (i := 7) (v := .slice (some ⟨b, off, none⟩) n c) rfl (by kernel_rfl) (by kernel_rfl) (by kernel_rfl) (fun _ _ _ h => h) (Or.inl ⟨by kernel_rfl, ?_⟩) (by assumption) ?_
  · intro w9 hSw; (try dsimp only at hSw); go_simp
  simp only [Act.put, List.getElem_toArray, List.getElem_cons_succ, List.getElem_cons_zero, List.setIfInBounds_toArray, List.set_cons_zero, List.set_cons_succ]
  refine wpAnyH_take (i := 8) (v := .int .i64 n) rfl (by kernel_rfl) (by kernel_rfl) (by kernel_rfl) (fun _ _ _ h => h) (Or.inl ⟨by kernel_rfl, ?_⟩) (by assumption) ?_
  · intro w9 hSw; (try dsimp only at hSw); go_simp
  simp only [Act.put, List.getElem_toArray, List.getElem_cons_succ, List.getElem_cons_zero, List.setIfInBounds_toArray, List.set_cons_zero, List.set_cons_succ]
  refine wpAnyH_take (i := 9) (v := .int .i64 j) rfl (by kernel_rfl) (by kernel_rfl) (by kernel_rfl) (fun _ _ _ h => h) (Or.inl ⟨by kernel_rfl, ?_⟩) (by assumption) ?_
  · intro w9 hSw; (try dsimp only at hSw); go_simp
  simp only [Act.put, List.getElem_toArray, List.getElem_cons_succ, List.getElem_cons_zero, List.setIfInBounds_toArray, List.set_cons_zero, List.set_cons_succ]
  refine wpAnyH_take (i := 10) (v := .pointer (some ⟨b, off + j * 2, none⟩)) rfl (by kernel_rfl) (by kernel_rfl) (by kernel_rfl) (fun _ _ _ h => h) (Or.inl ⟨by kernel_rfl, ?_⟩) (by assumption) ?_
  · intro w9 hSw; (try dsimp only at hSw); go_simp
  simp only [Act.put, List.getElem_toArray, List.getElem_cons_succ, List.getElem_cons_zero, List.setIfInBounds_toArray, List.set_cons_zero, List.set_cons_succ]
  refine wpAnyH_take (i := 11) (v := .pointer (some ⟨b, off + j * 2, none⟩)) rfl (by kernel_rfl) (by kernel_rfl) (by kernel_rfl) (fun _ _ _ h => h) (Or.inl ⟨by kernel_rfl, ?_⟩) (by assumption) ?_
  · intro w9 hSw; (try dsimp only at hSw); go_simp
  simp only [Act.put, List.getElem_toArray, List.getElem_cons_succ, List.getElem_cons_zero, List.setIfInBounds_toArray, List.set_cons_zero, List.set_cons_succ]
  refine wpAnyH_take (i := 12) (v := .int .i64 z0) rfl (by kernel_rfl) (by kernel_rfl) (by kernel_rfl) (fun _ _ _ h => h) (Or.inl ⟨by kernel_rfl, ?_⟩) (by assumption) ?_
  · intro w9 hSw; (try dsimp only at hSw); go_simp
  simp only [Act.put, List.getElem_toArray, List.getElem_cons_succ, List.getElem_cons_zero, List.setIfInBounds_toArray, List.set_cons_zero, List.set_cons_succ]
  refine wpAnyH_take (i := 13) (v := .int .i64 (z0 + 1)) rfl (by kernel_rfl) (by kernel_rfl) (by kernel_rfl) (fun _ _ _ h => h) (Or.inl ⟨by kernel_rfl, ?_⟩) (by assumption) ?_
  · intro w9 hSw; (try dsimp only at hSw); go_simp
  simp only [Act.put, List.getElem_toArray, List.getElem_cons_succ, List.getElem_cons_zero, List.setIfInBounds_toArray, List.set_cons_zero, List.set_cons_succ]
  refine wpAnyH_take (i := 14) (v := .bool (x == z0 + 1)) rfl (by kernel_rfl) (by kernel_rfl) (by kernel_rfl) (fun _ _ _ h => h) (Or.inl ⟨by kernel_rfl, ?_⟩) (by assumption) ?_
  · intro w9 hSw; (try dsimp only at hSw); go_simp
  simp only [Act.put, List.getElem_toArray, List.getElem_cons_succ, List.getElem_cons_zero, List.setIfInBounds_toArray, List.set_cons_zero, List.set_cons_succ]
  refine wpAnyH_take (i := 15) (v := .bool (x == z0 + 1)) rfl (by kernel_rfl) (by kernel_rfl) (by kernel_rfl) (fun _ _ _ h => h) (Or.inl ⟨by kernel_rfl, ?_⟩) (by assumption) ?_
  · intro w9 hSw; (try dsimp only at hSw); go_simp
  simp only [Act.put, List.getElem_toArray, List.getElem_cons_succ, List.getElem_cons_zero, List.setIfInBounds_toArray, List.set_cons_zero, List.set_cons_succ]
  refine wpAnyH_take (i := 16) (v := .bool (x == z0 + 1)) rfl (by kernel_rfl) (by kernel_rfl) (by kernel_rfl) (fun _ _ _ h => h) (Or.inl ⟨by kernel_rfl, ?_⟩) (by assumption) ?_
  · intro w9 hSw; (try dsimp only at hSw); go_simp
  simp only [Act.put, List.getElem_toArray, List.getElem_cons_succ, List.getElem_cons_zero, List.setIfInBounds_toArray, List.set_cons_zero, List.set_cons_succ]
  refine wpAnyH_done (by kernel_rfl) ?_ _
  have bE := bA.drew
  go_wp2
  go_ret
  exact ⟨rfl, bE⟩

set_option maxRecDepth 100000 in
set_option maxHeartbeats 4000000 in
theorem implEnts_any (a : Option Addr) (n c : Nat) (d : List EntD) (w : World) (hr : Reads (.sl shEntry) w [.slice a n c] d) :
    Calls Try.prog 12 #[.slice a n c] w fun e w' => e = .returned (.bool (entsB d)) ∧ Below w.heap.size w w' := by
  obtain ⟨hl, hc1, hc2⟩ := reads_len hr
  unfold maxLen at hc2
  have HR : Hid (Reads (.sl shEntry) w [.slice a n c] d) := hr
  have HL : Hid (List.length (α := EntD) d = n) := hl
  obtain ⟨V, hV⟩ : ∃ V, V = entsB d := ⟨_, rfl⟩
  have HV : Hid (V = entsFrom (prevN d 0) (d.drop 0)) := hV
  rw [← hV]
  clear hr hl hV
  go_enter Try.func12, Try.ntmps12
  go_wp2
  go_loopw [7] (fun i wr => ∃ k : Nat, k ≤ n ∧ i = .int .i64 k ∧ Hid (V = entsFrom (prevN d k) (d.drop k)) ∧ Hid (∀ j x, k = j + 1 → d[j]? = some x → 1 ≤ x.1 ∧ x.1 ≤ 1000000000) ∧ Below w.heap.size w wr) (fun i _ => n - (intOf i).toNat)
  case atStart => exact ⟨0, Nat.zero_le _, rfl, HV, (fun j x h => by omega : ∀ j x, _ → _ → _), Below.refl _ _⟩
  case round =>
    obtain ⟨k, hk, rfl, HE, HP, hbel⟩ := hrel
    by_cases hlt : k < n
    · obtain ⟨b, off, cc, x, rfl, hb, hx, hrx, hcell⟩ := reads_elem HR.out k hlt
      have hst : V = (entB x.1 (ByteArray.size x.2.1) && linkB (prevN d k) x.1 && entsFrom (prevN d (k + 1)) (d.drop (k + 1))) := HE.out.trans (ents_step d k x hx)
      obtain ⟨rfl, ls⟩ := open_Entry hrx
      obtain ⟨y0, ey0⟩ : ∃ y : Int, y = x.1 := ⟨_, rfl⟩
      obtain ⟨y1, ey1⟩ : ∃ y : ByteArray, y = x.2.1 := ⟨_, rfl⟩
      have g0 : wr.cell? ⟨b, off + k * 2, none⟩ = some (.int .i64 y0) := by rw [ey0]; exact (hbel.cell (p := ⟨b, off + (k * 2 + 0), none⟩) hb).trans (hcell 0 (by decide))
      have g1 : wr.cell? ⟨b, off + k * 2 + 1, none⟩ = some (.string y1) := by rw [ey1]; exact (hbel.cell (p := ⟨b, off + (k * 2 + 1), none⟩) hb).trans (hcell 1 (by decide))
      rw [← ey0, ← ey1] at hst
      rw [← ey1] at ls
      have HX : Hid (d[k]? = some x ∧ y0 = x.1) := ⟨hx, ey0⟩
      obtain ⟨W0, hW0⟩ : ∃ W0, W0 = wr.alloc (.cells #[.int .i64 y0, .string y1] 28) := ⟨_, rfl⟩
      have hbs := hbel.size
      have bw0 : Below wr.heap.size wr W0 := by rw [hW0]; exact (Below.refl _ _).alloc (Nat.le_refl _) _
      have bW0 : Below w.heap.size w W0 := hbel.trans (bw0.mono hbs)
      have hbox : W0.heap[wr.heap.size]? = some (.cells #[.int .i64 y0, .string y1] 28 (0, 0)) := by rw [hW0]; exact heap_alloc_new wr _
      have zlt0 : wr.heap.size < W0.heap.size := by rw [hW0]; simp
      have BX : Hid (∀ w', Below W0.heap.size W0 w' → w'.cell? ⟨wr.heap.size, 0, none⟩ = some (.int .i64 y0) ∧ w'.cell? ⟨wr.heap.size, 1, none⟩ = some (.string y1)) := fun w' h' => by
        have i := (h'.block _ zlt0).trans hbox
        exact ⟨box_cell i rfl, box_cell i rfl⟩
      have HW0 : Hid (W0 = wr.alloc (.cells #[.int .i64 y0, .string y1] 28)) := hW0
      have bD0 : Below W0.heap.size W0 W0.drew := (Below.refl _ _).drew
      obtain ⟨v0, v1⟩ := BX.out W0 (Below.refl _ _)
      have hNx : Hid (∀ V', V = V' → entB y0 y1.size = true → Hid (V = V') ∧ Hid (∀ j x, k + 1 = j + 1 → d[j]? = some x → 1 ≤ x.1 ∧ x.1 ≤ 1000000000)) := fun V' h1 h2 => ⟨h1, (fun j z hj hz => by
        obtain rfl : k = j := by omega
        rw [HX.out.1] at hz
        obtain rfl := Option.some.inj hz
        rw [← HX.out.2]
        have := (entB_iff _ _).1 h2
        omega : ∀ j x, _ → _ → _)⟩
      clear hcell hrx hx ey0 ey1 hW0 hbox
      cases hB : entB y0 y1.size with
      | false =>
        have EE : Hid (V = false) := by show _ = _; rw [hst, hB]; rfl
        have qE : Hid (∀ w', Calls Try.prog 20 #[.agg #[.int .i64 y0, .string y1]] w' fun e w'' => e = .returned (.bool false) ∧ Below w'.heap.size w' w'') := fun w' => by rw [← hB]; exact implEnt_any _ _ w' ls
        clear hst hB hNx
        go_wp2_with fail
        rw [← HW0.out]
        refine wp_region_held_drew (S := fun w' => w'.cell? ⟨wr.heap.size, 0, none⟩ = some (.int .i64 y0) ∧ w'.cell? ⟨wr.heap.size, 1, none⟩ = some (.string y1)) (by kernel_rfl) ⟨v0, v1⟩ (fun hHeld => ?_)
        refine wpAnyH_take (i := 0) (v := .agg #[.int .i64 y0, .string y1]) rfl (by kernel_rfl) (by kernel_rfl) (by kernel_rfl) (fun _ _ _ h => h) (Or.inl ⟨by kernel_rfl, ?_⟩) (by assumption) ?_
        · intro w9 hSw; (try dsimp only at hSw); go_simp
        simp only [Act.put, List.getElem_toArray, List.getElem_cons_succ, List.getElem_cons_zero, List.setIfInBounds_toArray, List.set_cons_zero, List.set_cons_succ]
        refine wpAnyH_ready (rs := [1]) (by kernel_rfl) (by simp) ?_
        refine AllReadyH.cons rfl (fun K hK => ?_) AllReadyH.nil
        go_simp
        refine (qE.out _).mono ?_
        rintro e w1 ⟨rfl, hb1⟩
        have d1 : Below W0.heap.size W0 w1 := bD0.trans (hb1.mono bD0.size)
        clear hb1
        go_wp2_with fail
        refine hK.out _ _ (BX.out w1 d1) (fun hHeld1 => ?_)
        clear hK
        refine wpAnyH_take (i := 2) (v := .bool true) rfl (by kernel_rfl) (by kernel_rfl) (by kernel_rfl) (fun _ _ _ h => h) (Or.inl ⟨by kernel_rfl, ?_⟩) (by assumption) ?_
        · intro w9 hSw; (try dsimp only at hSw); go_simp
        simp only [Act.put, List.getElem_toArray, List.getElem_cons_succ, List.getElem_cons_zero, List.setIfInBounds_toArray, List.set_cons_zero, List.set_cons_succ]
        refine wpAnyH_take (i := 3) (v := .bool true) rfl (by kernel_rfl) (by kernel_rfl) (by kernel_rfl) (fun _ _ _ h => h) (Or.inl ⟨by kernel_rfl, ?_⟩) (by assumption) ?_
        · intro w9 hSw; (try dsimp only at hSw); go_simp
        simp only [Act.put, List.getElem_toArray, List.getElem_cons_succ, List.getElem_cons_zero, List.setIfInBounds_toArray, List.set_cons_zero, List.set_cons_succ]
        refine wpAnyH_take (i := 4) (v := undef) rfl (by kernel_rfl) (by kernel_rfl) (by kernel_rfl) (fun _ _ _ h => h) (Or.inr ⟨by kernel_rfl, rfl⟩) (by assumption) ?_
        simp only [Act.put, List.getElem_toArray, List.getElem_cons_succ, List.getElem_cons_zero, List.setIfInBounds_toArray, List.set_cons_zero, List.set_cons_succ]
        refine wpAnyH_take (i := 5) (v := undef) rfl (by kernel_rfl) (by kernel_rfl) (by kernel_rfl) (fun _ _ _ h => h) (Or.inr ⟨by kernel_rfl, rfl⟩) (by assumption) ?_
        simp only [Act.put, List.getElem_toArray, List.getElem_cons_succ, List.getElem_cons_zero, List.setIfInBounds_toArray, List.set_cons_zero, List.set_cons_succ]
        refine wpAnyH_take (i := 6) (v := undef) rfl (by kernel_rfl) (by kernel_rfl) (by kernel_rfl) (fun _ _ _ h => h) (Or.inr ⟨by kernel_rfl, rfl⟩) (by assumption) ?_
        simp only [Act.put, List.getElem_toArray, List.getElem_cons_succ, List.getElem_cons_zero, List.setIfInBounds_toArray, List.set_cons_zero, List.set_cons_succ]
        refine wpAnyH_take (i := 7) (v := undef) rfl (by kernel_rfl) (by kernel_rfl) (by kernel_rfl) (fun _ _ _ h => h) (Or.inr ⟨by kernel_rfl, rfl⟩) (by assumption) ?_
        simp only [Act.put, List.getElem_toArray, List.getElem_cons_succ, List.getElem_cons_zero, List.setIfInBounds_toArray, List.set_cons_zero, List.set_cons_succ]
        refine wpAnyH_take (i := 8) (v := undef) rfl (by kernel_rfl) (by kernel_rfl) (by kernel_rfl) (fun _ _ _ h => h) (Or.inr ⟨by kernel_rfl, rfl⟩) (by assumption) ?_
        simp only [Act.put, List.getElem_toArray, List.getElem_cons_succ, List.getElem_cons_zero, List.setIfInBounds_toArray, List.set_cons_zero, List.set_cons_succ]
        refine wpAnyH_take (i := 9) (v := undef) rfl (by kernel_rfl) (by kernel_rfl) (by kernel_rfl) (fun _ _ _ h => h) (Or.inr ⟨by kernel_rfl, rfl⟩) (by assumption) ?_
        simp only [Act.put, List.getElem_toArray, List.getElem_cons_succ, List.getElem_cons_zero, List.setIfInBounds_toArray, List.set_cons_zero, List.set_cons_succ]
        refine wpAnyH_take (i := 10) (v := .bool true) rfl (by kernel_rfl) (by kernel_rfl) (by kernel_rfl) (fun _ _ _ h => h) (Or.inl ⟨by kernel_rfl, ?_⟩) (by assumption) ?_
        · intro w9 hSw; (try dsimp only at hSw); go_simp
        simp only [Act.put, List.getElem_toArray, List.getElem_cons_succ, List.getElem_cons_zero, List.setIfInBounds_toArray, List.set_cons_zero, List.set_cons_succ]
        refine wpAnyH_done (by kernel_rfl) ?_ _
        have bE := bW0.trans (d1.mono bW0.size)
        go_wp2
        go_ret
        exact ⟨by rw [EE.out]; rfl, bE⟩
      | true =>
        have qE : Hid (∀ w', Calls Try.prog 20 #[.agg #[.int .i64 y0, .string y1]] w' fun e w'' => e = .returned (.bool true) ∧ Below w'.heap.size w' w'') := fun w' => by rw [← hB]; exact implEnt_any _ _ w' ls
        have hyb := (entB_iff _ _).1 hB
        have hkn1 : (0 : Int) ≤ (k : Int) := by omega
        have hkn2 : (k : Int) ≤ (n : Int) := by omega
        have hkn3 : (k : Int) ≤ (c : Int) := by omega
        obtain ⟨Fo, hFo⟩ : ∃ Fo, Fo = linkB (prevN d k) y0 := ⟨_, rfl⟩
        have qF : Hid (∀ w', Below W0.heap.size W0 w' → Calls Try.prog 16 #[.slice (some ⟨b, off, none⟩) k c, .agg #[.int .i64 y0, .string y1]] w' fun e w'' => e = .returned (.bool Fo) ∧ Below w'.heap.size w' w'') := fun w' hw' => by
          by_cases hk0 : k = 0
          · rw [hFo, show prevN d k = none by rw [hk0]; rfl, hk0]
            exact follows_none _ _ _ _ _
          · obtain ⟨j, hj⟩ : ∃ j, k = j + 1 := ⟨k - 1, by omega⟩
            obtain ⟨b', off', c2, z, he, hb2, hz, hrz, hcell2⟩ := reads_elem HR.out j (by omega)
            simp only [Option.some.injEq, Addr.mk.injEq, and_true] at he
            obtain ⟨rfl, rfl⟩ := he
            obtain ⟨rfl, ls2⟩ := open_Entry hrz
            obtain ⟨z0, ez0⟩ : ∃ y : Int, y = z.1 := ⟨_, rfl⟩
            have p0 : W0.cell? ⟨b, off + j * 2, none⟩ = some (.int .i64 z0) := by rw [ez0]; exact (bW0.cell (p := ⟨b, off + (j * 2 + 0), none⟩) hb).trans (hcell2 0 (by decide))
            have hzb : 1 ≤ z0 ∧ z0 ≤ 1000000000 := by rw [ez0]; exact HP.out j z hj hz
            have hbW : b < W0.heap.size := Nat.lt_of_lt_of_le hb (Nat.le_trans hbs (Nat.le_of_lt zlt0))
            have e1 : Fo = (y0 == z0 + 1) := by
              rw [hFo, show prevN d k = some z0 by rw [hj, ez0]; exact prevN_succ d j z hz]
              show decide (y0 = z0 + 1) = (y0 == z0 + 1)
              rw [Bool.eq_iff_iff]; simp
            rw [e1, hj]
            exact follows_some b off j c z0 y0 y1 w' (Nat.lt_of_lt_of_le hbW hw'.size) ((hw'.cell (p := ⟨b, off + j * 2, none⟩) hbW).trans p0) (by omega) hzb.1 hzb.2
        rw [← hFo] at hst
        cases hF : Fo with
        | true =>
          have EE := hNx.out _ (by rw [hst, hB, hF]; rfl : V = entsFrom (prevN d (k + 1)) (d.drop (k + 1))) hB
          rw [hF] at qF
          clear hst hB hNx HE HP hFo hF
          go_wp2_with fail
          rw [← HW0.out]
          refine wp_region_held_drew (S := fun w' => w'.cell? ⟨wr.heap.size, 0, none⟩ = some (.int .i64 y0) ∧ w'.cell? ⟨wr.heap.size, 1, none⟩ = some (.string y1)) (by kernel_rfl) ⟨v0, v1⟩ (fun hHeld => ?_)
          refine wpAnyH_take (i := 0) (v := .agg #[.int .i64 y0, .string y1]) rfl (by kernel_rfl) (by kernel_rfl) (by kernel_rfl) (fun _ _ _ h => h) (Or.inl ⟨by kernel_rfl, ?_⟩) (by assumption) ?_
          · intro w9 hSw; (try dsimp only at hSw); go_simp
          simp only [Act.put, List.getElem_toArray, List.getElem_cons_succ, List.getElem_cons_zero, List.setIfInBounds_toArray, List.set_cons_zero, List.set_cons_succ]
          refine wpAnyH_ready (rs := [1]) (by kernel_rfl) (by simp) ?_
          refine AllReadyH.cons rfl (fun K hK => ?_) AllReadyH.nil
          go_simp
          refine (qE.out _).mono ?_
          rintro e w1 ⟨rfl, hb1⟩
          have d1 : Below W0.heap.size W0 w1 := bD0.trans (hb1.mono bD0.size)
          clear hb1
          go_wp2_with fail
          refine hK.out _ _ (BX.out w1 d1) (fun hHeld1 => ?_)
          clear hK
          refine wpAnyH_take (i := 2) (v := .bool false) rfl (by kernel_rfl) (by kernel_rfl) (by kernel_rfl) (fun _ _ _ h => h) (Or.inl ⟨by kernel_rfl, ?_⟩) (by assumption) ?_
          · intro w9 hSw; (try dsimp only at hSw); go_simp
          simp only [Act.put, List.getElem_toArray, List.getElem_cons_succ, List.getElem_cons_zero, List.setIfInBounds_toArray, List.set_cons_zero, List.set_cons_succ]
          refine wpAnyH_take (i := 3) (v := .bool false) rfl (by kernel_rfl) (by kernel_rfl) (by kernel_rfl) (fun _ _ _ h => h) (Or.inl ⟨by kernel_rfl, ?_⟩) (by assumption) ?_
          · intro w9 hSw; (try dsimp only at hSw); go_simp
          simp only [Act.put, List.getElem_toArray, List.getElem_cons_succ, List.getElem_cons_zero, List.setIfInBounds_toArray, List.set_cons_zero, List.set_cons_succ]
          refine wpAnyH_take (i := 4) (v := .slice (some ⟨b, off, none⟩) n c) rfl (by kernel_rfl) (by kernel_rfl) (by kernel_rfl) (fun _ _ _ h => h) (Or.inl ⟨by kernel_rfl, ?_⟩) (by assumption) ?_
          · intro w9 hSw; (try dsimp only at hSw); go_simp
          simp only [Act.put, List.getElem_toArray, List.getElem_cons_succ, List.getElem_cons_zero, List.setIfInBounds_toArray, List.set_cons_zero, List.set_cons_succ]
          refine wpAnyH_take (i := 5) (v := .int .i64 k) rfl (by kernel_rfl) (by kernel_rfl) (by kernel_rfl) (fun _ _ _ h => h) (Or.inl ⟨by kernel_rfl, ?_⟩) (by assumption) ?_
          · intro w9 hSw; (try dsimp only at hSw); go_simp
          simp only [Act.put, List.getElem_toArray, List.getElem_cons_succ, List.getElem_cons_zero, List.setIfInBounds_toArray, List.set_cons_zero, List.set_cons_succ]
          refine wpAnyH_take (i := 6) (v := .slice (some ⟨b, off, none⟩) k c) rfl (by kernel_rfl) (by kernel_rfl) (by kernel_rfl) (fun _ _ _ h => h) (Or.inl ⟨by kernel_rfl, ?_⟩) (by assumption) ?_
          · intro w9 hSw; (try dsimp only at hSw); go_simp
          simp only [Act.put, List.getElem_toArray, List.getElem_cons_succ, List.getElem_cons_zero, List.setIfInBounds_toArray, List.set_cons_zero, List.set_cons_succ]
          refine wpAnyH_take (i := 7) (v := .agg #[.int .i64 y0, .string y1]) rfl (by kernel_rfl) (by kernel_rfl) (by kernel_rfl) (fun _ _ _ h => h) (Or.inl ⟨by kernel_rfl, ?_⟩) (by assumption) ?_
          · intro w9 hSw; (try dsimp only at hSw); go_simp
          simp only [Act.put, List.getElem_toArray, List.getElem_cons_succ, List.getElem_cons_zero, List.setIfInBounds_toArray, List.set_cons_zero, List.set_cons_succ]
          refine wpAnyH_ready (rs := [8]) (by kernel_rfl) (by simp) ?_
          refine AllReadyH.cons rfl (fun K hK => ?_) AllReadyH.nil
          go_simp
          refine (qF.out _ d1).mono ?_
          rintro e w2 ⟨rfl, hb2⟩
          have d2 : Below W0.heap.size W0 w2 := d1.trans (hb2.mono d1.size)
          clear hb2
          go_wp2_with fail
          refine hK.out _ _ (BX.out w2 d2) (fun hHeld8 => ?_)
          clear hK
          refine wpAnyH_take (i := 9) (v := .bool false) rfl (by kernel_rfl) (by kernel_rfl) (by kernel_rfl) (fun _ _ _ h => h) (Or.inl ⟨by kernel_rfl, ?_⟩) (by assumption) ?_
          · intro w9 hSw; (try dsimp only at hSw); go_simp
          simp only [Act.put, List.getElem_toArray, List.getElem_cons_succ, List.getElem_cons_zero, List.setIfInBounds_toArray, List.set_cons_zero, List.set_cons_succ]
          refine wpAnyH_take (i := 10) (v := .bool false) rfl (by kernel_rfl) (by kernel_rfl) (by kernel_rfl) (fun _ _ _ h => h) (Or.inl ⟨by kernel_rfl, ?_⟩) (by assumption) ?_
          · intro w9 hSw; (try dsimp only at hSw); go_simp
          simp only [Act.put, List.getElem_toArray, List.getElem_cons_succ, List.getElem_cons_zero, List.setIfInBounds_toArray, List.set_cons_zero, List.set_cons_succ]
          refine wpAnyH_done (by kernel_rfl) ?_ _
          have bE := bW0.trans (d2.mono bW0.size)
          go_wp2
          go_roundw
          case rel => exact ⟨k + 1, by omega, by go_num, EE.1, EE.2, bE⟩
          case measure => simp [intOf]; omega
        | false =>
          have EE : Hid (V = false) := by show _ = _; rw [hst, hB, hF]; rfl
          rw [hF] at qF
          clear hst hB hNx HE HP hFo hF
          go_wp2_with fail
          rw [← HW0.out]
          refine wp_region_held_drew (S := fun w' => w'.cell? ⟨wr.heap.size, 0, none⟩ = some (.int .i64 y0) ∧ w'.cell? ⟨wr.heap.size, 1, none⟩ = some (.string y1)) (by kernel_rfl) ⟨v0, v1⟩ (fun hHeld => ?_)
          refine wpAnyH_take (i := 0) (v := .agg #[.int .i64 y0, .string y1]) rfl (by kernel_rfl) (by kernel_rfl) (by kernel_rfl) (fun _ _ _ h => h) (Or.inl ⟨by kernel_rfl, ?_⟩) (by assumption) ?_
          · intro w9 hSw; (try dsimp only at hSw); go_simp
          simp only [Act.put, List.getElem_toArray, List.getElem_cons_succ, List.getElem_cons_zero, List.setIfInBounds_toArray, List.set_cons_zero, List.set_cons_succ]
          refine wpAnyH_ready (rs := [1]) (by kernel_rfl) (by simp) ?_
          refine AllReadyH.cons rfl (fun K hK => ?_) AllReadyH.nil
          go_simp
          refine (qE.out _).mono ?_
          rintro e w1 ⟨rfl, hb1⟩
          have d1 : Below W0.heap.size W0 w1 := bD0.trans (hb1.mono bD0.size)
          clear hb1
          go_wp2_with fail
          refine hK.out _ _ (BX.out w1 d1) (fun hHeld1 => ?_)
          clear hK
          refine wpAnyH_take (i := 2) (v := .bool false) rfl (by kernel_rfl) (by kernel_rfl) (by kernel_rfl) (fun _ _ _ h => h) (Or.inl ⟨by kernel_rfl, ?_⟩) (by assumption) ?_
          · intro w9 hSw; (try dsimp only at hSw); go_simp
          simp only [Act.put, List.getElem_toArray, List.getElem_cons_succ, List.getElem_cons_zero, List.setIfInBounds_toArray, List.set_cons_zero, List.set_cons_succ]
          refine wpAnyH_take (i := 3) (v := .bool false) rfl (by kernel_rfl) (by kernel_rfl) (by kernel_rfl) (fun _ _ _ h => h) (Or.inl ⟨by kernel_rfl, ?_⟩) (by assumption) ?_
          · intro w9 hSw; (try dsimp only at hSw); go_simp
          simp only [Act.put, List.getElem_toArray, List.getElem_cons_succ, List.getElem_cons_zero, List.setIfInBounds_toArray, List.set_cons_zero, List.set_cons_succ]
          refine wpAnyH_take (i := 4) (v := .slice (some ⟨b, off, none⟩) n c) rfl (by kernel_rfl) (by kernel_rfl) (by kernel_rfl) (fun _ _ _ h => h) (Or.inl ⟨by kernel_rfl, ?_⟩) (by assumption) ?_
          · intro w9 hSw; (try dsimp only at hSw); go_simp
          simp only [Act.put, List.getElem_toArray, List.getElem_cons_succ, List.getElem_cons_zero, List.setIfInBounds_toArray, List.set_cons_zero, List.set_cons_succ]
          refine wpAnyH_take (i := 5) (v := .int .i64 k) rfl (by kernel_rfl) (by kernel_rfl) (by kernel_rfl) (fun _ _ _ h => h) (Or.inl ⟨by kernel_rfl, ?_⟩) (by assumption) ?_
          · intro w9 hSw; (try dsimp only at hSw); go_simp
          simp only [Act.put, List.getElem_toArray, List.getElem_cons_succ, List.getElem_cons_zero, List.setIfInBounds_toArray, List.set_cons_zero, List.set_cons_succ]
          refine wpAnyH_take (i := 6) (v := .slice (some ⟨b, off, none⟩) k c) rfl (by kernel_rfl) (by kernel_rfl) (by kernel_rfl) (fun _ _ _ h => h) (Or.inl ⟨by kernel_rfl, ?_⟩) (by assumption) ?_
          · intro w9 hSw; (try dsimp only at hSw); go_simp
          simp only [Act.put, List.getElem_toArray, List.getElem_cons_succ, List.getElem_cons_zero, List.setIfInBounds_toArray, List.set_cons_zero, List.set_cons_succ]
          refine wpAnyH_take (i := 7) (v := .agg #[.int .i64 y0, .string y1]) rfl (by kernel_rfl) (by kernel_rfl) (by kernel_rfl) (fun _ _ _ h => h) (Or.inl ⟨by kernel_rfl, ?_⟩) (by assumption) ?_
          · intro w9 hSw; (try dsimp only at hSw); go_simp
          simp only [Act.put, List.getElem_toArray, List.getElem_cons_succ, List.getElem_cons_zero, List.setIfInBounds_toArray, List.set_cons_zero, List.set_cons_succ]
          refine wpAnyH_ready (rs := [8]) (by kernel_rfl) (by simp) ?_
          refine AllReadyH.cons rfl (fun K hK => ?_) AllReadyH.nil
          go_simp
          refine (qF.out _ d1).mono ?_
          rintro e w2 ⟨rfl, hb2⟩
          have d2 : Below W0.heap.size W0 w2 := d1.trans (hb2.mono d1.size)
          clear hb2
          go_wp2_with fail
          refine hK.out _ _ (BX.out w2 d2) (fun hHeld8 => ?_)
          clear hK
          refine wpAnyH_take (i := 9) (v := .bool true) rfl (by kernel_rfl) (by kernel_rfl) (by kernel_rfl) (fun _ _ _ h => h) (Or.inl ⟨by kernel_rfl, ?_⟩) (by assumption) ?_
          · intro w9 hSw; (try dsimp only at hSw); go_simp
          simp only [Act.put, List.getElem_toArray, List.getElem_cons_succ, List.getElem_cons_zero, List.setIfInBounds_toArray, List.set_cons_zero, List.set_cons_succ]
          refine wpAnyH_take (i := 10) (v := .bool true) rfl (by kernel_rfl) (by kernel_rfl) (by kernel_rfl) (fun _ _ _ h => h) (Or.inl ⟨by kernel_rfl, ?_⟩) (by assumption) ?_
          · intro w9 hSw; (try dsimp only at hSw); go_simp
          simp only [Act.put, List.getElem_toArray, List.getElem_cons_succ, List.getElem_cons_zero, List.setIfInBounds_toArray, List.set_cons_zero, List.set_cons_succ]
          refine wpAnyH_done (by kernel_rfl) ?_ _
          have bE := bW0.trans (d2.mono bW0.size)
          go_wp2
          go_ret
          exact ⟨by rw [EE.out]; rfl, bE⟩
    · have e : k = n := by omega
      subst e
      have EE : Hid (V = true) := by show _ = _; rw [HE.out]; exact ents_end d k (Nat.le_of_eq HL.out) _
      go_wp2
      go_ret
      exact ⟨by rw [EE.out]; rfl, hbel⟩

end Go.Proofs.Ytelbkamgcnmokaa

/- PutY: PutNum, the model's, where it says yes: the old bytes and the number's bytes, in new memory. -/
namespace Go.Proofs.Ytelbkamgcnmokaa
open Go.RowKit
set_option linter.unusedVariables false

theorem src_cells {w : World} {b off n : Nat} {zs : List Int} (hl : zs.length = n) (hc : ∀ i, i < n → w.cell? ⟨b, off + i, none⟩ = some (.int .u8 (zs[i]?.getD 0))) :
    ∀ j u, (zs.map (Value.int .u8))[j]? = some u → w.cell? ((⟨b, off, none⟩ : Addr).add j) = some u := by
  intro j u hj
  have hlt : j < zs.length := by
    by_cases h : j < zs.length
    · exact h
    · rw [List.getElem?_eq_none (by simp; omega)] at hj; cases hj
  have e : (⟨b, off, none⟩ : Addr).add j = ⟨b, off + j, none⟩ := by cases j <;> simp [Addr.add]
  rw [e, hc j (by omega)]
  simp [hlt] at hj ⊢
  exact hj

end Go.Proofs.Ytelbkamgcnmokaa

/- PutI: PutNum, the program's. -/
namespace Go.Proofs.Ytelbkamgcnmokaa
open Go.RowKit
set_option linter.unusedVariables false

theorem pw_two : ∀ j : Nat, pw j = 2 ^ (8 * j)
  | 0 => by simp [pw]
  | j + 1 => by
    have e : 8 * (j + 1) = 8 * j + 8 := by omega
    rw [pw, pw_two j, e, Int.pow_add]
    rfl

theorem sh_pw (S : Nat) (h1 : 1 ≤ S) (h4 : S ≤ 4) : wrap64 (2 ^ (8 * S)) = pw S := by
  match S, h1, h4 with
  | 1, _, _ => simp [wrap64, pw]
  | 2, _, _ => simp [wrap64, pw]
  | 3, _, _ => simp [wrap64, pw]
  | 4, _, _ => simp [wrap64, pw]

set_option maxHeartbeats 1000000 in
theorem implPut_no (a : Option Addr) (n cap : Nat) (N s : Int) (w : World) (hn : n ≤ 2097152) (hN : -9223372036854775808 ≤ N ∧ N ≤ 9223372036854775807) (hs : -9223372036854775808 ≤ s ∧ s ≤ 9223372036854775807) (h : ¬ pok n N s) :
    Calls Try.prog 21 #[.slice a n cap, .int .i64 N, .int .i64 s] w fun e w' => e = .returned (.tuple #[.slice none 0 0, .bool false]) ∧ w' = w := by
  unfold pok at h
  by_cases h1 : s < 1
  · clear h
    go_enter Try.func21, Try.ntmps21
    go_wp2
    go_ret2
    exact ⟨rfl, rfl⟩
  by_cases h2 : 4 < s
  · clear h
    go_enter Try.func21, Try.ntmps21
    go_wp2
    go_ret2
    exact ⟨rfl, rfl⟩
  by_cases h3 : N < 0
  · clear h
    go_enter Try.func21, Try.ntmps21
    go_wp2
    go_ret2
    exact ⟨rfl, rfl⟩
  obtain ⟨S, rfl⟩ := Int.eq_ofNat_of_zero_le (show 0 ≤ s by omega)
  have e : ((S : Int)).toNat = S := by omega
  rw [e] at h
  have hsh := sh_pw S (by omega) (by omega)
  by_cases h4 : pw S ≤ N
  · clear h
    go_enter Try.func21, Try.ntmps21
    go_wp2
    go_ret2
    exact ⟨rfl, rfl⟩
  have h5 : (65536 : Int) - S < n := by omega
  have h4' : N < pw S := by omega
  clear h
  go_enter Try.func21, Try.ntmps21
  go_wp2
  go_ret2
  exact ⟨rfl, rfl⟩

set_option maxHeartbeats 1000000 in
theorem implPut_yes (b off n cap : Nat) (zs : List Int) (N : Int) (S : Nat) (w : World) (hl : Hid (zs.length = n)) (hb : b < w.heap.size) (hc : ∀ i, i < n → w.cell? ⟨b, off + i, none⟩ = some (.int .u8 (zs[i]?.getD 0)))
    (hs1 : 1 ≤ S) (hs4 : S ≤ 4) (hN : 0 ≤ N) (hNp : N < pw S) (hn : n + S ≤ 65536) :
    Calls Try.prog 21 #[.slice (some ⟨b, off, none⟩) n cap, .int .i64 N, .int .i64 S] w fun e w' => ∃ v, e = .returned (.tuple #[v, .bool true]) ∧
      w'.ownsRow w.heap.size 5 1 v (n + S) ((zs ++ pdig N S S).map (Value.int .u8)) ∧ Below w.heap.size w w' := by
  obtain ⟨i0, hi, hz0, hz1, hz2⟩ := info_parts Try.infoB
  have hNb : N < 4294967296 := by
    match S, hs1, hs4, hNp with
    | 1, _, _, h => simp [pw] at h; omega
    | 2, _, _, h => simp [pw] at h; omega
    | 3, _, _, h => simp [pw] at h; omega
    | 4, _, _, h => simp [pw] at h; omega
  have hsh := sh_pw S (by omega) (by omega)
  go_enter Try.func21, Try.ntmps21
  go_wp2_with (first | (at_make; refine wpList_make_own _ rfl _ _ 22 rfl w.heap.size 5 i0 (.int .u8 0) 1 Try.underlying22 hi hz0 hz1 _ _ _ (n + S) rfl rfl ?b1 ?b2 ?b3 (Nat.le_refl _) ?_) | go_in)
  case b1 => omega
  case b2 => rw [hz2]; omega
  case b3 => unfold maxLen; omega
  intro w0 hown0 hgrow0
  have hbel0 : Below w.heap.size w w0 := (Below.refl _ _).grown hgrow0 (Nat.le_refl _) (fun k h => by cases h)
  have hbs0 := hbel0.size
  clear hgrow0
  go_wp2_with (at_builtin; refine wpList_append_own _ rfl _ _ 22 rfl w.heap.size 5 i0 (.int .u8 0) 1 1 Try.underlying22 hi hz0 hz1 hz2 rfl (by decide) _ _ _ rfl hown0 ⟨b, off, none⟩ n _ (zs.map (Value.int .u8)) rfl ?c0 ?c1 ?c2 ?c3 ?c4 ?c5 ?_)
  case c0 => simp; exact hl.out
  case c1 =>
    refine src_cells hl.out fun i h => ?_
    exact (hbel0.cell (p := ⟨b, off + i, none⟩) hb).trans (hc i h)
  case c2 => exact ints_oneCell _ _
  case c3 => unfold maxLen; omega
  case c4 => omega
  case c5 => omega
  intro v1 w1 hown1 hgrow1 _
  have hbel1 : Below w.heap.size w w1 := hbel0.grown hgrow1 hbs0 (fun k h => by simp [Value.ownBlock] at h; omega)
  clear hgrow1 hown0 hc hb hbel0 hbs0
  go_wp2
  go_loopw [8, 40] (fun v i wr => ∃ k : Nat, k ≤ S ∧ i = .int .i64 k ∧ wr.ownsRow w.heap.size 5 1 v (n + k) ((zs ++ pdig N S k).map (Value.int .u8)) ∧ Below w.heap.size w wr)
    (fun _ i _ => S - (intOf i).toNat)
  case atStart => exact ⟨0, Nat.zero_le _, rfl, by simpa [pdig] using hown1, hbel1⟩
  case round =>
    obtain ⟨k, hk, rfl, hown, hbel⟩ := hrel
    by_cases hlt : k < S
    · have hbs := hbel.size
      have HD : Hid (pdig N S (k + 1) = pdig N S k ++ [N / 2 ^ (8 * (S - 1 - k)) % 256]) := by
        show pdig N S (k + 1) = _
        rw [pdig_succ, pw_two]
      go_wp2_with (at_builtin; refine wpList_append_own _ rfl _ _ 22 rfl w.heap.size 5 i0 (.int .u8 0) 1 1 Try.underlying22 hi hz0 hz1 hz2 rfl (by decide) _ _ _ rfl (hown.alloc _) ⟨_, 0, none⟩ 1 _ [.int .u8 (N / 2 ^ (8 * (S - 1 - k)) % 256)] rfl rfl ?c1 ?c2 ?c3 ?c4 ?c5 ?_)
      case c1 => exact cell_one_new _ _ _
      case c2 => intro u hu; simp at hu; subst hu; rfl
      case c3 => unfold maxLen; omega
      case c4 => omega
      case c5 => simp; omega
      intro v3 w3 hown3 hgrow3 _
      have hlt3 := hown.lt
      have hbel3 : Below w.heap.size w w3 := (hbel.alloc hbs _).grown hgrow3 (by simp; omega) (fun x h => (hlt3 x h).1)
      have hown4 : w3.ownsRow w.heap.size 5 1 v3 (n + (k + 1)) ((zs ++ pdig N S (k + 1)).map (Value.int .u8)) := by
        rw [HD.out]
        simpa [Nat.add_assoc] using hown3
      clear hown3 hgrow3 hlt3 hown
      go_wp2
      go_roundw
      case rel => exact ⟨k + 1, by omega, by go_num, hown4, hbel3⟩
      case measure => simp [intOf]; omega
    · have e : k = S := by omega
      subst e
      go_wp2
      go_ret2
      exact ⟨_, rfl, hown, hbel⟩

end Go.Proofs.Ytelbkamgcnmokaa

/- PutV: PutNum, the model's and the program's, where it says yes: of a slice that may be nil. -/
namespace Go.Proofs.Ytelbkamgcnmokaa
open Go.RowKit
set_option linter.unusedVariables false

set_option maxHeartbeats 1000000 in
theorem implPut_src (a : Option Addr) (n cap : Nat) (zs : List Int) (N : Int) (S : Nat) (w : World) (hl : Hid (zs.length = n)) (hc : Src w (.slice a n cap) n (zs.map (Value.int .u8)))
    (hs1 : 1 ≤ S) (hs4 : S ≤ 4) (hN : 0 ≤ N) (hNp : N < pw S) (hn : n + S ≤ 65536) :
    Calls Try.prog 21 #[.slice a n cap, .int .i64 N, .int .i64 S] w fun e w' => ∃ v, e = .returned (.tuple #[v, .bool true]) ∧
      w'.ownsRow w.heap.size 5 1 v (n + S) ((zs ++ pdig N S S).map (Value.int .u8)) ∧ Below w.heap.size w w' := by
  obtain ⟨i0, hi, hz0, hz1, hz2⟩ := info_parts Try.infoB
  have hNb : N < 4294967296 := by
    match S, hs1, hs4, hNp with
    | 1, _, _, h => simp [pw] at h; omega
    | 2, _, _, h => simp [pw] at h; omega
    | 3, _, _, h => simp [pw] at h; omega
    | 4, _, _, h => simp [pw] at h; omega
  have hsh := sh_pw S (by omega) (by omega)
  go_enter Try.func21, Try.ntmps21
  go_wp2_with (first | (at_make; refine wpList_make_own _ rfl _ _ 22 rfl w.heap.size 5 i0 (.int .u8 0) 1 Try.underlying22 hi hz0 hz1 _ _ _ (n + S) rfl rfl ?b1 ?b2 ?b3 (Nat.le_refl _) ?_) | go_in)
  case b1 => omega
  case b2 => rw [hz2]; omega
  case b3 => unfold maxLen; omega
  intro w0 hown0 hgrow0
  have hbel0 : Below w.heap.size w w0 := (Below.refl _ _).grown hgrow0 (Nat.le_refl _) (fun k h => by cases h)
  have hbs0 := hbel0.size
  clear hgrow0
  go_wp2_with (at_builtin; refine wpList_append_src rfl _ _ 22 rfl w.heap.size 5 i0 (.int .u8 0) 1 1 Try.underlying22 hi hz0 hz1 hz2 rfl (by decide) _ _ _ rfl hown0 (.slice a n cap) n (zs.map (Value.int .u8)) rfl ?c0 ?c1 ?c2 ?c3 ?c4 ?c5 ?_)
  case c0 => simp; exact hl.out
  case c1 => exact src_later hc hbel0
  case c2 => exact ints_oneCell _ _
  case c3 => unfold maxLen; omega
  case c4 => omega
  case c5 => omega
  intro v1 w1 hown1 hgrow1
  have hbel1 : Below w.heap.size w w1 := hbel0.grown hgrow1 hbs0 (fun k h => by simp [Value.ownBlock] at h; omega)
  clear hgrow1 hown0 hc hbel0 hbs0
  go_wp2
  go_loopw [8, 40] (fun v i wr => ∃ k : Nat, k ≤ S ∧ i = .int .i64 k ∧ wr.ownsRow w.heap.size 5 1 v (n + k) ((zs ++ pdig N S k).map (Value.int .u8)) ∧ Below w.heap.size w wr)
    (fun _ i _ => S - (intOf i).toNat)
  case atStart => exact ⟨0, Nat.zero_le _, rfl, by simpa [pdig] using hown1, hbel1⟩
  case round =>
    obtain ⟨k, hk, rfl, hown, hbel⟩ := hrel
    by_cases hlt : k < S
    · have hbs := hbel.size
      have HD : Hid (pdig N S (k + 1) = pdig N S k ++ [N / 2 ^ (8 * (S - 1 - k)) % 256]) := by
        show pdig N S (k + 1) = _
        rw [pdig_succ, pw_two]
      go_wp2_with (at_builtin; refine wpList_append_own _ rfl _ _ 22 rfl w.heap.size 5 i0 (.int .u8 0) 1 1 Try.underlying22 hi hz0 hz1 hz2 rfl (by decide) _ _ _ rfl (hown.alloc _) ⟨_, 0, none⟩ 1 _ [.int .u8 (N / 2 ^ (8 * (S - 1 - k)) % 256)] rfl rfl ?c1 ?c2 ?c3 ?c4 ?c5 ?_)
      case c1 => exact cell_one_new _ _ _
      case c2 => intro u hu; simp at hu; subst hu; rfl
      case c3 => unfold maxLen; omega
      case c4 => omega
      case c5 => simp; omega
      intro v3 w3 hown3 hgrow3 _
      have hlt3 := hown.lt
      have hbel3 : Below w.heap.size w w3 := (hbel.alloc hbs _).grown hgrow3 (by simp; omega) (fun x h => (hlt3 x h).1)
      have hown4 : w3.ownsRow w.heap.size 5 1 v3 (n + (k + 1)) ((zs ++ pdig N S (k + 1)).map (Value.int .u8)) := by
        rw [HD.out]
        simpa [Nat.add_assoc] using hown3
      clear hown3 hgrow3 hlt3 hown
      go_wp2
      go_roundw
      case rel => exact ⟨k + 1, by omega, by go_num, hown4, hbel3⟩
      case measure => simp [intOf]; omega
    · have e : k = S := by omega
      subst e
      go_wp2
      go_ret2
      exact ⟨_, rfl, hown, hbel⟩

end Go.Proofs.Ytelbkamgcnmokaa

/- CrcI: Crc32, the program's: a register that a closure turns, byte by byte. -/
namespace Go.Proofs.Ytelbkamgcnmokaa
open Go.RowKit
set_option linter.unusedVariables false

/-- The register: one cell of the call's own. -/
def Reg (w : World) (g : Nat) (r : Int) : Prop := w.cell? ⟨g, 0, none⟩ = some (.int .u32 r) ∧ w.frozen? ⟨g, 0, none⟩ = false

theorem reg_set {w : World} {g : Nat} {r : Int} (h : Reg w g r) (s : Int) : Reg (w.setCell ⟨g, 0, none⟩ (.int .u32 s)) g s ∧ w.grownBy (w.setCell ⟨g, 0, none⟩ (.int .u32 s)) (some g) := by
  refine ⟨⟨World.cell?_setCell_same w _ _ h.1, ?_⟩, ⟨rfl, rfl, rfl, by simp, fun k _ hk => heap_setCell_other w ⟨g, 0, none⟩ k _ (fun e => hk (by simp [e]))⟩⟩
  simpa using h.2

theorem xor_u32 (r c : Nat) (h : r < 4294967296) (hc : c < 4294967296) : bits .xor .u32 (r : Int) (c : Int) = ((r ^^^ c : Nat) : Int) := u32_xor_nat r c h hc
theorem xor_half32 (r : Nat) (h : r < 4294967296) : bits .xor .u32 ((r : Int) / 2) 3988292384 = ((r / 2 ^^^ 3988292384 : Nat) : Int) := by
  have e : ((r : Int) / 2) = ((r / 2 : Nat) : Int) := by omega
  rw [e]
  exact u32_xor_nat (r / 2) 3988292384 (by omega) (by omega)

set_option maxHeartbeats 1000000 in
theorem take_any (g r c : Nat) (w : World) (hreg : Reg w g (r : Int)) (hr : r < 4294967296) (hc : c < 256) :
    Calls Try.prog 34 #[.int .u8 (c : Int), .pointer (some ⟨g, 0, none⟩)] w fun e w' => e = .returned (.tuple #[]) ∧ Reg w' g (cits 8 (r ^^^ c) : Nat) ∧ w.grownBy w' (some g) := by
  have hx := xor_u32 r c hr (by omega)
  have h1 := hreg.1
  have h2 := hreg.2
  obtain ⟨X, hX⟩ : ∃ X, X = r ^^^ c := ⟨_, rfl⟩
  have hXl : X < 4294967296 := by rw [hX]; exact cxor_lt _ _ hr (by omega)
  rw [← hX] at hx ⊢
  have HS := reg_set hreg (X : Int)
  have HH : Hid (_ ∧ _) := HS
  clear hX HS
  go_enter Try.func34, Try.ntmps34
  go_wp2
  go_loopw [8] (fun i wr => ∃ j : Nat, j ≤ 8 ∧ i = .int .i64 j ∧ Reg wr g (cits j X : Nat) ∧ w.grownBy wr (some g)) (fun i _ => 8 - (intOf i).toNat)
  case atStart => exact ⟨0, Nat.zero_le _, rfl, HH.out.1, HH.out.2⟩
  case round =>
    obtain ⟨j, hj, rfl, hreg2, hgr⟩ := hrel
    have hYl := cits_lt j X hXl
    by_cases hjl : j < 8
    · have hY' : cits (j + 1) X = cstep (cits j X) := rfl
      obtain ⟨Y, hY⟩ : ∃ Y, Y = cits j X := ⟨_, rfl⟩
      rw [← hY] at hYl hY' hreg2
      have g1 := hreg2.1
      have g2 := hreg2.2
      have hand : bits .and .u32 (Y : Int) 1 = ((Y % 2 : Nat) : Int) := by
        have := u32_and_nat Y 1 hYl (by omega)
        rw [Nat.and_one_is_mod] at this
        exact this
      clear hY hx h1 h2
      by_cases hodd : Y % 2 = 1
      · have hxr := xor_half32 Y hYl
        rw [hodd] at hand
        rw [cstep_odd Y hodd] at hY'
        have s1 := reg_set hreg2 ((Y : Int) / 2)
        have s2 := reg_set s1.1 ((Y / 2 ^^^ 3988292384 : Nat) : Int)
        have HY : Hid (cits (j + 1) X = Y / 2 ^^^ 3988292384) := hY'
        have H1 : Hid (_ ∧ _) := s1
        have H2 : Hid (_ ∧ _) := s2
        clear hY' s1 s2
        go_wp2
        go_roundw
        case rel => exact ⟨j + 1, by omega, by go_num, by rw [HY.out]; exact H2.out.1, grownBy_trans hgr (grownBy_trans H1.out.2 H2.out.2)⟩
        case measure => simp [intOf]; omega
      · have hev : Y % 2 = 0 := by omega
        rw [hev] at hand
        rw [cstep_even Y hodd] at hY'
        have s1 := reg_set hreg2 ((Y : Int) / 2)
        have HY : Hid (cits (j + 1) X = Y / 2) := hY'
        have H1 : Hid (_ ∧ _) := s1
        clear hY' s1 hodd
        go_wp2
        go_roundw
        case rel => exact ⟨j + 1, by omega, by go_num, by rw [HY.out]; exact H1.out.1, grownBy_trans hgr H1.out.2⟩
        case measure => simp [intOf]; omega
    · have e : j = 8 := by omega
      subst e
      go_wp2
      go_end0
      exact ⟨rfl, hreg2, hgr⟩

set_option maxHeartbeats 1000000 in
theorem implCrc_any (a : Option Addr) (n cap : Nat) (zs : List Int) (w : World) (hl : Hid (zs.length = n)) (hr : Rd w a zs) (hn : n ≤ 2097152) :
    Calls Try.prog 31 #[.slice a n cap] w fun e w' => e = .returned (.int .i64 ((csum zs n ^^^ 4294967295 : Nat) : Int)) ∧ Below w.heap.size w w' := by
  have hz := hr.1
  go_enter Try.func31, Try.ntmps31
  go_wp2
  go_loopw [10] (fun i wr => ∃ k : Nat, k ≤ n ∧ i = .int .i64 k ∧ Reg wr w.heap.size (csum zs k : Nat) ∧ Below w.heap.size w wr) (fun i _ => n - (intOf i).toNat)
  case atStart => exact ⟨0, Nat.zero_le _, rfl, ⟨by simp; rfl, by simp⟩, (Below.refl _ _).alloc (Nat.le_refl _) _⟩
  case round =>
    obtain ⟨k, hk, rfl, hreg, hbel⟩ := hrel
    have hR := csum_lt zs hz k
    by_cases hlt : k < n
    · have hne : zs ≠ [] := by intro h; have := hl.out; subst h; simp at this; omega
      obtain ⟨b, off, rfl, hb, hc⟩ := hr.2.resolve_left hne
      obtain ⟨c, hce⟩ : ∃ c : Nat, zs[k]?.getD 0 = (c : Int) := Int.eq_ofNat_of_zero_le (hz k).1
      have hc255 : c ≤ 255 := by have := (hz k).2; omega
      have hcell : wr.cell? ⟨b, off + k, none⟩ = some (.int .u8 (c : Int)) := by rw [← hce]; exact (hbel.cell (p := ⟨b, off + k, none⟩) hb).trans (hc k (by have := hl.out; omega))
      have HS : Hid (csum zs (k + 1) = cits 8 (csum zs k ^^^ c)) := by show csum zs (k + 1) = _; rw [csum, hce]; rfl
      have hbs := hbel.size
      clear hce hc hz hne hr
      go_wp2_with (go_at_call 34; refine (take_any _ (csum zs k) c _ hreg hR (by omega)).mono ?_; rintro e w2 ⟨rfl, hreg2, hg2⟩)
      have hbel2 : Below w.heap.size w w2 := hbel.grown hg2 hbs (fun x h => by cases h; exact Nat.le_refl _)
      go_wp2
      go_roundw
      case rel => exact ⟨k + 1, by omega, by go_num, by rw [HS.out]; exact hreg2, hbel2⟩
      case measure => simp [intOf]; omega
    · have e : k = n := by omega
      subst e
      have g1 := hreg.1
      have hx : bits .xor .u32 IntKind.u32.max (csum zs k : Int) = ((csum zs k ^^^ 4294967295 : Nat) : Int) := by
        have h := u32_xor_nat 4294967295 (csum zs k) (by omega) hR
        rw [Nat.xor_comm] at h
        exact h
      have hxl : csum zs k ^^^ 4294967295 < 4294967296 := by
        have : csum zs k ^^^ 4294967295 < 2 ^ 32 := Nat.xor_lt_two_pow (by omega) (by omega)
        omega
      obtain ⟨X, hX⟩ : ∃ X, X = csum zs k ^^^ 4294967295 := ⟨_, rfl⟩
      rw [← hX] at hx hxl
      have HX : Hid (X = csum zs k ^^^ 4294967295) := hX
      have hw : wrap64 (X : Int) = (X : Int) := IntWalk.wrap64_in _ ⟨by omega, by omega⟩
      clear hX
      go_wp2
      go_ret
      exact ⟨by rw [← HX.out]; rfl, hbel⟩

end Go.Proofs.Ytelbkamgcnmokaa

/- Clone: bytes.Clone, and the cells of a slice of bytes as the source of an append. -/
namespace Go.Proofs.Ytelbkamgcnmokaa
open Go.RowKit
set_option linter.unusedVariables false

theorem rd_take {w : World} {a : Option Addr} {zs : List Int} (h : Rd w a zs) (j : Nat) : Rd w a (zs.take j) := by
  obtain ⟨h1, h2⟩ := h
  refine ⟨fun i => ?_, ?_⟩
  · by_cases hi : i < j
    · rw [List.getElem?_take_of_lt hi]; exact h1 i
    · rw [List.getElem?_eq_none (by simp; omega)]; simp
  · rcases h2 with rfl | ⟨b, off, h3, h4, h5⟩
    · exact .inl (by simp)
    · refine .inr ⟨b, off, h3, h4, fun i hi => ?_⟩
      rw [List.length_take] at hi
      rw [List.getElem?_take_of_lt (by omega)]
      exact h5 i (by omega)

theorem rd_src {w : World} {ad : Addr} {zs : List Int} (h : Rd w (some ad) zs) : ∀ (j : Nat) (u : Value), (zs.map (Value.int .u8))[j]? = some u → w.cell? (ad.add j) = some u := by
  intro j u hu
  rcases h.2 with rfl | ⟨b, off, h3, h4, h5⟩
  · simp at hu
  · obtain rfl : ad = ⟨b, off, none⟩ := Option.some.inj h3
    have hj : j < zs.length := by
      have := (List.getElem?_eq_some_iff.1 hu).1
      simpa using this
    have e : (⟨b, off, none⟩ : Addr).add j = ⟨b, off + j, none⟩ := by cases j <;> simp [Addr.add]
    rw [e, h5 j hj]
    rw [List.getElem?_map] at hu
    rw [List.getElem?_eq_getElem hj] at hu ⊢
    simpa using hu

theorem bytes_oneCell (zs : List Int) : ∀ u ∈ zs.map (Value.int .u8), u.oneCell' = true := by
  intro u hu
  simp at hu
  obtain ⟨z, _, rfl⟩ := hu
  rfl

theorem rd_none {w : World} {zs : List Int} (h : Rd w none zs) : zs = [] := by
  rcases h.2 with h | ⟨b, off, h, _⟩
  · exact h
  · cases h

set_option maxHeartbeats 1000000 in
theorem clone_any (a : Option Addr) (n cap : Nat) (zs : List Int) (w : World) (hl : Hid (zs.length = n)) (hr : Rd w a zs) (hn : n ≤ 2097152) :
    Calls Try.prog 32 #[.slice a n cap] w fun e w' => ∃ v, e = .returned v ∧ w'.ownsRow w.heap.size 5 1 v n (zs.map (Value.int .u8)) ∧ Below w.heap.size w w' := by
  obtain ⟨i0, hi, hz0, hz1, hz2⟩ := info_parts Try.infoB
  have hm0 : (0 : Nat) ≤ maxLen := Nat.zero_le _
  have hown00 := World.ownsRow_lit (base := w.heap.size) (e := 5) (size := 1) w #[] 0 (Nat.le_refl _) hm0 rfl
  have q22 : ∀ (w : World) (a : Option Addr) (n c n' c' : Nat), (binOp .eql 22 (.slice a n c) (.slice none n' c')).run Try.prog w = .ok (.bool a.isNone) w := fun w a n c n' c' => Lib.run_eql_slice_nil w _ _ a n c n' c' Try.underlying22
  cases a with
  | none =>
    have hz := rd_none hr
    subst hz
    have h0 : n = 0 := by have := hl.out; simpa using this.symm
    subst h0
    go_enter Try.func32, Try.ntmps32
    go_wp2
    go_ret
    exact ⟨_, rfl, ⟨by simp, .inl ⟨rfl, rfl⟩⟩, Below.refl _ _⟩
  | some ad =>
    have hsrc := rd_src (hr.later ((Below.refl w.heap.size w).alloc (Nat.le_refl _) (.cells #[] 5)))
    go_enter Try.func32, Try.ntmps32
    have k0 : (zs.map (Value.int .u8)).length = n * 1 := by simp; exact hl.out
    have k3 : 0 + n ≤ maxLen := by unfold maxLen; omega
    have k4 : (0 + n) * 1 ≤ 140737488355328 := by omega
    have k5 : w.heap.size ≤ (w.alloc (.cells #[] 5)).heap.size := by simp
    have K5 : Hid (_ ∧ _ ∧ _ ∧ _ ∧ _) := ⟨k0, hsrc, k3, k4, k5⟩
    clear k0 k3 k4 k5 hsrc
    go_wp2_with (at_builtin; refine wpList_append_own _ rfl _ _ 22 rfl w.heap.size 5 i0 (.int .u8 0) 1 1 Try.underlying22 hi hz0 hz1 hz2 rfl (by decide) _ _ _ rfl hown00 ad n _ (zs.map (Value.int .u8)) rfl K5.out.1 K5.out.2.1 (bytes_oneCell _) K5.out.2.2.1 K5.out.2.2.2.1 K5.out.2.2.2.2 ?_)
    intro v0 w1 hown1 hgrow1 _
    have hbel1 : Below w.heap.size w w1 := ((Below.refl _ _).alloc (Nat.le_refl _) _).grown hgrow1 (by simp) (fun k h => by simp [Value.ownBlock] at h; omega)
    go_wp2
    go_ret
    exact ⟨_, rfl, by simpa using hown1, hbel1⟩

end Go.Proofs.Ytelbkamgcnmokaa

/- FrI: frameSum and FrameBytes of the program. By program (frgen.py). -/
namespace Go.Proofs.Ytelbkamgcnmokaa
open Go.RowKit
set_option linter.unusedVariables false
set_option linter.unusedSimpArgs false

theorem below_bytes (w : World) (s : ByteArray) : Below w.heap.size w (Lib.bytesWorld w 5 s) :=
  ⟨rfl, rfl, rfl, by rw [Lib.bytesWorld_size]; omega, fun j hj => Lib.bytesWorld_at_old w 5 s j hj⟩

theorem src_text (w : World) (s : ByteArray) (c : Nat) : Src (Lib.bytesWorld w 5 s) (.slice (some ⟨w.heap.size, 0, none⟩) s.size c) s.size ((sB s).map (Value.int .u8)) := by
  refine .inr ⟨_, c, rfl, fun j u hu => ?_⟩
  have hj : j < s.size := by
    have := (List.getElem?_eq_some_iff.1 hu).1
    rw [List.length_map, sB_len] at this
    exact this
  have e : (⟨w.heap.size, 0, none⟩ : Addr).add j = ⟨w.heap.size, j, none⟩ := by cases j <;> simp [Addr.add]
  rw [e, Lib.bytesWorld_cell w 5 s j hj, ← hu]
  have hj' : j < s.data.toList.length := by rw [Array.length_toList]; exact hj
  simp [sB, List.getD_eq_getElem?_getD, List.getElem?_eq_getElem hj']

set_option maxRecDepth 100000 in
set_option maxHeartbeats 2000000 in
theorem frameSum_any (a : Option Addr) (n c : Nat) (zs : List Int) (y : Value) (m : Nat) (ts : List Int) (w : World) (hl : Hid (zs.length = n)) (hr : Rd w a zs) (hs : Src w y m (ts.map (Value.int .u8))) (htl : Hid (ts.length = m))
    (hbt : Hid (Byt ts)) (hn0 : 0 < n) (hn : n + m ≤ 1048576) :
    Calls Try.prog 22 #[.slice a n c, y] w fun e w' => e = .returned (.int .i64 (crcI (zs ++ ts))) ∧ Below w.heap.size w w' := by
  obtain ⟨i0, hi, hz0, hz1, hz2⟩ := info_parts Try.infoB
  have hbz : Hid (Byt zs) := hr.1
  obtain ⟨C, hC⟩ : ∃ C, C = crcI (zs ++ ts) := ⟨_, rfl⟩
  have hcl : (zs ++ ts).length = n + m := by rw [List.length_append, hl.out, htl.out]
  have qC : Hid (∀ w' v, w'.ownsRow 0 5 1 v (n + m) (zs.map (Value.int .u8) ++ ts.map (Value.int .u8)) → Calls Try.prog 31 #[v] w' fun e w'' => e = .returned (.int .i64 C) ∧ Below w'.heap.size w' w'') := fun w' v ho => by
    obtain ⟨g, cap, rfl, _⟩ := own_form ho (by omega)
    rw [← List.map_append] at ho
    refine (implCrc_any _ _ cap _ w' hcl (rd_own hcl (byt_append hbz.out hbt.out) ho) (by omega)).mono ?_
    rintro e w'' ⟨rfl, hb⟩
    exact ⟨by rw [hC, crcI, hcl], hb⟩
  have qK : Hid (Calls Try.prog 32 #[.slice a n c] w fun e w' => ∃ v, e = .returned v ∧ w'.ownsRow w.heap.size 5 1 v n (zs.map (Value.int .u8)) ∧ Below w.heap.size w w') := clone_any a n c zs w hl hr (by omega)
  have HS : Hid (Src w y m (ts.map (Value.int .u8))) := hs
  rw [← hC]
  clear hr hs hC hcl
  go_enter Try.func22, Try.ntmps22
  go_wp2_with fail
  refine qK.out.mono ?_
  rintro e w1 ⟨v1, rfl, o1, b1⟩
  have b1s := b1.size
  go_wp2_with (at_builtin; refine wpList_append_src rfl _ _ 22 rfl w.heap.size 5 i0 (.int .u8 0) 1 1 Try.underlying22 hi hz0 hz1 hz2 rfl (by decide) v1 n (zs.map (Value.int .u8)) rfl o1 y m (ts.map (Value.int .u8)) rfl ?c0 ?c1 ?c2 ?c3 ?c4 ?c5 ?_)
  case c0 => rw [List.length_map, htl.out]; omega
  case c1 => exact src_later HS.out b1
  case c2 => exact ints_oneCell _ _
  case c3 => unfold maxLen; omega
  case c4 => omega
  case c5 => exact b1s
  intro v2 w2 o2 gr2
  have b2 : Below w.heap.size w w2 := b1.grown gr2 b1s (fun k h => (o1.lt k h).1)
  clear gr2 o1
  go_wp2_with fail
  refine (qC.out _ _ (own_base0 o2)).mono ?_
  rintro e w3 ⟨rfl, hb3⟩
  have b3 := b2.trans (hb3.mono b2.size)
  clear o2
  go_wp2
  go_ret
  exact ⟨rfl, b3⟩

set_option maxRecDepth 100000 in
set_option maxHeartbeats 2000000 in
theorem implFrame_no (x0 : Int) (x1 : ByteArray) (w : World) (h1 : x1.size ≤ maxLen) (hB : entB x0 x1.size = false) :
    Calls Try.prog 10 #[.agg #[.int .i64 x0, .string x1]] w fun e w' => e = .returned (.tuple #[.slice none 0 0, .bool false]) ∧ Below w.heap.size w w' := by
  have qE : Hid (∀ w', Calls Try.prog 20 #[.agg #[.int .i64 x0, .string x1]] w' fun e w'' => e = .returned (.bool false) ∧ Below w'.heap.size w' w'') := fun w' => by rw [← hB]; exact implEnt_any _ _ w' h1
  clear hB
  obtain ⟨W0, hW0⟩ : ∃ W0, W0 = w.alloc (.cells #[.int .i64 x0, .string x1] 28) := ⟨_, rfl⟩
  have bW0 : Below w.heap.size w W0 := by rw [hW0]; exact (Below.refl _ _).alloc (Nat.le_refl _) _
  have hbox : W0.heap[w.heap.size]? = some (.cells #[.int .i64 x0, .string x1] 28 (0, 0)) := by rw [hW0]; exact heap_alloc_new w _
  have zlt0 : w.heap.size < W0.heap.size := by rw [hW0]; simp
  have HW0 : Hid (W0 = w.alloc (.cells #[.int .i64 x0, .string x1] 28)) := hW0
  have BX : Hid (∀ w', Below W0.heap.size W0 w' → w'.cell? ⟨w.heap.size, 0, none⟩ = some (.int .i64 x0) ∧ w'.cell? ⟨w.heap.size, 1, none⟩ = some (.string x1)) := fun w' h' => by
    have i := (h'.block _ zlt0).trans hbox
    exact ⟨box_cell i rfl, box_cell i rfl⟩
  obtain ⟨v0, v1⟩ := BX.out W0 (Below.refl _ _)
  clear hW0 hbox
  go_enter Try.func10, Try.ntmps10
  go_wp2_with fail
  rw [← HW0.out]
  refine (qE.out _).mono ?_
  rintro e w1 ⟨rfl, hb1⟩
  have b1 := bW0.trans (hb1.mono bW0.size)
  clear v0 v1
  go_wp2
  go_ret2
  exact ⟨rfl, b1⟩

set_option maxRecDepth 100000 in
set_option maxHeartbeats 4000000 in
theorem implFrame_yes (x0 : Int) (x1 : ByteArray) (w : World) (hB : entB x0 x1.size = true) :
    Calls Try.prog 10 #[.agg #[.int .i64 x0, .string x1]] w fun e w' => ∃ v, e = .returned (.tuple #[v, .bool true]) ∧
      w'.ownsRow w.heap.size 5 1 v (10 + x1.size) ((frameL x0 (sB x1)).map (Value.int .u8)) ∧ Below w.heap.size w w' := by
  obtain ⟨i0, hi, hz0, hz1, hz2⟩ := info_parts Try.infoB
  have hb := (entB_iff _ _).1 hB
  have hlen : x1.size ≤ 1000 := hb.2.2.2
  have qE : Hid (∀ w', Calls Try.prog 20 #[.agg #[.int .i64 x0, .string x1]] w' fun e w'' => e = .returned (.bool true) ∧ Below w'.heap.size w' w'') := fun w' => by rw [← hB]; exact implEnt_any _ _ w' (by unfold maxLen; omega)
  have q2 : Hid (∀ w', Calls Try.prog 21 #[.slice none 0 0, .int .i64 (x1.size : Int), .int .i64 2] w' fun e w'' => ∃ v, e = .returned (.tuple #[v, .bool true]) ∧ w''.ownsRow w'.heap.size 5 1 v 2 ((pdig x1.size 2 2).map (Value.int .u8)) ∧ Below w'.heap.size w' w'') := fun w' =>
    implPut_src none 0 0 [] (x1.size : Int) 2 w' rfl (src_nil _) (by omega) (by omega) (by omega) (by simp [pw]; omega) (by omega)
  have q3 : Hid (∀ w' g c, w'.ownsRow 0 5 1 (.slice (some ⟨g, 0, none⟩) 2 c) 2 ((pdig x1.size 2 2).map (Value.int .u8)) → Calls Try.prog 21 #[.slice (some ⟨g, 0, none⟩) 2 c, .int .i64 x0, .int .i64 4] w' fun e w'' => ∃ v, e = .returned (.tuple #[v, .bool true]) ∧ w''.ownsRow w'.heap.size 5 1 v 6 ((headL x0 x1.size).map (Value.int .u8)) ∧ Below w'.heap.size w' w'') := fun w' g c ho =>
    implPut_src (some ⟨g, 0, none⟩) 2 c (pdig x1.size 2 2) x0 4 w' (pdig_len _ _ _) (src_own ho) (by omega) (by omega) (by omega) (by simp [pw]; omega) (by omega)
  obtain ⟨C, hC⟩ : ∃ C, C = crcI (headL x0 x1.size ++ sB x1) := ⟨_, rfl⟩
  have hCb := crcI_bd (headL x0 x1.size ++ sB x1) (byt_append (byt_headL _ _) (byt_sB _))
  rw [← hC] at hCb
  have qC : Hid (∀ w' g c y, w'.ownsRow 0 5 1 (.slice (some ⟨g, 0, none⟩) 6 c) 6 ((headL x0 x1.size).map (Value.int .u8)) → Src w' y x1.size ((sB x1).map (Value.int .u8)) → Calls Try.prog 22 #[.slice (some ⟨g, 0, none⟩) 6 c, y] w' fun e w'' => e = .returned (.int .i64 C) ∧ Below w'.heap.size w' w'') := fun w' g c y ho hs => by
    rw [hC]
    exact frameSum_any _ 6 c (headL x0 x1.size) y x1.size (sB x1) w' (headL_len _ _) (rd_own (headL_len _ _) (byt_headL _ _) ho) hs (sB_len _) (byt_sB _) (by omega) (by omega)
  have q5 : Hid (∀ w' g c, w'.ownsRow 0 5 1 (.slice (some ⟨g, 0, none⟩) 6 c) 6 ((headL x0 x1.size).map (Value.int .u8)) → Calls Try.prog 21 #[.slice (some ⟨g, 0, none⟩) 6 c, .int .i64 C, .int .i64 4] w' fun e w'' => ∃ v, e = .returned (.tuple #[v, .bool true]) ∧ w''.ownsRow w'.heap.size 5 1 v 10 ((headL x0 x1.size ++ pdig C 4 4).map (Value.int .u8)) ∧ Below w'.heap.size w' w'') := fun w' g c ho =>
    implPut_src (some ⟨g, 0, none⟩) 6 c (headL x0 x1.size) C 4 w' (headL_len _ _) (src_own ho) (by omega) (by omega) (by omega) (by simp [pw]; omega) (by omega)
  have hF : Hid ((frameL x0 (sB x1)).map (Value.int .u8) = (headL x0 x1.size ++ pdig C 4 4).map (Value.int .u8) ++ (sB x1).map (Value.int .u8)) := by
    show _ = _
    rw [hC, ← List.map_append]
    unfold frameL
    rw [sB_len]
  obtain ⟨T, hT⟩ : ∃ T, T = (sB x1).map (Value.int .u8) := ⟨_, rfl⟩
  have hT1 : ∀ u ∈ T, u.oneCell' = true := by rw [hT]; exact ints_oneCell _ _
  have hTl : T.length = x1.size := by rw [hT, List.length_map, sB_len]
  have qT : Hid (∀ w' c, Src (Lib.bytesWorld w' 5 x1) (.slice (some ⟨w'.heap.size, 0, none⟩) x1.size c) x1.size T) := fun w' c => by rw [hT]; exact src_text w' x1 c
  have qB : Hid (∀ w', Below w'.heap.size w' (Lib.bytesWorld w' 5 x1)) := fun w' => below_bytes w' x1
  rw [← hT] at hF qC
  obtain ⟨H6, hH6⟩ : ∃ H, H = (headL x0 x1.size).map (Value.int .u8) := ⟨_, rfl⟩
  rw [← hH6] at q3 q5 qC
  clear hB hb hC hH6 hT
  obtain ⟨W0, hW0⟩ : ∃ W0, W0 = w.alloc (.cells #[.int .i64 x0, .string x1] 28) := ⟨_, rfl⟩
  have bW0 : Below w.heap.size w W0 := by rw [hW0]; exact (Below.refl _ _).alloc (Nat.le_refl _) _
  have hbox : W0.heap[w.heap.size]? = some (.cells #[.int .i64 x0, .string x1] 28 (0, 0)) := by rw [hW0]; exact heap_alloc_new w _
  have zlt0 : w.heap.size < W0.heap.size := by rw [hW0]; simp
  have HW0 : Hid (W0 = w.alloc (.cells #[.int .i64 x0, .string x1] 28)) := hW0
  have BX : Hid (∀ w', Below W0.heap.size W0 w' → w'.cell? ⟨w.heap.size, 0, none⟩ = some (.int .i64 x0) ∧ w'.cell? ⟨w.heap.size, 1, none⟩ = some (.string x1)) := fun w' h' => by
    have i := (h'.block _ zlt0).trans hbox
    exact ⟨box_cell i rfl, box_cell i rfl⟩
  obtain ⟨v0, v1⟩ := BX.out W0 (Below.refl _ _)
  clear hW0 hbox
  go_enter Try.func10, Try.ntmps10
  go_wp2_with fail
  rw [← HW0.out]
  refine (qE.out _).mono ?_
  rintro e w1 ⟨rfl, d1⟩
  obtain ⟨y0, y1⟩ := BX.out w1 d1
  clear v0 v1
  have hcv := Lib.run_convert_string_bytes (P := Try.prog) w1 9 22 5 x1 Try.underlying9 Try.underlying22 Try.underlying5
  obtain ⟨cp, hcp⟩ : ∃ cp, cp = grownCap w1 x1.size 0 5 := ⟨_, rfl⟩
  obtain ⟨wb, hwb⟩ : ∃ wb, wb = Lib.bytesWorld w1 5 x1 := ⟨_, rfl⟩
  rw [← hcp, ← hwb] at hcv
  have sb : Src wb (.slice (some ⟨w1.heap.size, 0, none⟩) x1.size cp) x1.size T := by rw [hwb]; exact qT.out w1 cp
  have hbb : Below w1.heap.size w1 wb := by rw [hwb]; exact qB.out w1
  clear hcp hwb
  obtain ⟨tx, htx⟩ : ∃ tx, tx = Value.slice (some ⟨w1.heap.size, 0, none⟩) x1.size cp := ⟨_, rfl⟩
  have db := d1.trans (hbb.mono d1.size)
  have SB : Hid (Src wb (.slice (some ⟨w1.heap.size, 0, none⟩) x1.size cp) x1.size T) := sb
  clear htx sb
  go_wp2_with fail
  clear hcv y0 y1
  refine (q2.out _).mono ?_
  rintro e w2 ⟨v2, rfl, o2, hb2⟩
  have bb2 := hb2
  have d2 := db.trans (hb2.mono db.size)
  obtain ⟨g2, c2, rfl, hg2, hl2⟩ := own_form o2 (by omega)
  have o2' := own_base o2 (Nat.zero_le _)
  clear hb2 o2 hg2 hl2
  obtain ⟨y0, y1⟩ := BX.out w2 d2
  go_wp2_with fail
  refine (q3.out _ _ _ o2').mono ?_
  rintro e w3 ⟨v3, rfl, o3, hb3⟩
  have bb3 := bb2.trans (hb3.mono bb2.size)
  have d3 := d2.trans (hb3.mono d2.size)
  obtain ⟨g3, c3, rfl, hg3, hl3⟩ := own_form o3 (by omega)
  have o3' := own_base o3 (Nat.zero_le _)
  have O3 : Hid (w3.ownsRow 0 5 1 (.slice (some ⟨g3, 0, none⟩) 6 c3) 6 H6) := o3'
  clear y0 y1 hb3 o2' o3 hg3 o3' bb2
  go_wp2_with fail
  refine (qC.out _ _ _ _ O3.out (src_later SB.out bb3)).mono ?_
  rintro e w4 ⟨rfl, hb4⟩
  have d4 := d3.trans (hb4.mono d3.size)
  have bb4 := bb3.trans (hb4.mono bb3.size)
  go_wp2_with fail
  refine (q5.out _ _ _ (own_later O3.out hb4)).mono ?_
  rintro e w5 ⟨v5, rfl, o5, hb5⟩
  have d5 := d4.trans (hb5.mono d4.size)
  have bb5 := bb4.trans (hb5.mono bb4.size)
  have hsz := (bW0.trans (d4.mono bW0.size)).size
  go_wp2_with (at_builtin; refine wpList_append_src rfl _ _ 22 rfl w4.heap.size 5 i0 (.int .u8 0) 1 1 Try.underlying22 hi hz0 hz1 hz2 rfl (by decide) v5 10 _ rfl o5 (.slice (some ⟨w1.heap.size, 0, none⟩) x1.size cp) x1.size T rfl ?c0 ?c1 ?c2 ?c3 ?c4 ?c5 ?_)
  case c0 => omega
  case c1 => exact src_later SB.out bb5
  case c2 => exact hT1
  case c3 => unfold maxLen; omega
  case c4 => omega
  case c5 => exact hb5.size
  intro v6 w6 o6 gr6
  have b5 : Below w.heap.size w w5 := bW0.trans (d5.mono bW0.size)
  have b6 : Below w.heap.size w w6 := b5.grown gr6 b5.size (fun k h => by have := (o5.lt k h).1; omega)
  have o6' : w6.ownsRow w4.heap.size 5 1 v6 (10 + x1.size) ((frameL x0 (sB x1)).map (Value.int .u8)) := by rw [hF.out]; simpa [List.append_assoc] using o6
  have o7 := own_lower o6' hsz
  clear gr6 o5 o6 o6'
  go_wp2
  go_ret2
  exact ⟨_, rfl, o7, b6⟩

end Go.Proofs.Ytelbkamgcnmokaa

/- LogI: LogBytes of the program. By program (loggen.py). -/
namespace Go.Proofs.Ytelbkamgcnmokaa
open Go.RowKit
set_option linter.unusedVariables false

set_option maxRecDepth 100000 in
set_option maxHeartbeats 2000000 in
theorem implLog_bad (a : Option Addr) (n c : Nat) (d : List EntD) (w : World) (hr : Reads (.sl shEntry) w [.slice a n c] d) (hE : entsB d = false) :
    Calls Try.prog 9 #[.slice a n c] w fun e w' => e = .returned (.tuple #[.slice none 0 0, .bool false]) ∧ Below w.heap.size w w' := by
  have qE : Hid (Calls Try.prog 12 #[.slice a n c] w fun e w' => e = .returned (.bool false) ∧ Below w.heap.size w w') := by show Calls _ _ _ _ _; rw [← hE]; exact implEnts_any a n c d w hr
  clear hr hE
  go_enter Try.func9, Try.ntmps9
  go_wp2_with fail
  refine qE.out.mono ?_
  rintro e w1 ⟨rfl, b1⟩
  go_wp2
  go_ret2
  exact ⟨rfl, b1⟩

set_option maxRecDepth 100000 in
set_option maxHeartbeats 4000000 in
theorem implLog_good (a : Option Addr) (n c : Nat) (d : List EntD) (w : World) (hr : Reads (.sl shEntry) w [.slice a n c] d) (hE : entsB d = true) :
    Calls Try.prog 9 #[.slice a n c] w fun e w' => Below w.heap.size w w' ∧ (((logL d).length ≤ 65536 ∧ ∃ v, e = .returned (.tuple #[v, .bool true]) ∧ w'.ownsRow w.heap.size 5 1 v (logL d).length ((logL d).map (Value.int .u8))) ∨
      (65536 < (logL d).length ∧ e = .returned (.tuple #[.slice none 0 0, .bool false]))) := by
  obtain ⟨i0, hi, hz0, hz1, hz2⟩ := info_parts Try.infoB
  have qE : Hid (Calls Try.prog 12 #[.slice a n c] w fun e w' => e = .returned (.bool true) ∧ Below w.heap.size w w') := by show Calls _ _ _ _ _; rw [← hE]; exact implEnts_any a n c d w hr
  obtain ⟨hl, hc1, hc2⟩ := reads_len hr
  unfold maxLen at hc2
  have HR : Hid (Reads (.sl shEntry) w [.slice a n c] d) := hr
  have HL : Hid (List.length (α := EntD) d = n) := hl
  have HEE : Hid (entsB d = true) := hE
  clear hr hl hE
  go_enter Try.func9, Try.ntmps9
  go_wp2_with fail
  refine qE.out.mono ?_
  rintro e w1 ⟨rfl, b1⟩
  have b1s := b1.size
  have hown00 : w1.ownsRow w.heap.size 5 1 (.slice none 0 0) 0 [] := ⟨rfl, .inl ⟨rfl, rfl⟩⟩
  have bA := b1
  have HO : Hid (w1.ownsRow w.heap.size 5 1 (.slice none 0 0) 0 []) := hown00
  clear hown00
  go_wp2
  go_loopw [4, 14] (fun v i wr => ∃ k m : Nat, k ≤ n ∧ i = .int .i64 k ∧ wr.ownsRow w.heap.size 5 1 v m ((logTo d k).map (Value.int .u8)) ∧ m ≤ 65536 ∧ Hid ((logTo d k).length = m) ∧ Below w.heap.size w wr) (fun _ i _ => n - (intOf i).toNat)
  case atStart => exact ⟨0, 0, Nat.zero_le _, rfl, by rw [logTo_zero]; exact HO.out, by omega, by show _ = _; rw [logTo_zero]; rfl, bA⟩
  case round =>
    obtain ⟨k, m, hk, rfl, hown, hm, HM, hbel⟩ := hrel
    obtain ⟨va, vc, rfl⟩ := own_slice hown
    by_cases hlt : k < n
    · obtain ⟨b, off, cc, x, rfl, hb, hx, hrx, hcell⟩ := reads_elem HR.out k hlt
      obtain ⟨rfl, ls⟩ := open_Entry hrx
      obtain ⟨y0, ey0⟩ : ∃ y : Int, y = x.1 := ⟨_, rfl⟩
      obtain ⟨y1, ey1⟩ : ∃ y : ByteArray, y = x.2.1 := ⟨_, rfl⟩
      have hB : entB y0 y1.size = true := by rw [ey0, ey1]; exact ents_at d HEE.out k x hx
      have hbd := (entB_iff _ _).1 hB
      have hy1 : y1.size ≤ 1000 := hbd.2.2.2
      have g0 : wr.cell? ⟨b, off + k * 2, none⟩ = some (.int .i64 y0) := by rw [ey0]; exact (hbel.cell (p := ⟨b, off + (k * 2 + 0), none⟩) hb).trans (hcell 0 (by decide))
      have g1 : wr.cell? ⟨b, off + k * 2 + 1, none⟩ = some (.string y1) := by rw [ey1]; exact (hbel.cell (p := ⟨b, off + (k * 2 + 1), none⟩) hb).trans (hcell 1 (by decide))
      have hsu : logTo d (k + 1) = logTo d k ++ frameL y0 (sB y1) := by rw [ey0, ey1]; exact logTo_succ d k x hx
      have hfl : (frameL y0 (sB y1)).length = 10 + y1.size := by rw [frameL_len, sB_len]
      have HS : Hid (logTo d (k + 1) = logTo d k ++ frameL y0 (sB y1) ∧ (logTo d (k + 1)).length = m + (10 + y1.size)) := ⟨hsu, by rw [hsu, List.length_append, HM.out, hfl]⟩
      have qF : Hid (∀ w', Calls Try.prog 10 #[.agg #[.int .i64 y0, .string y1]] w' fun e w'' => ∃ v, e = .returned (.tuple #[v, .bool true]) ∧ w''.ownsRow w'.heap.size 5 1 v (10 + y1.size) ((frameL y0 (sB y1)).map (Value.int .u8)) ∧ Below w'.heap.size w' w'') := fun w' => implFrame_yes y0 y1 w' hB
      obtain ⟨T, hT⟩ : ∃ T, T = (frameL y0 (sB y1)).map (Value.int .u8) := ⟨_, rfl⟩
      have hT1 : ∀ u ∈ T, u.oneCell' = true := by rw [hT]; exact ints_oneCell _ _
      have hTl : T.length = 10 + y1.size := by rw [hT, List.length_map, hfl]
      rw [← hT] at qF
      have HT : Hid (T = (frameL y0 (sB y1)).map (Value.int .u8)) := hT
      have hbs := hbel.size
      obtain ⟨W0, hW0⟩ : ∃ W0, W0 = wr.alloc (.cells #[.int .i64 y0, .string y1] 28) := ⟨_, rfl⟩
      have bw0 : Below wr.heap.size wr W0 := by rw [hW0]; exact (Below.refl _ _).alloc (Nat.le_refl _) _
      have bW0 : Below w.heap.size w W0 := hbel.trans (bw0.mono hbs)
      have HW0 : Hid (W0 = wr.alloc (.cells #[.int .i64 y0, .string y1] 28)) := hW0
      clear hcell hrx hx ey0 ey1 hW0 hsu hfl hT hB hbd
      go_wp2_with fail
      rw [← HW0.out]
      refine (qF.out _).mono ?_
      rintro e w2 ⟨v2, rfl, o2, hb2⟩
      obtain ⟨g2, c2, rfl, hg2, hl2⟩ := own_form o2 (by omega)
      have b2 := bW0.trans (hb2.mono bW0.size)
      have bR2 : Below wr.heap.size wr w2 := bw0.trans (hb2.mono bw0.size)
      have ho2 := own_later hown bR2
      have so := src_own o2
      clear g0 g1 hown o2 hg2 hl2 hb2
      by_cases hM : m + (10 + y1.size) ≤ 65536
      · have hM1 : ¬ ((65536 : Int) - ((10 : Int) + (y1.size : Int)) < (m : Int)) := by omega
        have hM2 : ¬ ((65536 : Int) < (m : Int) + ((10 : Int) + (y1.size : Int))) := by omega
        have SO : Hid (Src w2 (.slice (some ⟨g2, 0, none⟩) (10 + y1.size) c2) (10 + y1.size) T) := so
        have HO2 : Hid (w2.ownsRow w.heap.size 5 1 (.slice va m vc) m ((logTo d k).map (Value.int .u8))) := ho2
        clear so ho2
        go_wp2_with (at_builtin; refine wpList_append_src rfl _ _ 22 rfl w.heap.size 5 i0 (.int .u8 0) 1 1 Try.underlying22 hi hz0 hz1 hz2 rfl (by decide) (.slice va m vc) m ((logTo d k).map (Value.int .u8)) rfl HO2.out (.slice (some ⟨g2, 0, none⟩) (10 + y1.size) c2) (10 + y1.size) T rfl ?c0 ?c1 ?c2 ?c3 ?c4 ?c5 ?_)
        case c0 => omega
        case c1 => exact SO.out
        case c2 => exact hT1
        case c3 => unfold maxLen; omega
        case c4 => omega
        case c5 => exact b2.size
        intro v3 w3 o3 gr3
        have b3 : Below w.heap.size w w3 := b2.grown gr3 b2.size (fun k h => (HO2.out.lt k h).1)
        have o4 : w3.ownsRow w.heap.size 5 1 v3 (m + (10 + y1.size)) ((logTo d (k + 1)).map (Value.int .u8)) := by
          rw [HS.out.1, List.map_append, ← HT.out]; exact o3
        clear o3 gr3 SO HO2
        go_wp2
        go_roundw
        case rel => exact ⟨k + 1, m + (10 + y1.size), by omega, by go_num, o4, hM, HS.out.2, b3⟩
        case measure => simp [intOf]; omega
      · have hM1 : ((65536 : Int) - ((10 : Int) + (y1.size : Int)) < (m : Int)) := by omega
        have hM2 : ((65536 : Int) < (m : Int) + ((10 : Int) + (y1.size : Int))) := by omega
        have hE2 : 65536 < (logL d).length := by
          have h1 := logTo_le d (k + 1)
          have h2 := HS.out.2
          omega
        have HE2 : Hid (65536 < (logL d).length) := hE2
        clear hE2 so ho2
        go_wp2
        go_ret2
        exact ⟨b2, .inr ⟨HE2.out, rfl⟩⟩
    · have e : k = n := by omega
      subst e
      have ha : logTo d k = logL d := logTo_all d k (Nat.le_of_eq HL.out)
      have HA : Hid ((logL d).length = m ∧ wr.ownsRow w.heap.size 5 1 (.slice va m vc) (logL d).length ((logL d).map (Value.int .u8))) := by
        have h1 : (logL d).length = m := by rw [← ha]; exact HM.out
        refine ⟨h1, ?_⟩
        rw [h1, ← ha]; exact hown
      clear ha hown
      go_wp2
      go_ret2
      exact ⟨hbel, .inl ⟨by rw [HA.out.1]; exact hm, _, rfl, HA.out.2⟩⟩

end Go.Proofs.Ytelbkamgcnmokaa
