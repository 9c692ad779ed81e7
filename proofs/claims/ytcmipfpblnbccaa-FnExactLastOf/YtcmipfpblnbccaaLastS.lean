/-
  LastOf of the model. By program (lastgen.py).
-/
import Derived.Test.YtcmipfpblnbccaaEntC
import Derived.Test.YtcmipfpblnbccaaPlain
namespace Go.Proofs.Ytcmipfpblnbccaa
open Go.RowKit
set_option linter.unusedVariables false

/-- How many LastOf takes of n. -/
def lastN (n : Nat) (N : Int) : Nat := if N < 1 then 0 else if (n : Int) < N then n else N.toNat

def lastL (d : List EntD) (N : Int) : List EntD := d.drop (d.length - lastN d.length N)

theorem lastN_le (n : Nat) (N : Int) : lastN n N ≤ n := by unfold lastN; split <;> (try split) <;> omega

theorem lastL_len (d : List EntD) (N : Int) : (lastL d N).length = lastN d.length N := by
  unfold lastL; rw [List.length_drop]; have := lastN_le d.length N; omega

theorem lastL_mem (d : List EntD) (N : Int) (x : EntD) (h : x ∈ lastL d N) : x ∈ d := List.mem_of_mem_drop h

set_option maxRecDepth 100000 in
set_option maxHeartbeats 2000000 in
theorem specLast_zero (v : Value) (N : Int) (w : World) (h : N < 1) :
    Calls Try.prog 25 #[v, .int .i64 N] w fun e w' => e = .returned (.slice none 0 0) ∧ Below w.heap.size w w' := by
  go_enter Try.func25, Try.ntmps25
  go_wp2
  go_ret
  exact ⟨rfl, Below.refl _ _⟩

set_option maxRecDepth 100000 in
set_option maxHeartbeats 2000000 in
theorem specLast_nil (N : Int) (w : World) (h : ¬ N < 1) :
    Calls Try.prog 25 #[.slice none 0 0, .int .i64 N] w fun e w' => ∃ v, e = .returned v ∧ w'.ownsRow w.heap.size 26 2 v 0 [] ∧ Below w.heap.size w w' := by
  have hown00 := World.ownsRow_lit (base := w.heap.size) (e := 26) (size := 2) w #[] 0 (Nat.le_refl _) (Nat.zero_le _) rfl
  have bA : Below w.heap.size w (w.alloc (.cells #[] 26)) := (Below.refl _ _).alloc (Nat.le_refl _) _
  have HO : Hid ((w.alloc (.cells #[] 26)).ownsRow w.heap.size 26 2 (.slice (some ⟨w.heap.size, 0, none⟩) 0 0) 0 []) := hown00
  have h1 : 0 < N := by omega
  clear hown00
  go_enter Try.func25, Try.ntmps25
  go_wp2
  go_ret
  exact ⟨_, rfl, HO.out, bA⟩

set_option maxRecDepth 100000 in
set_option maxHeartbeats 2000000 in
/-- All of them, or some. -/
theorem specLast_some (b off n c K : Nat) (N : Int) (d : List EntD) (w : World) (hr : Reads (.sl shEntry) w [.slice (some ⟨b, off, none⟩) n c] d) (hn : n ≤ 1048576) (h1 : ¬ N < 1) (hK : ((n : Int) < N ∧ K = 0) ∨ (¬ (n : Int) < N ∧ (n : Int) - N = (K : Int))) :
    Calls Try.prog 25 #[.slice (some ⟨b, off, none⟩) n c, .int .i64 N] w fun e w' => ∃ v, e = .returned v ∧ w'.ownsRow w.heap.size 26 2 v (n - K) (cellsE (d.drop K)) ∧ Below w.heap.size w w' := by
  obtain ⟨i0, hi, hz0, hz1, hz2⟩ := info_parts infoEntry
  obtain ⟨hl, hc1, hc2⟩ := reads_len hr
  unfold maxLen at hc2
  have hKn : K ≤ n := by omega
  have hrd := reads_drop hr K hKn
  have hown00 := World.ownsRow_lit (base := w.heap.size) (e := 26) (size := 2) w #[] 0 (Nat.le_refl _) (Nat.zero_le _) rfl
  have bA : Below w.heap.size w (w.alloc (.cells #[] 26)) := (Below.refl _ _).alloc (Nat.le_refl _) _
  have hlD : List.length (α := EntD) (d.drop K) = n - K := by rw [List.length_drop]; have : List.length (α := EntD) d = n := hl; omega
  have hlc : (cellsE (d.drop K)).length = (n - K) * 2 := by rw [cellsE_len, hlD]
  have SO : Hid (Src (w.alloc (.cells #[] 26)) (.slice (some ⟨b, off + K * 2, none⟩) (n - K) (c - K)) (n - K) (cellsE (d.drop K))) := src_later (.inr ⟨_, _, rfl, ents_src hrd⟩) bA
  have SZ : Hid (c = K → Src (w.alloc (.cells #[] 26)) (.slice (some ⟨b, off, none⟩) (n - K) 0) (n - K) (cellsE (d.drop K))) := fun hcK => by
    have e0 : n - K = 0 := by omega
    have e1 : cellsE (d.drop K) = [] := List.eq_nil_of_length_eq_zero (by rw [hlc, e0])
    rw [e1]
    exact .inr ⟨_, 0, rfl, fun j u hu => by simp at hu⟩
  have HC : Hid ((cellsE (d.drop K)).length = (n - K) * 2) := hlc
  have HO : Hid ((w.alloc (.cells #[] 26)).ownsRow w.heap.size 26 2 (.slice (some ⟨w.heap.size, 0, none⟩) 0 0) 0 []) := hown00
  obtain ⟨D, hD⟩ : ∃ D, D = cellsE (d.drop K) := ⟨_, rfl⟩
  have hD1 : ∀ u ∈ D, u.oneCell' = true := by rw [hD]; exact cellsE_one _
  rw [← hD] at SO SZ HC ⊢
  clear hr hl hrd hown00 hlc hlD hD
  have fin : Hid (∀ (v3 : Value) (w3 : World), w3.ownsRow w.heap.size 26 2 v3 (n - K) D → (w.alloc (.cells #[] 26)).grownBy w3 (Value.ownBlock (.slice (some ⟨w.heap.size, 0, none⟩) 0 0)) → w3.ownsRow w.heap.size 26 2 v3 (n - K) D ∧ Below w.heap.size w w3) := fun v3 w3 o3 gr3 =>
    ⟨o3, bA.grown gr3 (by simp) (fun y h => by simp [Value.ownBlock] at h; omega)⟩
  by_cases hn0 : n = 0
  · subst hn0
    obtain rfl : K = 0 := by omega
    have hD0 : D = [] := List.eq_nil_of_length_eq_zero (by rw [HC.out])
    have hK' : (((0 : Nat) : Int) < N) := by omega
    subst hD0
    clear SZ SO fin hK HC
    go_enter Try.func25, Try.ntmps25
    go_wp2
    all_goals (go_ret; exact ⟨_, rfl, HO.out, bA⟩)
  · have hcK : ¬ c = K := by omega
    have hcN : ¬ ((c : Int) = (K : Int)) := by omega
    have hnK : ¬ n - K = 0 := by omega
    clear SZ
    rcases hK with ⟨k1, k2⟩ | ⟨k1, k2⟩
    · have e0 : off + K * 2 = off := by omega
      have e1 : c - K = c := by omega
      have e2 : n - K = n := by omega
      rw [e0, e1] at SO
      clear e0 e1 hcK hcN hnK
      go_enter Try.func25, Try.ntmps25
      go_wp2_with (at_builtin; refine wpList_append_src rfl _ _ 32 rfl w.heap.size 26 i0 (.agg #[.int .i64 0, .string ByteArray.empty]) 2 24 Try.underlying32 hi hz0 hz1 hz2 rfl (by decide) (.slice (some ⟨w.heap.size, 0, none⟩) 0 0) 0 [] rfl HO.out (.slice (some ⟨b, off, none⟩) n c) n D rfl ?c0 ?c1 ?c2 ?c3 ?c4 (by simp) ?_)
      case c0 => rw [HC.out, e2]
      case c1 => rw [← e2]; rw [e2]; exact (e2 ▸ SO.out)
      case c2 => exact hD1
      case c3 => unfold maxLen; omega
      case c4 => omega
      intro v3 w3 o3 gr3
      have f := fin.out v3 w3 (by rw [e2]; exact o3) gr3
      clear o3 gr3
      go_wp2
      go_ret
      exact ⟨_, rfl, f.1, f.2⟩
    · go_enter Try.func25, Try.ntmps25
      go_wp2_with (at_builtin; refine wpList_append_src rfl _ _ 32 rfl w.heap.size 26 i0 (.agg #[.int .i64 0, .string ByteArray.empty]) 2 24 Try.underlying32 hi hz0 hz1 hz2 rfl (by decide) (.slice (some ⟨w.heap.size, 0, none⟩) 0 0) 0 [] rfl HO.out (.slice (some ⟨b, off + K * 2, none⟩) (n - K) (c - K)) (n - K) D rfl ?c0 ?c1 ?c2 ?c3 ?c4 (by simp) ?_)
      case c0 => exact HC.out
      case c1 => exact SO.out
      case c2 => exact hD1
      case c3 => unfold maxLen; omega
      case c4 => omega
      intro v3 w3 o3 gr3
      have f := fin.out v3 w3 o3 gr3
      clear o3 gr3
      go_wp2
      go_ret
      exact ⟨_, rfl, f.1, f.2⟩

end Go.Proofs.Ytcmipfpblnbccaa
