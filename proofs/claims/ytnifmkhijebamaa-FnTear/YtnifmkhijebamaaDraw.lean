/-
  The cursor over the bytes of a draw: l01Byte gives a byte and leaves a cursor; l01Below a number below n; l01New makes a cursor.
-/
import Derived.Test.YtnifmkhijebamaaOpen
import Derived.Test.YtnifmkhijebamaaKeep
import Derived.Test.YtnifmkhijebamaaPlain
import Derived.Deep.AppendLies
namespace Go.Proofs.Ytnifmkhijebamaa
open Go.RowKit
set_option linter.unusedVariables false

theorem i64_and255 (n : Int) : bits .and .i64 n 255 = n % 256 := by
  show IntKind.i64.wrap ((BitVec.ofInt 64 n &&& BitVec.ofInt 64 255).toNat : Int) = n % 256
  have h2 : (BitVec.ofInt 64 (255 : Int)).toNat = 255 := by decide
  rw [BitVec.toNat_and, h2, Nat.and_two_pow_sub_one_eq_mod _ 8, BitVec.toNat_ofInt]
  simp [IntKind.wrap, IntKind.bits, IntKind.signed]
  omega

/-- Block B is a cursor over the n bytes zs that lie at a, below block 'base'. -/
structure Cur (w : World) (base B : Nat) (a : Option Addr) (n cap : Nat) (zs : List Int) : Prop where
  c0 : w.cell? ⟨B, 0, none⟩ = some (.slice a n cap)
  c1 : ∃ i : Nat, i ≤ n ∧ w.cell? ⟨B, 1, none⟩ = some (.int .i64 i)
  c2 : ∃ h : Int, w.cell? ⟨B, 2, none⟩ = some (.int .i64 h)
  f1 : w.frozen? ⟨B, 1, none⟩ = false
  f2 : w.frozen? ⟨B, 2, none⟩ = false
  rd : Rd w a zs
  far : ∀ x : Addr, a = some x → zs ≠ [] → x.block < base
  bB : base ≤ B

theorem Cur.lt {w : World} {base B : Nat} {a : Option Addr} {n cap : Nat} {zs : List Int} (c : Cur w base B a n cap zs) : B < w.heap.size := World.block_lt_of_cell? w ⟨B, 0, none⟩ c.c0

theorem cur_drewN {w : World} {base B : Nat} {a : Option Addr} {n cap : Nat} {zs : List Int} (c : Cur w base B a n cap zs) (q : Nat) : Cur (w.drewN q) base B a n cap zs :=
  ⟨c.c0, c.c1, c.c2, c.f1, c.f2, c.rd, c.far, c.bB⟩

theorem grown_drewN {w w' : World} {row : Option Nat} (h : w.grownBy w' row) (q : Nat) : w.grownBy (w'.drewN q) row := ⟨h.os, h.tape, h.output, h.size, h.block⟩

theorem cur_rd {w w' : World} {base B : Nat} {a : Option Addr} {n cap : Nat} {zs : List Int} {row : Option Nat} (c : Cur w base B a n cap zs) (hg : w.grownBy w' row) (hr : ∀ k, row = some k → base ≤ k) : Rd w' a zs := by
  by_cases hz : zs = []
  · exact ⟨c.rd.1, .inl hz⟩
  · exact rd_kept c.rd hg (fun y hy e => by have h1 := c.far y hy hz; have h2 := hr y.block e.symm; omega)

theorem cur_kept {w w' : World} {base B : Nat} {a : Option Addr} {n cap : Nat} {zs : List Int} {row : Option Nat} (c : Cur w base B a n cap zs) (hg : w.grownBy w' row) (hne : row ≠ some B) (hr : ∀ k, row = some k → base ≤ k) : Cur w' base B a n cap zs := by
  obtain ⟨i, hi, c1⟩ := c.c1
  obtain ⟨h, c2⟩ := c.c2
  have hb := hg.block B c.lt (fun e => hne e.symm)
  exact ⟨hg.cell c.c0 (fun e => hne e.symm), ⟨i, hi, hg.cell c1 (fun e => hne e.symm)⟩, ⟨h, hg.cell c2 (fun e => hne e.symm)⟩,
    by rw [World.frozen?_of_block (w := w) (a := ⟨B, 1, none⟩) hb]; exact c.f1, by rw [World.frozen?_of_block (w := w) (a := ⟨B, 2, none⟩) hb]; exact c.f2, cur_rd c hg hr, c.far, c.bB⟩

theorem cur_set {w : World} {base B : Nat} {a : Option Addr} {n cap : Nat} {zs : List Int} (c : Cur w base B a n cap zs) (x : Int) (j : Nat)
    (hj : (j = 2) ∨ (j = 1 ∧ ∃ i : Nat, i ≤ n ∧ x = i)) :
    Cur (w.setCell ⟨B, j, none⟩ (.int .i64 x)) base B a n cap zs ∧ w.grownBy (w.setCell ⟨B, j, none⟩ (.int .i64 x)) (some B) := by
  have hg : w.grownBy (w.setCell ⟨B, j, none⟩ (.int .i64 x)) (some B) := ⟨rfl, rfl, rfl, by simp, fun k _ hk => heap_setCell_other w ⟨B, j, none⟩ k _ (fun e => hk (by simp [e]))⟩
  refine ⟨?_, hg⟩
  obtain ⟨i, hi, c1⟩ := c.c1
  obtain ⟨h, c2⟩ := c.c2
  have hrd : Rd (w.setCell ⟨B, j, none⟩ (.int .i64 x)) a zs := cur_rd c hg (fun k e => by cases e; exact c.bB)
  rcases hj with rfl | ⟨rfl, i', hi', rfl⟩
  · exact ⟨by rw [World.cell?_setCell_other _ _ _ _ (by simp)]; exact c.c0, ⟨i, hi, by rw [World.cell?_setCell_other _ _ _ _ (by simp)]; exact c1⟩, ⟨x, World.cell?_setCell_same w _ _ c2⟩, by simpa using c.f1, by simpa using c.f2, hrd, c.far, c.bB⟩
  · exact ⟨by rw [World.cell?_setCell_other _ _ _ _ (by simp)]; exact c.c0, ⟨i', hi', World.cell?_setCell_same w _ _ c1⟩, ⟨h, by rw [World.cell?_setCell_other _ _ _ _ (by simp)]; exact c2⟩, by simpa using c.f1, by simpa using c.f2, hrd, c.far, c.bB⟩

set_option maxRecDepth 100000 in
set_option maxHeartbeats 1000000 in
theorem byte_any (base B : Nat) (a : Option Addr) (n cap : Nat) (zs : List Int) (w : World) (hl : Hid (zs.length = n)) (hn : n ≤ 1048576) (hc : Cur w base B a n cap zs) :
    Calls Try.prog 14 #[.pointer (some ⟨B, 0, none⟩)] w fun e w' => ∃ x : Int, e = .returned (.int .i64 x) ∧ 0 ≤ x ∧ x ≤ 255 ∧ Cur w' base B a n cap zs ∧ w.grownBy w' (some B) := by
  obtain ⟨h, c2⟩ := hc.c2
  have f2 := hc.f2
  obtain ⟨cs, hg⟩ := cur_set hc (wrap64 (wrap64 (h * 6364136223846793005) + 1442695040888963407)) 2 (.inl rfl)
  have HC : Hid (Cur (w.setCell ⟨B, 2, none⟩ (.int .i64 (wrap64 (wrap64 (h * 6364136223846793005) + 1442695040888963407)))) base B a n cap zs) := cs
  have HG : Hid (w.grownBy (w.setCell ⟨B, 2, none⟩ (.int .i64 (wrap64 (wrap64 (h * 6364136223846793005) + 1442695040888963407)))) (some B)) := hg
  clear cs hg hc
  go_enter Try.func14, Try.ntmps14
  go_wp2
  obtain ⟨w2, hw2⟩ : ∃ w2, w2 = w.setCell ⟨B, 2, none⟩ (.int .i64 (wrap64 (wrap64 (h * 6364136223846793005) + 1442695040888963407))) := ⟨_, rfl⟩
  rw [← hw2] at HC HG ⊢
  clear hw2 c2 f2
  obtain ⟨h2, c2⟩ := HC.out.c2
  obtain ⟨i, hi, c1⟩ := HC.out.c1
  have c0 := HC.out.c0
  have h255 := i64_and255
  go_quiet (fail)
  go_wp2
  by_cases hlt : i < n
  · have hlt' : (i : Int) < (n : Int) := by omega
    have hne : zs ≠ [] := by intro e; have := hl.out; subst e; simp at this; omega
    obtain ⟨b, off, rfl, hb, hcl⟩ := HC.out.rd.2.resolve_left hne
    have cz : w2.cell? ⟨b, off + i, none⟩ = some (.int .u8 (zs[i]?.getD 0)) := hcl i (by have := hl.out; omega)
    have hz := HC.out.rd.1 i
    have f1 := HC.out.f1
    clear hcl hne
    go_quiet (fail)
    go_wp2
    go_quiet (fail)
    go_wp2
    go_ret
    exact ⟨_, rfl, by omega, by omega, (cur_set (cur_drewN HC.out _) ((i : Int) + 1) 1 (.inr ⟨rfl, i + 1, by omega, by omega⟩)).1,
      grownBy_trans (grown_drewN HG.out _) (cur_set (cur_drewN HC.out _) ((i : Int) + 1) 1 (.inr ⟨rfl, i + 1, by omega, by omega⟩)).2⟩
  · have hlt' : ¬ (i : Int) < (n : Int) := by omega
    go_quiet (fail)
    go_wp2
    go_ret
    exact ⟨_, rfl, by omega, by omega, cur_drewN HC.out _, grown_drewN HG.out _⟩

set_option maxHeartbeats 400000 in
theorem below_any (base B : Nat) (a : Option Addr) (n cap : Nat) (zs : List Int) (m : Int) (w : World) (hl : Hid (zs.length = n)) (hn : n ≤ 1048576) (hc : Cur w base B a n cap zs) (hm1 : 1 ≤ m) (hm2 : m ≤ 256) :
    Calls Try.prog 11 #[.pointer (some ⟨B, 0, none⟩), .int .i64 m] w fun e w' => ∃ x : Int, e = .returned (.int .i64 x) ∧ 0 ≤ x ∧ x < m ∧ Cur w' base B a n cap zs ∧ w.grownBy w' (some B) := by
  have h0 : ¬ (m ≤ 0) := by omega
  have HC : Hid (Cur w base B a n cap zs) := hc
  clear hc
  go_enter Try.func11, Try.ntmps11
  go_wp2_with fail
  refine (byte_any base B a n cap zs _ hl hn HC.out).mono ?_
  rintro e w1 ⟨x, rfl, hx0, hx1, hc1, hg1⟩
  have hm0 : m ≠ 0 := by omega
  have hr0 : 0 ≤ x % m := Int.emod_nonneg x hm0
  have hr1 : x % m < m := Int.emod_lt_of_pos x (by omega)
  go_wp2
  go_ret
  exact ⟨_, rfl, hr0, hr1, hc1, hg1⟩

set_option maxHeartbeats 1000000 in
theorem new_any (a : Option Addr) (n cap : Nat) (zs : List Int) (w : World) (hl : Hid (zs.length = n)) (hn : n ≤ 1048576) (hr : Rd w a zs) :
    Calls Try.prog 9 #[.slice a n cap] w fun e w' => e = .returned (.pointer (some ⟨w.heap.size, 0, none⟩)) ∧ Cur w' w.heap.size w.heap.size a n cap zs ∧ Below w.heap.size w w' := by
  go_enter Try.func9, Try.ntmps9
  go_wp2
  go_loop [3, 4] (fun h i => ∃ (H : Int) (k : Nat), k ≤ n ∧ k ≤ 4000 ∧ h = .int .i64 H ∧ i = .int .i64 k) (fun _ i => 4000 - (intOf i).toNat)
  case atStart => exact ⟨_, 0, Nat.zero_le _, Nat.zero_le _, rfl, rfl⟩
  case round =>
    obtain ⟨H, k, hk, hk4, rfl, rfl⟩ := hrel
    by_cases hlt : k < n
    · have hlt' : (k : Int) < (n : Int) := by omega
      by_cases h4 : k < 4000
      · have h4' : (k : Int) < 4000 := by omega
        have hne : zs ≠ [] := by intro e; have := hl.out; subst e; simp at this; omega
        obtain ⟨b, off, rfl, hb, hcl⟩ := hr.2.resolve_left hne
        have cz : w.cell? ⟨b, off + k, none⟩ = some (.int .u8 (zs[k]?.getD 0)) := hcl k (by have := hl.out; omega)
        have hz := hr.1 k
        clear hcl hne hr
        go_wp2
        go_round
        case rel => exact ⟨_, k + 1, by omega, by omega, rfl, by go_num⟩
        case measure => simp [intOf]; omega
      · have h4' : ¬ (k : Int) < 4000 := by omega
        go_wp2
        go_ret
        refine ⟨rfl, ⟨by simp, ⟨0, Nat.zero_le _, by simp⟩, ⟨H, by simp⟩, by simp, by simp, hr.later ((Below.refl _ _).alloc (Nat.le_refl _) _), ?_, Nat.le_refl _⟩, (Below.refl _ _).alloc (Nat.le_refl _) _⟩
        intro x hx hz
        obtain ⟨b, off, e, hb, _⟩ := hr.2.resolve_left hz
        rw [e] at hx; cases hx; exact hb
    · have hlt' : ¬ (k : Int) < (n : Int) := by omega
      go_wp2
      go_ret
      refine ⟨rfl, ⟨by simp, ⟨0, Nat.zero_le _, by simp⟩, ⟨H, by simp⟩, by simp, by simp, hr.later ((Below.refl _ _).alloc (Nat.le_refl _) _), ?_, Nat.le_refl _⟩, (Below.refl _ _).alloc (Nat.le_refl _) _⟩
      intro x hx hz
      obtain ⟨b, off, e, hb, _⟩ := hr.2.resolve_left hz
      rw [e] at hx; cases hx; exact hb

end Go.Proofs.Ytnifmkhijebamaa
