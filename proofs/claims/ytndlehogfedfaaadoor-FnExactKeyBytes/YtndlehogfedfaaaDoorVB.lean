/-
  Slices as one value: what a value is that holds a slice; the helpers of the exact laws for slices of bytes in these words.
-/
import Derived.Test.YtndlehogfedfaaaDoorMkB
namespace Go.Proofs.YtndlehogfedfaaaDoor
open Go.RowKit
set_option linter.unusedVariables false

theorem own_val {e : Sh} {w : World} {B : Nat} {v : Value} {d : List e.D} {F : List Nat} (h : Own (.sl e) w B [v] d F) : ∃ a c, v = .slice a d.length c ∧ d.length ≤ c ∧ c ≤ maxLen ∧ (a = none → c = 0) := by
  rcases h with ⟨h1, h2, _⟩ | ⟨g, cp, t, cur, Cs, Fs, h1, _, _, h2, h3, _⟩
  · simp only [List.cons.injEq, and_true] at h1
    have h2' : d.length = 0 := h2
    exact ⟨none, 0, by rw [h2', h1], by omega, Nat.zero_le _, fun _ => rfl⟩
  · simp only [List.cons.injEq, and_true] at h1
    exact ⟨_, cp, h1, h2, h3, fun h => by cases h⟩

theorem reads_val {e : Sh} {w : World} {v : Value} {d : List e.D} (h : Reads (.sl e) w [v] d) : ∃ a c, v = .slice a d.length c ∧ d.length ≤ c ∧ c ≤ maxLen := by
  obtain ⟨ad, cp, h1, h2, h3, _⟩ := h
  simp only [List.cons.injEq, and_true] at h1
  exact ⟨ad, cp, h1, h2, h3⟩

theorem reads_mk {w : World} {a : Option Addr} {n cap : Nat} {zs : List Int} (h : Rd w a zs) (hl : zs.length = n) (hc : n ≤ cap) (hm : cap ≤ maxLen) : Reads (.sl .u8) w [.slice a n cap] zs := by
  refine ⟨a, cap, by subst hl; rfl, ?_, hm, ?_⟩
  · show zs.length ≤ cap; omega
  · rcases h.2 with h0 | ⟨b, off, h1, h2, h3⟩
    · left; show zs.length = 0; rw [h0]; rfl
    · right
      refine ⟨b, off, h1, h2, fun i x hx => ?_⟩
      have hx' : zs[i]? = some x := hx
      have hi : i < zs.length := (List.getElem?_eq_some_iff.1 hx').1
      refine ⟨[.int .u8 x], rfl, fun j hj => ?_, rfl, ?_⟩
      · have hj0 : j = 0 := by have : j < 1 := hj; omega
        subst hj0
        have h5 : w.cell? ⟨b, off + i, none⟩ = some (.int .u8 x) := by rw [h3 i hi, hx']; rfl
        simpa [Sh.size_u8] using h5
      · have := h.1 i
        rw [hx'] at this
        exact this

/-- A slice of bytes that came in. -/
theorem reads_row {w : World} {a : Option Addr} {len cap : Nat} {zs : List Int}
    (h : (a = none ∧ len = 0 ∧ cap = 0 ∧ zs = []) ∨
      ∃ x, a = some x ∧ len ≤ cap ∧ cap ≤ maxLen ∧ zs.length = cap ∧ (∀ i, i < zs.length → w.cell? (x.add i) = some (.int .u8 (zs.getD i 0))) ∧ ∀ n ∈ zs, (Lit.int .u8 n).wf = true) : Reads (.sl .u8) w [.slice a len cap] (zs.take len) := by
  have h1 := rd_of h
  rcases h with ⟨_, rfl, rfl, _⟩ | ⟨x, _, h2, h3, _⟩
  · exact reads_mk h1.1 h1.2.1 (Nat.le_refl _) (Nat.zero_le _)
  · exact reads_mk h1.1 h1.2.1 h2 h3

/-- A row of bytes that the call owns, in the words of shapes. -/
theorem own_row {w : World} {B n : Nat} {v : Value} {d : List Int} (hl : d.length = n) (hb : ∀ i : Nat, 0 ≤ d[i]?.getD 0 ∧ d[i]?.getD 0 ≤ 255) (h : w.ownsRow B 5 1 v n (d.map (Value.int .u8))) : ∃ F, Own (.sl .u8) w B [v] d F ∧ F.Nodup := by
  rcases h.2 with ⟨h1, h2⟩ | ⟨g, cap, cur, hv, _⟩
  · refine ⟨[], .inl ⟨by rw [h1], ?_, rfl⟩, by simp⟩
    show d.length = 0; omega
  · subst hv
    exact ⟨[g], own_bytes hl hb h, by simp⟩

theorem eqByteS_v (v1 v2 : Value) (d : List Int) (w : World) (h1 : Reads (.sl .u8) w [v1] d) (h2 : Reads (.sl .u8) w [v2] d) (hs : d.length ≤ 16777216) :
    Calls Tryd.prog 14 #[v1, v2] w fun e w' => e = .returned (.bool true) ∧ Below w.heap.size w w' := by
  obtain ⟨a, c, rfl, _, _⟩ := reads_val h1
  obtain ⟨b, c2, rfl, _, _⟩ := reads_val h2
  obtain ⟨hl, hrd1, hc1, hc2⟩ := reads_bytes h1
  obtain ⟨_, hrd2, _, _⟩ := reads_bytes h2
  exact eqByteS_true a b _ c c2 d w rfl hrd1 hrd2 hs

theorem markByteS_v (v : Value) (B : Nat) (k : Int) (kn : Nat) (d : List Int) (F : List Nat) (w : World) (hkn : k = kn) (ho : Own (.sl .u8) w B [v] d F) (hnd : F.Nodup) (hk0 : 1 ≤ kn) (hk : kn + Sh.cnt (.sl .u8) d ≤ 1000000000000) :
    Calls Tryd.prog 15 #[v, .int .i64 k] w fun e w' => e = .returned (.int .i64 ((kn + Sh.cnt (.sl .u8) d : Nat) : Int)) ∧ Own (.sl .u8) w' B [v] (Sh.mk (.sl .u8) d kn) F ∧ Touch w w' F := by
  obtain ⟨a, c, rfl, _, _⟩ := own_val ho
  subst hkn
  exact markByteS_own a _ c B kn d F w ho hnd hk

theorem heldByteS_v (v : Value) (B : Nat) (k : Int) (kn : Nat) (d : List Int) (F : List Nat) (w : World) (hkn : k = kn) (ho : Own (.sl .u8) w B [v] (Sh.mk (.sl .u8) d kn) F) (hnd : F.Nodup) (hk0 : 1 ≤ kn) (hk : kn + Sh.cnt (.sl .u8) d ≤ 1000000000000) :
    Calls Tryd.prog 16 #[v, .int .i64 k] w fun e w' => e = .returned (.int .i64 ((kn + Sh.cnt (.sl .u8) d : Nat) : Int)) ∧ Below w.heap.size w w' := by
  obtain ⟨a, c, rfl, _, _⟩ := own_val ho
  subst hkn
  exact heldByteS_own a _ c B kn d F w ho hk

theorem cnt_byteS (d : List Int) : Sh.cnt (.sl .u8) d = d.length := cnt_bytes d

end Go.Proofs.YtndlehogfedfaaaDoor
