/-
  Shapes of data (ints, bytes, bools, strings, fields one behind the other, slices) and what it is that cells hold such data: 'Reads'. One lemma for all shapes: what is read stays readable in later worlds; how much it holds ('sz').
-/
import Derived.Test.YtpdgjejgjbjamaaKeep
import Derived.ChangeArms
import Derived.Deep.Slices
namespace Go.Proofs.Ytpdgjejgjbjamaa
open Go.RowKit
open Go.ChangeShapes Go.WideShapes
set_option linter.unusedVariables false

inductive Sh where
  | int | bool | str | u8 | none
  | pair (a b : Sh)
  | sl (e : Sh)

/-- The data of a shape. -/
def Sh.D : Sh → Type
  | .int => Int
  | .bool => Bool
  | .str => ByteArray
  | .u8 => Int
  | .none => Unit
  | .pair a b => a.D × b.D
  | .sl e => List e.D

/-- How many cells a value of the shape has. -/
def Sh.size : Sh → Nat
  | .none => 0
  | .pair a b => a.size + b.size
  | _ => 1

/-- How many elements and letters the data hold. -/
def Sh.sz : (s : Sh) → s.D → Nat
  | .int, _ => 0
  | .bool, _ => 0
  | .str, d => ByteArray.size d
  | .u8, _ => 0
  | .none, _ => 0
  | .pair a b, d => a.sz d.1 + b.sz d.2
  | .sl e, d => List.length d + (List.map e.sz d).sum

/-- The element at i. -/
def Sh.at (e : Sh) (d : List e.D) (i : Nat) : Option e.D := d[i]?

/-- A byte's number. -/
def isByte (z : Int) : Prop := 0 ≤ z ∧ z ≤ 255

/-- In w the cells cs hold the data. -/
def Reads : (s : Sh) → World → List Value → s.D → Prop
  | .int, _, cs, d => cs = [Value.int .i64 d]
  | .bool, _, cs, d => cs = [Value.bool d]
  | .str, _, cs, d => cs = [Value.string d] ∧ ByteArray.size d ≤ maxLen
  | .u8, _, cs, d => cs = [Value.int .u8 d] ∧ isByte d
  | .none, _, cs, _ => cs = []
  | .pair a b, w, cs, d => ∃ c1 c2, cs = c1 ++ c2 ∧ Reads a w c1 d.1 ∧ Reads b w c2 d.2
  | .sl e, w, cs, d => ∃ ad cap, cs = [Value.slice ad (List.length d) cap] ∧ List.length d ≤ cap ∧ cap ≤ maxLen ∧
      (List.length d = 0 ∨ ∃ b off, ad = some ⟨b, off, Option.none⟩ ∧ b < w.heap.size ∧
        ∀ (i : Nat) (x : e.D), e.at d i = some x → ∃ c : List Value, c.length = e.size ∧ (∀ j, j < e.size → w.cell? ⟨b, off + (i * e.size + j), Option.none⟩ = c[j]?) ∧ Reads e w c x)

theorem Reads.length : ∀ {s : Sh} {w : World} {cs : List Value} {d : s.D}, Reads s w cs d → cs.length = s.size
  | .int, _, _, _, h => by rw [show _ = _ from h]; rfl
  | .bool, _, _, _, h => by rw [show _ = _ from h]; rfl
  | .str, _, _, _, h => by rw [h.1]; rfl
  | .u8, _, _, _, h => by rw [h.1]; rfl
  | .none, _, _, _, h => by rw [show _ = _ from h]; rfl
  | .pair a b, w, cs, d, ⟨c1, c2, e, h1, h2⟩ => by rw [e, List.length_append, Reads.length h1, Reads.length h2]; rfl
  | .sl e, w, cs, d, ⟨ad, cap, h, _⟩ => by rw [h]; rfl

theorem Reads.later : ∀ {s : Sh} {w w' : World} {cs : List Value} {d : s.D}, Reads s w cs d → Below w.heap.size w w' → Reads s w' cs d
  | .int, _, _, _, _, h, _ => h
  | .bool, _, _, _, _, h, _ => h
  | .str, _, _, _, _, h, _ => h
  | .u8, _, _, _, _, h, _ => h
  | .none, _, _, _, _, h, _ => h
  | .pair a b, _, _, _, _, ⟨c1, c2, e, h1, h2⟩, hb => ⟨c1, c2, e, h1.later hb, h2.later hb⟩
  | .sl e, _, _, _, _, ⟨ad, cap, h, hl, hm, h0⟩, hb => ⟨ad, cap, h, hl, hm, h0.imp id fun ⟨b, off, ha, hlt, hx⟩ =>
      ⟨b, off, ha, Nat.lt_of_lt_of_le hlt hb.size, fun i x hi => by
        obtain ⟨c, hc, hcell, hr⟩ := hx i x hi
        exact ⟨c, hc, fun j hj => (hb.cell (p := ⟨b, off + (i * e.size + j), Option.none⟩) hlt).trans (hcell j hj), hr.later hb⟩⟩⟩

/-- A slice of bytes, in the elder words. -/
theorem reads_bytes {w : World} {a : Option Addr} {n cap : Nat} {d : List Int} (h : Reads (.sl .u8) w [Value.slice a n cap] d) : List.length d = n ∧ Rd w a d ∧ n ≤ cap ∧ cap ≤ maxLen := by
  obtain ⟨ad, cp, e, hl, hm, h0⟩ := h
  simp only [List.cons.injEq, Value.slice.injEq, and_true] at e
  obtain ⟨rfl, hn, rfl⟩ := e
  have hbd : List.length d = 0 ∨ ∃ b off, a = some ⟨b, off, Option.none⟩ ∧ b < w.heap.size ∧ ∀ (i : Nat) (x : Int), d[i]? = some x → w.cell? ⟨b, off + i, Option.none⟩ = some (.int .u8 x) ∧ 0 ≤ x ∧ x ≤ 255 := by
    refine h0.imp id fun ⟨b, off, ha, hlt, hx⟩ => ⟨b, off, ha, hlt, fun i x hi => ?_⟩
    obtain ⟨c, hc, hcell, hr⟩ := hx i x hi
    have h1 := hcell 0 (by decide)
    obtain ⟨rfl, hx0, hx1⟩ := hr
    simp only [Sh.size, Nat.mul_one, Nat.add_zero] at h1
    exact ⟨by simpa using h1, hx0, hx1⟩
  refine ⟨hn.symm, ⟨fun i => ?_, ?_⟩, by omega, hm⟩
  · rcases hbd with h | ⟨b, off, ha, hlt, hx⟩
    · have : d = [] := List.eq_nil_of_length_eq_zero h
      subst this; simp
    · by_cases hi : i < List.length d
      · have h1 := (hx i d[i] (List.getElem?_eq_getElem hi)).2
        simpa [hi] using h1
      · simp [hi]
  · rcases hbd with h | ⟨b, off, ha, hlt, hx⟩
    · exact .inl (List.eq_nil_of_length_eq_zero h)
    · exact .inr ⟨b, off, ha, hlt, fun i hi => by rw [(hx i d[i] (List.getElem?_eq_getElem hi)).1]; simp [hi]⟩

section
variable {H : Type} {enc : TypeId × Value → H} {P : Program} {w : World} {spare : Nat → Bool} {held : Bool}

/-- What a type's values are read as, in w. -/
def Opens (enc : TypeId × Value → H) (P : Program) (w : World) (spare : Nat → Bool) (held : Bool) (t : TypeId) (s : Sh) : Prop :=
  P.cellsOf t = s.size ∧ ∀ (fuel : Nat) (cs : List Value) (x : DataW H × List MemPlace), DataW.trod enc P w 0 spare held fuel t cs = some x → ∃ d : s.D, Reads s w cs d

theorem opens_int {t : TypeId} (ht : P.underlying t = some (.int .i64)) (hc : P.cellsOf t = 1) : Opens enc P w spare held t .int :=
  ⟨hc, fun fuel cs x h => by obtain ⟨n, e, _⟩ := DataW.trod_int ht h; exact ⟨n, e⟩⟩
theorem opens_u8 {t : TypeId} (ht : P.underlying t = some (.int .u8)) (hc : P.cellsOf t = 1) : Opens enc P w spare held t .u8 :=
  ⟨hc, fun fuel cs x h => by
    obtain ⟨n, e, _, hw⟩ := DataW.trod_int ht h
    simp [Lit.wf, IntKind.min, IntKind.max, IntKind.signed, IntKind.bits] at hw
    exact ⟨n, e, hw.1, hw.2⟩⟩
theorem opens_bool {t : TypeId} (ht : P.underlying t = some .bool) (hc : P.cellsOf t = 1) : Opens enc P w spare held t .bool :=
  ⟨hc, fun fuel cs x h => by obtain ⟨n, e, _⟩ := DataW.trod_bool ht h; exact ⟨n, e⟩⟩
theorem opens_str {t : TypeId} (ht : P.underlying t = some .string) (hc : P.cellsOf t = 1) : Opens enc P w spare held t .str :=
  ⟨hc, fun fuel cs x h => by obtain ⟨n, e, _, hs⟩ := DataW.trod_string ht h; exact ⟨n, e, hs⟩⟩

theorem opens_sl {t e : TypeId} {s : Sh} (ht : P.underlying t = some (.slice e)) (hc : P.cellsOf t = 1) (h0 : 0 < s.size) (he : Opens enc P w spare held e s) : Opens enc P w spare held t (.sl s) := by
  refine ⟨hc, fun fuel cs x h => ?_⟩
  rcases Go.Deep.open_slice ht h with ⟨rfl, _⟩ | ⟨a, len, cap, m, n, D, Pl, rfl, _, hl, hm, hme, _, hx⟩
  · exact ⟨([] : List s.D), Option.none, 0, rfl, Nat.le_refl _, Nat.zero_le _, .inl rfl⟩
  · have hlm : len ≤ m := by rw [hme]; split <;> omega
    have each : ∀ i, i < len → ∃ (c : List Value) (d : s.D), w.cells? 0 (a.add (i * P.cellsOf e)) (P.cellsOf e) = some c ∧ Reads s w c d := by
      intro i hi
      obtain ⟨c, h1, h2⟩ := hx i (by omega)
      obtain ⟨d, hd⟩ := he.2 _ _ _ h2
      exact ⟨c, d, h1, hd⟩
    -- a choice, place by place
    have pick : ∀ k, k ≤ len → ∃ d : List s.D, List.length d = k ∧ ∀ (i : Nat) (x : s.D), d[i]? = some x → ∃ c : List Value, w.cells? 0 (a.add (i * P.cellsOf e)) (P.cellsOf e) = some c ∧ Reads s w c x := by
      intro k
      induction k with
      | zero => exact fun _ => ⟨[], rfl, fun i x h => by simp at h⟩
      | succ k ih =>
        intro hk
        obtain ⟨d, hdl, hd⟩ := ih (by omega)
        obtain ⟨c, y, hc1, hy⟩ := each k (by omega)
        refine ⟨d ++ [y], by simp [hdl], fun i x h => ?_⟩
        rw [List.getElem?_append] at h
        split at h
        · exact hd i x h
        · have hi : i = k := by
            rcases Nat.lt_or_ge k i with h' | h'
            · rw [List.getElem?_eq_none (by simp; omega)] at h; cases h
            · omega
          subst hi
          have : i - d.length = 0 := by omega
          rw [this] at h
          simp at h
          subst h
          exact ⟨c, hc1, hy⟩
    obtain ⟨d, hdl, hd⟩ := pick len (Nat.le_refl _)
    refine ⟨d, some a, cap, by rw [hdl], by omega, hm, ?_⟩
    by_cases hz : len = 0
    · exact .inl (by omega)
    · right
      obtain ⟨b, off, spot⟩ := a
      have hsz : P.cellsOf e = s.size := he.1
      have h00 := each 0 (by omega)
      obtain ⟨c0, d0, hc0, hr0⟩ := h00
      have hlt : b < w.heap.size := by
        have := World.cells?_block hc0 (by omega)
        simpa [Addr.add] using this
      have hspot : spot = Option.none := by
        obtain ⟨_, h1, h2⟩ := World.cells?_some hc0
        have h3 := h2 0 (by omega)
        rw [List.getElem?_eq_getElem (by omega)] at h3
        have := World.cell?_spot h3
        simpa [Addr.add] using this
      subst hspot
      refine ⟨b, off, rfl, hlt, fun i x hi => ?_⟩
      obtain ⟨c, hc1, hr⟩ := hd i x hi
      refine ⟨c, hr.length, fun j hj => ?_, hr⟩
      obtain ⟨_, h1, h2⟩ := World.cells?_some hc1
      have h3 := h2 j (by omega)
      rw [hsz] at h3
      rw [← h3]
      congr 1
      cases hq : i * s.size <;> cases j <;> simp [Addr.add] <;> omega

/-- Fields one behind the other. -/
def Sh.ofL : List Sh → Sh
  | [] => .none
  | s :: l => .pair s (Sh.ofL l)

theorem Sh.ofL_size : ∀ l : List Sh, (Sh.ofL l).size = (l.map Sh.size).sum
  | [] => rfl
  | s :: l => by simp [Sh.ofL, Sh.size, Sh.ofL_size l]

theorem opens_fields {cs : List Value} {fs : Array Field} {n : Nat} {xs : List (DataW H × List MemPlace)}
    (hf : ∀ (i : Nat) (f : Field), fs[i]? = some f → DataW.trod enc P w 0 spare held n f.type ((cs.drop f.offset).take (P.cellsOf f.type)) = xs[i]?) (hx : xs.length = fs.size) :
    ∀ (l : List Sh) (k off : Nat), (∀ i s, l[i]? = some s → ∃ f, fs[k + i]? = some f ∧ Opens enc P w spare held f.type s ∧ f.offset = off + ((l.take i).map Sh.size).sum) →
      cs.length = off + (l.map Sh.size).sum → ∃ d : (Sh.ofL l).D, Reads (Sh.ofL l) w (cs.drop off) d
  | [], k, off, _, hlen => ⟨(), List.drop_eq_nil_of_le (by simp at hlen; omega)⟩
  | s :: l, k, off, hl, hlen => by
    obtain ⟨f, hfk, ho, hoff⟩ := hl 0 s rfl
    simp only [Nat.add_zero] at hfk
    simp at hoff
    have hk : k < fs.size := by
      rcases Nat.lt_or_ge k fs.size with h | h
      · exact h
      · rw [Array.getElem?_eq_none h] at hfk; cases hfk
    have h1 := hf k f hfk
    rw [List.getElem?_eq_getElem (by omega)] at h1
    obtain ⟨d1, hd1⟩ := ho.2 _ _ _ h1
    obtain ⟨d2, hd2⟩ := opens_fields hf hx l (k + 1) (off + s.size) (fun i s' hi => by
      obtain ⟨f', h2, h3, h4⟩ := hl (i + 1) s' (by simpa using hi)
      refine ⟨f', by rw [← h2]; congr 1; omega, h3, ?_⟩
      rw [h4]
      simp
      omega) (by simp at hlen; omega)
    refine ⟨(d1, d2), _, _, ?_, hd1, hd2⟩
    rw [hoff, ho.1]
    have e : cs.drop (off + s.size) = (cs.drop off).drop s.size := by rw [List.drop_drop]
    rw [e, List.take_append_drop]

theorem opens_struct {t : TypeId} {fs : Array Field} (l : List Sh) (ht : P.underlying t = some (.struct fs)) (hc : P.cellsOf t = (Sh.ofL l).size)
    (hl : ∀ i s, l[i]? = some s → ∃ f, fs[i]? = some f ∧ Opens enc P w spare held f.type s ∧ f.offset = ((l.take i).map Sh.size).sum) : Opens enc P w spare held t (Sh.ofL l) := by
  refine ⟨hc, fun fuel cs x h => ?_⟩
  obtain ⟨xs, n, _, _, hlen, hx, hf⟩ := DataW.trod_struct ht h
  have := opens_fields hf hx l 0 0 (fun i s hi => by
    obtain ⟨f, h1, h2, h3⟩ := hl i s hi
    exact ⟨f, by simpa using h1, h2, by simpa using h3⟩) (by rw [hlen, hc, Sh.ofL_size]; omega)
  simpa using this

end
end Go.Proofs.Ytpdgjejgjbjamaa
