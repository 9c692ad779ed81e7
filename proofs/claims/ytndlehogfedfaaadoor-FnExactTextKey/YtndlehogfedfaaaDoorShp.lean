/-
  Shapes of data (ints, bytes, bools, strings, fields one behind the other, slices) and what it is that cells hold such data: 'Reads'. One lemma for all shapes: what is read stays readable in later worlds; how much it holds ('sz').
-/
import Derived.Test.YtndlehogfedfaaaDoorKeep
import Derived.ChangeArms
import Derived.Laws.BytesArg
import Derived.Deep.Slices
namespace Go.Proofs.YtndlehogfedfaaaDoor
open Go.RowKit
open Go.ChangeShapes Go.WideShapes
set_option linter.unusedVariables false

def mgo : Nat → Nat → ByteArray → ByteArray
  | 0, _, o => o
  | f + 1, k, o => if k = 0 then o else mgo f (k / 10) (strOfNums [48 + (k : Int) % 10] ++ o)
def mtext (k : Nat) : ByteArray := ⟨#[109]⟩ ++ mgo 20 k ⟨#[]⟩

/-- One behind the other. -/
def mkRow {α : Type} (f : α → Nat → α) (c : α → Nat) : List α → Nat → List α
  | [], _ => []
  | x :: l, k => f x k :: mkRow f c l (k + c x)


theorem sum_le {α : Type} (f g : α → Nat) (l : List α) (h : ∀ x ∈ l, f x ≤ g x) : (l.map f).sum ≤ (l.map g).sum := by
  induction l with
  | nil => simp
  | cons a l ih =>
    have h1 := h a (by simp)
    have h2 := ih fun x hx => h x (by simp [hx])
    simp; omega

theorem sum_mul {α : Type} (f : α → Nat) (c : Nat) (l : List α) : (l.map fun x => c * (f x + 1)).sum = c * ((l.map f).sum + l.length) := by
  induction l with
  | nil => simp
  | cons a l ih =>
    have e : c * ((f a + (l.map f).sum) + (l.length + 1)) = c * (f a + 1) + c * ((l.map f).sum + l.length) := by rw [← Nat.mul_add]; congr 1; omega
    simp only [List.map_cons, List.sum_cons, List.length_cons]
    rw [ih, e]

theorem mem_flatten_get {l : List (List Nat)} {x : Nat} (h : x ∈ l.flatten) : ∃ (i : Nat) (f : List Nat), l[i]? = some f ∧ x ∈ f := by
  obtain ⟨f, hf, hx⟩ := List.mem_flatten.1 h
  obtain ⟨i, hi, rfl⟩ := List.mem_iff_getElem.1 hf
  exact ⟨i, l[i], List.getElem?_eq_getElem hi, hx⟩

theorem flatten_get {n : Nat} : ∀ {l : List (List Value)} {i j : Nat} {c : List Value}, (∀ (k : Nat) (d : List Value), l[k]? = some d → d.length = n) → l[i]? = some c → j < n → l.flatten[i * n + j]? = c[j]?
  | [], i, j, c, _, h, _ => by simp at h
  | d :: l, 0, j, c, hl, h, hj => by
    simp at h; subst h
    have := hl 0 d rfl
    rw [List.flatten_cons, List.getElem?_append_left (by omega)]
    simp
  | d :: l, i + 1, j, c, hl, h, hj => by
    have hd := hl 0 d rfl
    rw [List.flatten_cons, List.getElem?_append_right (by rw [hd, Nat.add_mul]; omega), hd]
    have e : (i + 1) * n + j - n = i * n + j := by rw [Nat.add_mul]; omega
    rw [e]
    exact flatten_get (fun k d hk => hl (k + 1) d (by simpa using hk)) (by simpa using h) hj

/-- A byte's number. -/
def isByte (z : Int) : Prop := 0 ≤ z ∧ z ≤ 255

/-- A shape of data: what it is, how many cells a value has, how much it holds, what cells hold it (and such of the call's own, with the blocks named), how marks are written into it; and the laws of these. -/
structure Sh where shape ::
  D : Type
  size : Nat
  sz : D → Nat
  Rd : World → List Value → D → Prop
  Ow : World → Nat → List Value → D → List Nat → Prop
  cnt : D → Nat
  mk : D → Nat → D
  cntV : D → Nat
  mkV : D → Nat → D
  wd : Nat
  rd_length : ∀ {w : World} {cs : List Value} {d : D}, Rd w cs d → cs.length = size
  rd_later : ∀ {w w' : World} {cs : List Value} {d : D}, Rd w cs d → Below w.heap.size w w' → Rd w' cs d
  ow_length : ∀ {w : World} {B : Nat} {cs : List Value} {d : D} {F : List Nat}, Ow w B cs d F → cs.length = size
  ow_lt : ∀ {w : World} {B : Nat} {cs : List Value} {d : D} {F : List Nat}, Ow w B cs d F → ∀ g ∈ F, B ≤ g ∧ g < w.heap.size
  ow_keep : ∀ {w w' : World} {B : Nat} {cs : List Value} {d : D} {F : List Nat}, Ow w B cs d F → (∀ g ∈ F, w'.heap[g]? = w.heap[g]?) → Ow w' B cs d F
  ow_base : ∀ {w : World} {B B' : Nat} {cs : List Value} {d : D} {F : List Nat}, Ow w B cs d F → B' ≤ B → Ow w B' cs d F
  ow_reads : ∀ {w : World} {B : Nat} {cs : List Value} {d : D} {F : List Nat}, Ow w B cs d F → Rd w cs d
  cnt_le : ∀ d : D, cnt d ≤ wd * (sz d + 1)
  cntV_le : ∀ d : D, cntV d ≤ cnt d

/-- A shape of one cell that leads to no block. -/
def Sh.leaf (D : Type) (z : D → Nat) (R : List Value → D → Prop) (m : D → Nat → D) (hl : ∀ cs d, R cs d → cs.length = 1) : Sh where
  D := D
  size := 1
  sz := z
  Rd := fun _ cs d => R cs d
  Ow := fun _ _ cs d F => R cs d ∧ F = []
  cnt := fun _ => 1
  mk := m
  cntV := fun _ => 0
  mkV := fun d _ => d
  wd := 1
  rd_length := fun h => hl _ _ h
  rd_later := fun h _ => h
  ow_length := fun h => hl _ _ h.1
  ow_lt := fun h g hg => by rw [h.2] at hg; cases hg
  ow_keep := fun h _ => h
  ow_base := fun h _ => h
  ow_reads := fun h => h.1
  cnt_le := fun _ => by omega
  cntV_le := fun _ => by omega

def Sh.int : Sh := Sh.leaf Int (fun _ => 0) (fun cs d => cs = [Value.int .i64 d]) (fun _ k => ((k : Nat) : Int)) (fun cs d h => by rw [h]; rfl)
def Sh.bool : Sh := Sh.leaf Bool (fun _ => 0) (fun cs d => cs = [Value.bool d]) (fun _ k => decide (k % 3 = 0)) (fun cs d h => by rw [h]; rfl)
def Sh.str : Sh := Sh.leaf ByteArray (fun d => ByteArray.size d) (fun cs d => cs = [Value.string d] ∧ ByteArray.size d ≤ maxLen) (fun _ k => mtext k) (fun cs d h => by rw [h.1]; rfl)
def Sh.u8 : Sh := Sh.leaf Int (fun _ => 0) (fun cs d => cs = [Value.int .u8 d] ∧ isByte d) (fun _ k => (((k % 256 : Nat)) : Int)) (fun cs d h => by rw [h.1]; rfl)

/-- No cell at all. -/
def Sh.none : Sh where
  D := Unit
  size := 0
  sz := fun _ => 0
  Rd := fun _ cs _ => cs = []
  Ow := fun _ _ cs _ F => cs = [] ∧ F = []
  cnt := fun _ => 0
  mk := fun d _ => d
  cntV := fun _ => 0
  mkV := fun d _ => d
  wd := 0
  rd_length := fun h => by rw [h]; rfl
  rd_later := fun h _ => h
  ow_length := fun h => by rw [h.1]; rfl
  ow_lt := fun h g hg => by rw [h.2] at hg; cases hg
  ow_keep := fun h _ => h
  ow_base := fun h _ => h
  ow_reads := fun h => h.1
  cnt_le := fun _ => by omega
  cntV_le := fun _ => by omega

/-- One behind the other. -/
def Sh.pair (a b : Sh) : Sh where
  D := a.D × b.D
  size := a.size + b.size
  sz := fun d => a.sz d.1 + b.sz d.2
  Rd := fun w cs d => ∃ c1 c2, cs = c1 ++ c2 ∧ a.Rd w c1 d.1 ∧ b.Rd w c2 d.2
  Ow := fun w B cs d F => ∃ c1 c2 F1 F2, cs = c1 ++ c2 ∧ F = F1 ++ F2 ∧ a.Ow w B c1 d.1 F1 ∧ b.Ow w B c2 d.2 F2
  cnt := fun d => a.cnt d.1 + b.cnt d.2
  mk := fun d k => (a.mk d.1 k, b.mk d.2 (k + a.cnt d.1))
  cntV := fun d => a.cntV d.1 + b.cntV d.2
  mkV := fun d k => (a.mkV d.1 k, b.mkV d.2 (k + a.cntV d.1))
  wd := a.wd + b.wd
  rd_length := fun ⟨c1, c2, e, h1, h2⟩ => by rw [e, List.length_append, a.rd_length h1, b.rd_length h2]
  rd_later := fun ⟨c1, c2, e, h1, h2⟩ hb => ⟨c1, c2, e, a.rd_later h1 hb, b.rd_later h2 hb⟩
  ow_length := fun ⟨c1, c2, F1, F2, e, _, h1, h2⟩ => by rw [e, List.length_append, a.ow_length h1, b.ow_length h2]
  ow_lt := fun ⟨c1, c2, F1, F2, _, e, h1, h2⟩ g hg => by
    rw [e] at hg
    rcases List.mem_append.1 hg with h | h
    · exact a.ow_lt h1 g h
    · exact b.ow_lt h2 g h
  ow_keep := fun ⟨c1, c2, F1, F2, e, eF, h1, h2⟩ hk => ⟨c1, c2, F1, F2, e, eF, a.ow_keep h1 fun g hg => hk g (by rw [eF]; exact List.mem_append_left _ hg), b.ow_keep h2 fun g hg => hk g (by rw [eF]; exact List.mem_append_right _ hg)⟩
  ow_base := fun ⟨c1, c2, F1, F2, e, eF, h1, h2⟩ hk => ⟨c1, c2, F1, F2, e, eF, a.ow_base h1 hk, b.ow_base h2 hk⟩
  ow_reads := fun ⟨c1, c2, F1, F2, e, _, h1, h2⟩ => ⟨c1, c2, e, a.ow_reads h1, b.ow_reads h2⟩
  cnt_le := fun d => by
    have h1 := a.cnt_le d.1
    have h2 := b.cnt_le d.2
    have h3 : a.wd * (a.sz d.1 + 1) ≤ a.wd * (a.sz d.1 + b.sz d.2 + 1) := Nat.mul_le_mul_left _ (by omega)
    have h4 : b.wd * (b.sz d.2 + 1) ≤ b.wd * (a.sz d.1 + b.sz d.2 + 1) := Nat.mul_le_mul_left _ (by omega)
    rw [Nat.add_mul]
    omega
  cntV_le := fun d => by
    have h1 := a.cntV_le d.1
    have h2 := b.cntV_le d.2
    omega

/-- A slice. -/
def Sh.sl (e : Sh) : Sh where
  D := List e.D
  size := 1
  sz := fun d => List.length d + (List.map e.sz d).sum
  Rd := fun w cs d => ∃ ad cap, cs = [Value.slice ad (List.length d) cap] ∧ List.length d ≤ cap ∧ cap ≤ maxLen ∧
      (List.length d = 0 ∨ ∃ b off, ad = some ⟨b, off, Option.none⟩ ∧ b < w.heap.size ∧
        ∀ (i : Nat) (x : e.D), d[i]? = some x → ∃ c : List Value, c.length = e.size ∧ (∀ j, j < e.size → w.cell? ⟨b, off + (i * e.size + j), Option.none⟩ = c[j]?) ∧ e.Rd w c x)
  Ow := fun w B cs d F => (cs = [Value.slice Option.none 0 0] ∧ List.length d = 0 ∧ F = []) ∨
      ∃ (g cap : Nat) (t : TypeId) (cur : Array Value) (Cs : List (List Value)) (Fs : List (List Nat)), cs = [Value.slice (some ⟨g, 0, Option.none⟩) (List.length d) cap] ∧ B ≤ g ∧ w.heap[g]? = some (.cells cur t (0, 0)) ∧
        List.length d ≤ cap ∧ cap ≤ maxLen ∧ cur.size = cap * e.size ∧ cur.toList.take (List.length d * e.size) = Cs.flatten ∧ Cs.length = List.length d ∧ Fs.length = List.length d ∧ F = g :: Fs.flatten ∧
        ∀ (i : Nat) (c : List Value) (x : e.D) (f : List Nat), Cs[i]? = some c → d[i]? = some x → Fs[i]? = some f → e.Ow w B c x f
  cnt := fun d => (List.map e.cnt d).sum
  mk := fun d k => mkRow e.mk e.cnt d k
  cntV := fun d => (List.map e.cnt d).sum
  mkV := fun d k => mkRow e.mk e.cnt d k
  wd := e.wd
  rd_length := fun ⟨ad, cap, h, _⟩ => by rw [h]; rfl
  rd_later := fun ⟨ad, cap, h, hl, hm, h0⟩ hb => ⟨ad, cap, h, hl, hm, h0.imp (fun h => h) fun ⟨b, off, ha, hlt, hx⟩ =>
      ⟨b, off, ha, Nat.lt_of_lt_of_le hlt hb.size, fun i x hi => by
        obtain ⟨c, hc, hcell, hr⟩ := hx i x hi
        exact ⟨c, hc, fun j hj => (hb.cell (p := ⟨b, off + (i * e.size + j), Option.none⟩) hlt).trans (hcell j hj), e.rd_later hr hb⟩⟩⟩
  ow_length := fun h => by
    rcases h with ⟨h, _⟩ | ⟨g, cap, t, cur, Cs, Fs, h, _⟩
    · rw [h]; rfl
    · rw [h]; rfl
  ow_lt := fun {w B cs d F} h x hx => by
    rcases h with ⟨_, _, h⟩ | ⟨g, cap, t, cur, Cs, Fs, _, hB, hh, _, _, _, _, hC, hF, hFF, he⟩
    · rw [h] at hx; cases hx
    · rw [hFF] at hx
      rcases List.mem_cons.1 hx with rfl | h
      · refine ⟨hB, ?_⟩
        rcases Nat.lt_or_ge x w.heap.size with h | h
        · exact h
        · rw [Array.getElem?_eq_none h] at hh; cases hh
      · obtain ⟨i, f, hi, hxf⟩ := mem_flatten_get h
        have hil : i < Fs.length := by
          rcases Nat.lt_or_ge i Fs.length with h | h
          · exact h
          · rw [List.getElem?_eq_none h] at hi; cases hi
        have hd : i < List.length d := by omega
        exact e.ow_lt (he i Cs[i] (List.get d ⟨i, hd⟩) f (List.getElem?_eq_getElem (by omega)) (List.getElem?_eq_getElem hd) hi) x hxf
  ow_keep := fun h hk => by
    rcases h with h | ⟨g, cap, t, cur, Cs, Fs, hcs, hB, hh, h1, h2, h3, h4, h5, h6, hFF, he⟩
    · exact .inl h
    · exact .inr ⟨g, cap, t, cur, Cs, Fs, hcs, hB, (hk g (by rw [hFF]; exact List.mem_cons_self)).trans hh, h1, h2, h3, h4, h5, h6, hFF, fun i c x f hc hx hf =>
        e.ow_keep (he i c x f hc hx hf) fun y hy => hk y (by rw [hFF]; exact List.mem_cons_of_mem _ (List.mem_flatten.2 ⟨f, List.mem_of_getElem? hf, hy⟩))⟩
  ow_base := fun h hk => by
    rcases h with h | ⟨g, cap, t, cur, Cs, Fs, hcs, hB, hh, h1, h2, h3, h4, h5, h6, hFF, he⟩
    · exact .inl h
    · exact .inr ⟨g, cap, t, cur, Cs, Fs, hcs, Nat.le_trans hk hB, hh, h1, h2, h3, h4, h5, h6, hFF, fun i c x f hc hx hf => e.ow_base (he i c x f hc hx hf) hk⟩
  ow_reads := fun {w B cs d F} h => by
    rcases h with ⟨h, h0, _⟩ | ⟨g, cap, t, cur, Cs, Fs, hcs, hB, hh, h1, h2, h3, h4, h5, h6, hFF, he⟩
    · exact ⟨Option.none, 0, by rw [h, h0], by omega, Nat.zero_le _, .inl h0⟩
    · refine ⟨some ⟨g, 0, Option.none⟩, cap, hcs, h1, h2, .inr ⟨g, 0, rfl, ?_, fun i x hx => ?_⟩⟩
      · rcases Nat.lt_or_ge g w.heap.size with h | h
        · exact h
        · rw [Array.getElem?_eq_none h] at hh; cases hh
      · have hi : i < List.length d := by
          rcases Nat.lt_or_ge i (List.length d) with h | h
          · exact h
          · rw [List.getElem?_eq_none h] at hx; cases hx
        have hC : Cs[i]? = some Cs[i] := List.getElem?_eq_getElem (by omega)
        have hF : Fs[i]? = some Fs[i] := List.getElem?_eq_getElem (by omega)
        have ho := he i _ x _ hC hx hF
        have hall : ∀ (k : Nat) (c : List Value), Cs[k]? = some c → c.length = e.size := by
          intro k c hk
          have hkl : k < Cs.length := by
            rcases Nat.lt_or_ge k Cs.length with h | h
            · exact h
            · rw [List.getElem?_eq_none h] at hk; cases hk
          have hkd : k < List.length d := by omega
          exact e.ow_length (he k c (List.get d ⟨k, hkd⟩) Fs[k] hk (List.getElem?_eq_getElem hkd) (List.getElem?_eq_getElem (by omega)))
        refine ⟨Cs[i], e.ow_length ho, fun j hj => ?_, e.ow_reads ho⟩
        have hf := flatten_get hall hC hj
        have hlt : i * e.size + j < List.length d * e.size := by
          have : (i + 1) * e.size ≤ List.length d * e.size := Nat.mul_le_mul_right _ hi
          rw [Nat.add_mul] at this; omega
        rw [← h4, List.getElem?_take_of_lt hlt] at hf
        rw [← hf, Nat.zero_add]
        simp [World.cell?, hh]
  cnt_le := fun d => by
    have h1 := sum_le e.cnt (fun x => e.wd * (e.sz x + 1)) d fun x _ => e.cnt_le x
    have h3 := sum_mul e.sz e.wd (show List e.D from d)
    have h1 : (List.map e.cnt d).sum ≤ e.wd * ((List.map e.sz d).sum + List.length d) := Nat.le_trans h1 (Nat.le_of_eq h3)
    have h2 : e.wd * ((List.map e.sz d).sum + List.length d) ≤ e.wd * (List.length d + (List.map e.sz d).sum + 1) := Nat.mul_le_mul_left _ (by omega)
    exact Nat.le_trans h1 h2
  cntV_le := fun d => Nat.le_refl _

theorem Sh.size_int : Sh.int.size = 1 := rfl
theorem Sh.size_bool : Sh.bool.size = 1 := rfl
theorem Sh.size_str : Sh.str.size = 1 := rfl
theorem Sh.size_u8 : Sh.u8.size = 1 := rfl
theorem Sh.size_pair (a b : Sh) : (Sh.pair a b).size = a.size + b.size := rfl

/-- The element at i. -/
def Sh.at (e : Sh) (d : List e.D) (i : Nat) : Option e.D := d[i]?
/-- In w the cells cs hold the data. -/
def Reads (s : Sh) (w : World) (cs : List Value) (d : s.D) : Prop := s.Rd w cs d
/-- In w the cells cs hold the data, in rows of the call's own: the blocks F, each from B on. -/
def Own (s : Sh) (w : World) (B : Nat) (cs : List Value) (d : s.D) (F : List Nat) : Prop := s.Ow w B cs d F

theorem Reads.length {s : Sh} {w : World} {cs : List Value} {d : s.D} (h : Reads s w cs d) : cs.length = s.size := s.rd_length h
theorem Reads.later {s : Sh} {w w' : World} {cs : List Value} {d : s.D} (h : Reads s w cs d) (hb : Below w.heap.size w w') : Reads s w' cs d := s.rd_later h hb
theorem Own.length {s : Sh} {w : World} {B : Nat} {cs : List Value} {d : s.D} {F : List Nat} (h : Own s w B cs d F) : cs.length = s.size := s.ow_length h
theorem Own.lt {s : Sh} {w : World} {B : Nat} {cs : List Value} {d : s.D} {F : List Nat} (h : Own s w B cs d F) : ∀ g ∈ F, B ≤ g ∧ g < w.heap.size := s.ow_lt h
theorem Own.keep {s : Sh} {w w' : World} {B : Nat} {cs : List Value} {d : s.D} {F : List Nat} (h : Own s w B cs d F) (hk : ∀ g ∈ F, w'.heap[g]? = w.heap[g]?) : Own s w' B cs d F := s.ow_keep h hk
theorem Own.base {s : Sh} {w : World} {B B' : Nat} {cs : List Value} {d : s.D} {F : List Nat} (h : Own s w B cs d F) (hk : B' ≤ B) : Own s w B' cs d F := s.ow_base h hk
theorem Own.reads {s : Sh} {w : World} {B : Nat} {cs : List Value} {d : s.D} {F : List Nat} (h : Own s w B cs d F) : Reads s w cs d := s.ow_reads h

/-- A slice of bytes, in the elder words. -/
theorem reads_bytes {w : World} {a : Option Addr} {n cap : Nat} {d : List Int} (h : Reads (.sl .u8) w [Value.slice a n cap] d) : List.length d = n ∧ Rd w a d ∧ n ≤ cap ∧ cap ≤ maxLen := by
  obtain ⟨ad, cp, e, hl, hm, h0⟩ := h
  simp only [List.cons.injEq, Value.slice.injEq, and_true] at e
  obtain ⟨rfl, hn, rfl⟩ := e
  have hbd : List.length d = 0 ∨ ∃ b off, a = some ⟨b, off, Option.none⟩ ∧ b < w.heap.size ∧ ∀ (i : Nat) (x : Int), d[i]? = some x → w.cell? ⟨b, off + i, Option.none⟩ = some (.int .u8 x) ∧ 0 ≤ x ∧ x ≤ 255 := by
    refine h0.imp id fun ⟨b, off, ha, hlt, hx⟩ => ⟨b, off, ha, hlt, fun i x hi => ?_⟩
    obtain ⟨c, hc, hcell, hr⟩ := hx i x hi
    have h1 := hcell 0 (by decide)
    obtain ⟨rfl, hx0, hx1⟩ := hr
    simp only [Sh.size_u8, Nat.mul_one, Nat.add_zero] at h1
    exact ⟨by simpa using h1, hx0, hx1⟩
  refine ⟨hn.symm, ⟨fun i => ?_, ?_⟩, by omega, hm⟩
  · rcases hbd with h | ⟨b, off, ha, hlt, hx⟩
    · have : d = [] := List.eq_nil_of_length_eq_zero h
      subst this; simp
    · by_cases hi : i < List.length d
      · have h1 := (hx i d[i] (List.getElem?_eq_getElem hi)).2
        simpa [hi] using h1
      · simp [hi]
  · rcases hbd with h | ⟨b, off, ha, hlt, hx⟩
    · exact .inl (List.eq_nil_of_length_eq_zero h)
    · exact .inr ⟨b, off, ha, hlt, fun i hi => by rw [(hx i d[i] (List.getElem?_eq_getElem hi)).1]; simp [hi]⟩

section
variable {H : Type} {enc : TypeId × Value → H} {P : Program} {w : World} {spare : Nat → Bool} {held : Bool}

/-- What a type's values are read as, in w. -/
def Opens (enc : TypeId × Value → H) (P : Program) (w : World) (spare : Nat → Bool) (held : Bool) (t : TypeId) (s : Sh) : Prop :=
  P.cellsOf t = s.size ∧ ∀ (fuel : Nat) (cs : List Value) (x : DataW H × List MemPlace), DataW.trod enc P w 0 spare held fuel t cs = some x → ∃ d : s.D, Reads s w cs d

theorem opens_int {t : TypeId} (ht : P.underlying t = some (.int .i64)) (hc : P.cellsOf t = 1) : Opens enc P w spare held t .int :=
  ⟨hc, fun fuel cs x h => by obtain ⟨n, e, _⟩ := DataW.trod_int ht h; exact ⟨n, e⟩⟩
theorem opens_u8 {t : TypeId} (ht : P.underlying t = some (.int .u8)) (hc : P.cellsOf t = 1) : Opens enc P w spare held t .u8 :=
  ⟨hc, fun fuel cs x h => by
    obtain ⟨n, e, _, hw⟩ := DataW.trod_int ht h
    simp [Lit.wf, IntKind.min, IntKind.max, IntKind.signed, IntKind.bits] at hw
    exact ⟨n, e, hw.1, hw.2⟩⟩
theorem opens_bool {t : TypeId} (ht : P.underlying t = some .bool) (hc : P.cellsOf t = 1) : Opens enc P w spare held t .bool :=
  ⟨hc, fun fuel cs x h => by obtain ⟨n, e, _⟩ := DataW.trod_bool ht h; exact ⟨n, e⟩⟩
theorem opens_str {t : TypeId} (ht : P.underlying t = some .string) (hc : P.cellsOf t = 1) : Opens enc P w spare held t .str :=
  ⟨hc, fun fuel cs x h => by obtain ⟨n, e, _, hs⟩ := DataW.trod_string ht h; exact ⟨n, e, hs⟩⟩

theorem opens_sl {t e : TypeId} {s : Sh} (ht : P.underlying t = some (.slice e)) (hc : P.cellsOf t = 1) (h0 : 0 < s.size) (he : Opens enc P w spare held e s) : Opens enc P w spare held t (.sl s) := by
  refine ⟨hc, fun fuel cs x h => ?_⟩
  rcases Go.Deep.open_slice ht h with ⟨rfl, _⟩ | ⟨a, len, cap, m, n, D, Pl, rfl, _, hl, hm, hme, _, hx⟩
  · exact ⟨([] : List s.D), Option.none, 0, rfl, Nat.le_refl _, Nat.zero_le _, .inl rfl⟩
  · have hlm : len ≤ m := by rw [hme]; split <;> omega
    have each : ∀ i, i < len → ∃ (c : List Value) (d : s.D), w.cells? 0 (a.add (i * P.cellsOf e)) (P.cellsOf e) = some c ∧ Reads s w c d := by
      intro i hi
      obtain ⟨c, h1, h2⟩ := hx i (by omega)
      obtain ⟨d, hd⟩ := he.2 _ _ _ h2
      exact ⟨c, d, h1, hd⟩
    -- a choice, place by place
    have pick : ∀ k, k ≤ len → ∃ d : List s.D, List.length d = k ∧ ∀ (i : Nat) (x : s.D), d[i]? = some x → ∃ c : List Value, w.cells? 0 (a.add (i * P.cellsOf e)) (P.cellsOf e) = some c ∧ Reads s w c x := by
      intro k
      induction k with
      | zero => exact fun _ => ⟨[], rfl, fun i x h => by simp at h⟩
      | succ k ih =>
        intro hk
        obtain ⟨d, hdl, hd⟩ := ih (by omega)
        obtain ⟨c, y, hc1, hy⟩ := each k (by omega)
        refine ⟨d ++ [y], by simp [hdl], fun i x h => ?_⟩
        rw [List.getElem?_append] at h
        split at h
        · exact hd i x h
        · have hi : i = k := by
            rcases Nat.lt_or_ge k i with h' | h'
            · rw [List.getElem?_eq_none (by simp; omega)] at h; cases h
            · omega
          subst hi
          have : i - d.length = 0 := by omega
          rw [this] at h
          simp at h
          subst h
          exact ⟨c, hc1, hy⟩
    obtain ⟨d, hdl, hd⟩ := pick len (Nat.le_refl _)
    refine ⟨d, some a, cap, by rw [hdl], by omega, hm, ?_⟩
    by_cases hz : len = 0
    · exact .inl (by omega)
    · right
      obtain ⟨b, off, spot⟩ := a
      have hsz : P.cellsOf e = s.size := he.1
      have h00 := each 0 (by omega)
      obtain ⟨c0, d0, hc0, hr0⟩ := h00
      have hlt : b < w.heap.size := by
        have := World.cells?_block hc0 (by omega)
        simpa [Addr.add] using this
      have hspot : spot = Option.none := by
        obtain ⟨_, h1, h2⟩ := World.cells?_some hc0
        have h3 := h2 0 (by omega)
        rw [List.getElem?_eq_getElem (by omega)] at h3
        have := World.cell?_spot h3
        simpa [Addr.add] using this
      subst hspot
      refine ⟨b, off, rfl, hlt, fun i x hi => ?_⟩
      obtain ⟨c, hc1, hr⟩ := hd i x hi
      refine ⟨c, hr.length, fun j hj => ?_, hr⟩
      obtain ⟨_, h1, h2⟩ := World.cells?_some hc1
      have h3 := h2 j (by omega)
      rw [hsz] at h3
      rw [← h3]
      congr 1
      cases hq : i * s.size <;> cases j <;> simp [Addr.add] <;> omega

/-- Fields one behind the other. -/
def Sh.ofL : List Sh → Sh
  | [] => .none
  | s :: l => .pair s (Sh.ofL l)

theorem Sh.ofL_size : ∀ l : List Sh, (Sh.ofL l).size = (l.map Sh.size).sum
  | [] => rfl
  | s :: l => by
    show s.size + (Sh.ofL l).size = _
    rw [Sh.ofL_size l]
    simp

theorem opens_fields {cs : List Value} {fs : Array Field} {n : Nat} {xs : List (DataW H × List MemPlace)}
    (hf : ∀ (i : Nat) (f : Field), fs[i]? = some f → DataW.trod enc P w 0 spare held n f.type ((cs.drop f.offset).take (P.cellsOf f.type)) = xs[i]?) (hx : xs.length = fs.size) :
    ∀ (l : List Sh) (k off : Nat), (∀ i s, l[i]? = some s → ∃ f, fs[k + i]? = some f ∧ Opens enc P w spare held f.type s ∧ f.offset = off + ((l.take i).map Sh.size).sum) →
      cs.length = off + (l.map Sh.size).sum → ∃ d : (Sh.ofL l).D, Reads (Sh.ofL l) w (cs.drop off) d
  | [], k, off, _, hlen => ⟨(), List.drop_eq_nil_of_le (by simp at hlen; omega)⟩
  | s :: l, k, off, hl, hlen => by
    obtain ⟨f, hfk, ho, hoff⟩ := hl 0 s rfl
    simp only [Nat.add_zero] at hfk
    simp at hoff
    have hk : k < fs.size := by
      rcases Nat.lt_or_ge k fs.size with h | h
      · exact h
      · rw [Array.getElem?_eq_none h] at hfk; cases hfk
    have h1 := hf k f hfk
    rw [List.getElem?_eq_getElem (by omega)] at h1
    obtain ⟨d1, hd1⟩ := ho.2 _ _ _ h1
    obtain ⟨d2, hd2⟩ := opens_fields hf hx l (k + 1) (off + s.size) (fun i s' hi => by
      obtain ⟨f', h2, h3, h4⟩ := hl (i + 1) s' (by simpa using hi)
      refine ⟨f', by rw [← h2]; congr 1; omega, h3, ?_⟩
      rw [h4]
      simp
      omega) (by simp at hlen; omega)
    refine ⟨(d1, d2), _, _, ?_, hd1, hd2⟩
    rw [hoff, ho.1]
    have e : cs.drop (off + s.size) = (cs.drop off).drop s.size := by rw [List.drop_drop]
    rw [e, List.take_append_drop]

theorem opens_struct {t : TypeId} {fs : Array Field} (l : List Sh) (ht : P.underlying t = some (.struct fs)) (hc : P.cellsOf t = (Sh.ofL l).size)
    (hl : ∀ i s, l[i]? = some s → ∃ f, fs[i]? = some f ∧ Opens enc P w spare held f.type s ∧ f.offset = ((l.take i).map Sh.size).sum) : Opens enc P w spare held t (Sh.ofL l) := by
  refine ⟨hc, fun fuel cs x h => ?_⟩
  obtain ⟨xs, n, _, _, hlen, hx, hf⟩ := DataW.trod_struct ht h
  have := opens_fields hf hx l 0 0 (fun i s hi => by
    obtain ⟨f, h1, h2, h3⟩ := hl i s hi
    exact ⟨f, by simpa using h1, h2, by simpa using h3⟩) (by rw [hlen, hc, Sh.ofL_size]; omega)
  simpa using this

end
end Go.Proofs.YtndlehogfedfaaaDoor
