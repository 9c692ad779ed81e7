/-
  Rows of flat data (links, turns, ints) of the call's own, in the words of 'Own'; cells of a new block.
-/
import Derived.Test.YtmhlligmehbehabDir
import Derived.Test.YtmhlligmehbehabTyTurn
import Derived.Deep.AppendLies
namespace Go.Proofs.Ytmhlligmehbehab
open Go.RowKit
set_option linter.unusedVariables false

theorem flatMap_flatten {α : Type} (cf : α → List Value) (l : List α) : (l.map cf).flatten = l.flatMap cf := by
  rw [List.flatMap_def]

theorem nils_flatten {α : Type} (l : List α) : (l.map fun _ => ([] : List Nat)).flatten = [] := by
  induction l with
  | nil => rfl
  | cons a l ih => simp [ih]

/-- A row of flat data. -/
theorem own_flat (e : Sh) (cf : e.D → List Value) {w : World} {B g n cap : Nat} {t : TypeId} {l : List e.D} (hl : l.length = n) (hcf : ∀ x ∈ l, Own e w B (cf x) x [])
    (h : w.ownsRow B t e.size (.slice (some ⟨g, 0, none⟩) n cap) n (l.flatMap cf)) : Own (.sl e) w B [.slice (some ⟨g, 0, none⟩) n cap] l [g] := by
  rcases h.2 with ⟨h1, _⟩ | ⟨g', cap', cur, hv, hg, hh, h1, h2, h3, h4⟩
  · simp at h1
  · simp only [Value.slice.injEq, Option.some.injEq, Addr.mk.injEq, and_true, true_and] at hv
    obtain ⟨rfl, rfl⟩ := hv
    refine .inr ⟨g, cap, t, cur, l.map cf, l.map (fun _ => []), ?_, hg, hh, ?_, h2, h3, ?_, ?_, ?_, ?_, ?_⟩
    · show _ = [Value.slice _ l.length cap]; rw [hl]
    · show l.length ≤ cap; omega
    · show cur.toList.take (l.length * e.size) = _
      rw [hl, h4, flatMap_flatten]
    · show (l.map _).length = l.length; simp
    · show (l.map _).length = l.length; simp
    · rw [nils_flatten]
    · intro i c x f hc hx hf
      have hx' : l[i]? = some x := hx
      rw [List.getElem?_map, hx'] at hc hf
      obtain rfl : cf x = c := Option.some.inj hc
      obtain rfl : [] = f := Option.some.inj hf
      exact hcf x (List.mem_of_getElem? hx')

theorem cells_new (w : World) (cs : List Value) (t : TypeId) : ∀ j u, cs[j]? = some u → (w.alloc (.cells cs.toArray t)).cell? ((⟨w.heap.size, 0, none⟩ : Addr).add j) = some u := by
  intro j u h
  have e : (⟨w.heap.size, 0, none⟩ : Addr).add j = ⟨w.heap.size, j, none⟩ := by cases j <;> simp [Addr.add]
  rw [e]
  exact box_cell (heap_alloc_new w _) (by simpa using h)

theorem cells_new' (w : World) (cs : List Value) (t : TypeId) (b : Nat) (hb : w.heap.size = b) : ∀ j u, cs[j]? = some u → (w.alloc (.cells cs.toArray t)).cell? ((⟨b, 0, none⟩ : Addr).add j) = some u := by
  subst hb; exact cells_new w cs t

/-- The cells of a list of links. -/
def cellsL (l : List LinkD) : List Value := l.flatMap fun x => [.string x.1, .int .i64 x.2.1]

theorem cellsL_snoc (l : List LinkD) (x : LinkD) : cellsL (l ++ [x]) = cellsL l ++ [.string x.1, .int .i64 x.2.1] := by simp [cellsL]

def SmallS (l : List LinkD) : Prop := ∀ x ∈ l, x.1.size ≤ maxLen

theorem own_links {w : World} {B g n cap : Nat} {t : TypeId} {l : List LinkD} (hl : l.length = n) (hs : SmallS l) (h : w.ownsRow B t 2 (.slice (some ⟨g, 0, none⟩) n cap) n (cellsL l)) :
    Own (.sl shLink) w B [.slice (some ⟨g, 0, none⟩) n cap] l [g] :=
  own_flat shLink (fun x => [.string x.1, .int .i64 x.2.1]) hl (fun x hx => own_Link (d := x) (hs x hx)) h

theorem reads_small {w : World} {a : Option Addr} {n cap : Nat} {d : List LinkD} (h : Reads (.sl shLink) w [.slice a n cap] d) : SmallS d := by
  intro x hx
  obtain ⟨i, hi, rfl⟩ := List.mem_iff_getElem.1 hx
  have hl := (reads_len h).1
  have hl' : List.length (α := LinkD) d = n := hl
  obtain ⟨b, off, c, y, _, _, hy, hr, _⟩ := reads_elem h i (by omega)
  obtain ⟨_, hh⟩ := open_Link hr
  have : (d : List LinkD)[i]? = some y := hy
  rw [List.getElem?_eq_getElem hi] at this
  obtain rfl := Option.some.inj this
  exact hh

theorem own_ints' {w : World} {B g n cap : Nat} {t : TypeId} {l : List Int} (hl : l.length = n) (h : w.ownsRow B t 1 (.slice (some ⟨g, 0, none⟩) n cap) n (l.map (Value.int .i64))) :
    Own (.sl .int) w B [.slice (some ⟨g, 0, none⟩) n cap] l [g] := by
  refine own_flat .int (fun x => [.int .i64 x]) (t := t) hl (fun x hx => ⟨rfl, rfl⟩) ?_
  have e : (l.flatMap fun x => [Value.int .i64 x]) = l.map (Value.int .i64) := by rw [← flatMap_flatten]; exact flatten_single _ _
  exact e.symm ▸ h

end Go.Proofs.Ytmhlligmehbehab
