/-
  Rows of turns: their cells, as the source of an append and as a row of the call's own.
-/
import Derived.Test.YtmhlligmehbehabAppC
import Derived.Test.YtmhlligmehbehabTyTurn
import Derived.Test.YtmhlligmehbehabDir
namespace Go.Proofs.Ytmhlligmehbehab
open Go.RowKit
set_option linter.unusedVariables false

def cellsT (l : List TurnD) : List Value := l.flatMap fun x => [.int .i64 x.1, .string x.2.1, .string x.2.2.1, .int .i64 x.2.2.2.1]
def SmallT (l : List TurnD) : Prop := ∀ t ∈ l, t.2.1.size ≤ maxLen ∧ t.2.2.1.size ≤ maxLen

theorem reads_smallT {w : World} {a : Option Addr} {n cap : Nat} {l : List TurnD} (h : Reads (.sl shTurn) w [.slice a n cap] l) : SmallT l := by
  intro t ht
  obtain ⟨i, hi, rfl⟩ := List.mem_iff_getElem.1 ht
  have hl : List.length (α := TurnD) l = n := (reads_len h).1
  obtain ⟨b, off, c, x, _, _, hx, hr, _⟩ := reads_elem h i (by omega)
  obtain ⟨_, hxe⟩ := at_some' hx
  obtain ⟨_, h1, h2⟩ := open_Turn hr
  subst hxe
  exact ⟨h1, h2⟩

theorem cellsT_len (l : List TurnD) : (cellsT l).length = l.length * 4 := by
  unfold cellsT
  induction l with
  | nil => rfl
  | cons a l ih => rw [List.flatMap_cons, List.length_append, ih, List.length_cons]; simp; omega

theorem cellsT_one (l : List TurnD) : ∀ u ∈ cellsT l, u.oneCell' = true := by
  intro u hu
  unfold cellsT at hu
  obtain ⟨x, _, hx⟩ := List.mem_flatMap.1 hu
  simp at hx
  rcases hx with rfl | rfl | rfl | rfl <;> rfl

theorem src_turns {w : World} {B : Nat} {v : Value} {l : List TurnD} {F : List Nat} (h : Own (.sl shTurn) w B [v] l F) : Src w v l.length (cellsT l) := by
  obtain ⟨a, c, hv, h1, h2, h3⟩ := own_val h
  subst hv
  cases a with
  | none =>
    obtain ⟨k1, k2, k3⟩ := own_nil h
    have k4 : l = [] := k3
    subst k4
    subst k2
    exact .inl ⟨rfl, rfl, rfl⟩
  | some ad => exact .inr ⟨ad, c, rfl, reads_flat shTurn (fun x => [.int .i64 x.1, .string x.2.1, .string x.2.2.1, .int .i64 x.2.2.2.1]) (by decide) (fun w c x hr => (open_Turn hr).1) h.reads⟩

theorem own_turnsV {w : World} {B n : Nat} {v : Value} {t : TypeId} {l : List TurnD} (hl : l.length = n) (hs : SmallT l) (h : w.ownsRow B t 4 v n (cellsT l)) : ∃ F, Own (.sl shTurn) w B [v] l F ∧ F.Nodup ∧ (∀ y ∈ F, v.ownBlock = some y) ∧ ∃ a c, v = .slice a n c := by
  rcases h.2 with ⟨h1, h2⟩ | ⟨g, cap, cur, hv, _⟩
  · refine ⟨[], .inl ⟨by rw [h1], ?_, rfl⟩, by simp, by simp, none, 0, by rw [h1, h2]⟩
    show l.length = 0; omega
  · subst hv
    exact ⟨[g], own_flat shTurn (fun x => [.int .i64 x.1, .string x.2.1, .string x.2.2.1, .int .i64 x.2.2.2.1]) hl (fun x hx => own_Turn (hs x hx).1 (hs x hx).2) h, by simp, by simp [Value.ownBlock], _, _, rfl⟩

theorem own_linksW {w : World} {B n : Nat} {v : Value} {t : TypeId} {l : List LinkD} (hl : l.length = n) (hs : SmallS l) (h : w.ownsRow B t 2 v n (cellsL l)) : ∃ F, Own (.sl shLink) w B [v] l F ∧ F.Nodup ∧ (∀ y ∈ F, v.ownBlock = some y) ∧ ∃ a c, v = .slice a n c := by
  rcases h.2 with ⟨h1, h2⟩ | ⟨g, cap, cur, hv, _⟩
  · refine ⟨[], .inl ⟨by rw [h1], ?_, rfl⟩, by simp, by simp, none, 0, by rw [h1, h2]⟩
    show l.length = 0; omega
  · subst hv
    exact ⟨[g], own_links hl hs h, by simp, by simp [Value.ownBlock], _, _, rfl⟩

end Go.Proofs.Ytmhlligmehbehab
