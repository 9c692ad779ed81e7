/-
  append where the source is nil or not, empty or not: one law for all, at a plain list of operations and at a step of a region that draws its order.
-/
import Derived.Test.YtkjnbjohicgooaaGreatOwnN
import Derived.Test.YtkjnbjohicgooaaGreatAppS
import Derived.Laws.AppendOwnNone
import Derived.Deep.AppendLies
namespace Go.Proofs.YtkjnbjohicgooaaGreat
open Go.RowKit
set_option linter.unusedVariables false

theorem src_bytes {w : World} {B : Nat} {v : Value} {zs : List Int} {F : List Nat} (h : Own (.sl .u8) w B [v] zs F) : Src w v zs.length (zs.map (Value.int .u8)) := by
  obtain ⟨a, c, hv, h1, h2, h3⟩ := own_val h
  have hv' : v = .slice a zs.length c := hv
  subst hv'
  cases a with
  | none =>
    obtain ⟨k1, k2, k3⟩ := own_nil h
    have k4 : zs = [] := k3
    subst k4
    subst k2
    exact .inl ⟨rfl, rfl, rfl⟩
  | some ad =>
    refine .inr ⟨ad, c, rfl, ?_⟩
    have := reads_flat .u8 (fun x => [Value.int .u8 x]) (by decide) (fun w c x hr => hr.1) h.reads
    intro j u hu
    exact this j u (by rw [← hu]; congr 1; exact (flatMap_flatten _ _).symm.trans (flatten_single _ _))

theorem src_links {w : World} {B : Nat} {v : Value} {l : List LinkD} {F : List Nat} (h : Own (.sl shLink) w B [v] l F) : Src w v l.length (cellsL l) := by
  obtain ⟨a, c, hv, h1, h2, h3⟩ := own_val h
  subst hv
  cases a with
  | none =>
    obtain ⟨k1, k2, k3⟩ := own_nil h
    have k4 : l = [] := k3
    subst k4
    subst k2
    exact .inl ⟨rfl, rfl, rfl⟩
  | some ad => exact .inr ⟨ad, c, rfl, links_src h.reads⟩

theorem bytes_one (zs : List Int) : ∀ u ∈ zs.map (Value.int .u8), u.oneCell' = true := by
  intro u hu
  simp at hu
  obtain ⟨z, _, rfl⟩ := hu
  rfl

/-- A row of links that the call owns, nil or not. -/
theorem own_linksV {w : World} {B n : Nat} {v : Value} {t : TypeId} {l : List LinkD} (hl : l.length = n) (hs : SmallS l) (h : w.ownsRow B t 2 v n (cellsL l)) : ∃ F, Own (.sl shLink) w B [v] l F ∧ F.Nodup ∧ ∃ a c, v = .slice a n c := by
  rcases h.2 with ⟨h1, h2⟩ | ⟨g, cap, cur, hv, _⟩
  · refine ⟨[], .inl ⟨by rw [h1], ?_, rfl⟩, by simp, none, 0, by rw [h1, h2]⟩
    show l.length = 0; omega
  · subst hv
    exact ⟨[g], own_links hl hs h, by simp, _, _, rfl⟩

end Go.Proofs.YtkjnbjohicgooaaGreat
