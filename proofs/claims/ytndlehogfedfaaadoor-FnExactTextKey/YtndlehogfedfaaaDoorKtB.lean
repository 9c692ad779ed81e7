/-
  The table of names as one row of cells (NamB).
-/
import Derived.Test.YtndlehogfedfaaaDoorKt
namespace Go.Proofs.YtndlehogfedfaaaDoor
open Go.RowKit
set_option linter.unusedVariables false
set_option maxRecDepth 100000

def nmCells : Array Value := #[.string ⟨#[69, 78, 84, 69, 82]⟩, .string ⟨#[13]⟩, .string ⟨#[66, 65, 67, 75]⟩, .string ⟨#[127]⟩, .string ⟨#[84, 65, 66]⟩, .string ⟨#[9]⟩, .string ⟨#[69, 83, 67]⟩, .string ⟨#[27]⟩, .string ⟨#[85, 80]⟩, .string ⟨#[27, 91, 65]⟩, .string ⟨#[68, 79, 87, 78]⟩, .string ⟨#[27, 91, 66]⟩, .string ⟨#[82, 73, 71, 72, 84]⟩, .string ⟨#[27, 91, 67]⟩, .string ⟨#[76, 69, 70, 84]⟩, .string ⟨#[27, 91, 68]⟩, .string ⟨#[72, 79, 77, 69]⟩, .string ⟨#[27, 91, 72]⟩, .string ⟨#[69, 78, 68]⟩, .string ⟨#[27, 91, 70]⟩, .string ⟨#[68, 69, 76, 69, 84, 69]⟩, .string ⟨#[27, 91, 51, 126]⟩, .string ⟨#[77, 66, 65, 67, 75]⟩, .string ⟨#[27, 127]⟩, .string ⟨#[66, 65, 68]⟩, .string ⟨#[0]⟩]
def NamB (w : World) : Prop := ∃ ty fz, w.heap[0]? = some (.cells nmCells ty fz)
theorem NamB.later {w w' : World} (h : NamB w) (hb : Below w.heap.size w w') : NamB w' := by
  obtain ⟨ty, fz, h⟩ := h
  exact ⟨ty, fz, (hb.block _ (Array.getElem?_eq_some_iff.1 h).1).trans h⟩

theorem trod_len {H : Type} {enc : TypeId × Value → H} {P : Program} {w : World} {base : Nat} {sp : Nat → Bool} {held : Bool} {fuel : Nat} {t e : TypeId} {n : Nat} {cs : List Value} {x : DataW H × List MemPlace} (ht : P.underlying t = some (.array n e))
    (h : DataW.trod enc P w base sp held fuel t cs = some x) : cs.length = P.cellsOf t := by
  cases fuel with
  | zero => simp [DataW.trod] at h
  | succ fuel =>
    simp only [DataW.trod, ht] at h
    split at h
    · rename_i hl
      simpa using hl
    · cases h

theorem namB_of {l : List (String × DataW Unit)} {W : World} (g : laidMet Tryd.prog l W) (h1 : ("loop.example/g00600/impl.namedKeys", Rows.laid_loop_example_g00600_impl_namedKeys) ∈ l) : NamB W := by
  have hN := nams_of g h1
  obtain ⟨g, t, cs, fuel, p, hg, hty, hvar, hd⟩ := Lib.laidMet.reads g h1
  obtain rfl : 0 = g := Option.some.inj ((show Tryd.prog.globalNamed "loop.example/g00600/impl.namedKeys" = some 0 by kernel_rfl).symm.trans hg)
  obtain rfl : 44 = t := Option.some.inj ((show (Tryd.prog.globals[0]?).map (·.type) = some 44 by kernel_rfl).symm.trans hty)
  have hl := trod_len Tryd.underlying44 hd
  rw [show Tryd.prog.cellsOf 44 = 26 by kernel_rfl] at hl
  have hc : cs = nmCells := by
    apply Array.ext_getElem?
    intro j
    by_cases hj : j < 26
    · rw [← World.var?_cell hg hvar j]
      have : j = 0 ∨ j = 1 ∨ j = 2 ∨ j = 3 ∨ j = 4 ∨ j = 5 ∨ j = 6 ∨ j = 7 ∨ j = 8 ∨ j = 9 ∨ j = 10 ∨ j = 11 ∨ j = 12 ∨ j = 13 ∨ j = 14 ∨ j = 15 ∨ j = 16 ∨ j = 17 ∨ j = 18 ∨ j = 19 ∨ j = 20 ∨ j = 21 ∨ j = 22 ∨ j = 23 ∨ j = 24 ∨ j = 25 := by omega
      rcases this with rfl | rfl | rfl | rfl | rfl | rfl | rfl | rfl | rfl | rfl | rfl | rfl | rfl | rfl | rfl | rfl | rfl | rfl | rfl | rfl | rfl | rfl | rfl | rfl | rfl | rfl
      · exact (hN.1 0 (by omega)).trans rfl
      · exact (hN.2 0 (by omega)).trans rfl
      · exact (hN.1 1 (by omega)).trans rfl
      · exact (hN.2 1 (by omega)).trans rfl
      · exact (hN.1 2 (by omega)).trans rfl
      · exact (hN.2 2 (by omega)).trans rfl
      · exact (hN.1 3 (by omega)).trans rfl
      · exact (hN.2 3 (by omega)).trans rfl
      · exact (hN.1 4 (by omega)).trans rfl
      · exact (hN.2 4 (by omega)).trans rfl
      · exact (hN.1 5 (by omega)).trans rfl
      · exact (hN.2 5 (by omega)).trans rfl
      · exact (hN.1 6 (by omega)).trans rfl
      · exact (hN.2 6 (by omega)).trans rfl
      · exact (hN.1 7 (by omega)).trans rfl
      · exact (hN.2 7 (by omega)).trans rfl
      · exact (hN.1 8 (by omega)).trans rfl
      · exact (hN.2 8 (by omega)).trans rfl
      · exact (hN.1 9 (by omega)).trans rfl
      · exact (hN.2 9 (by omega)).trans rfl
      · exact (hN.1 10 (by omega)).trans rfl
      · exact (hN.2 10 (by omega)).trans rfl
      · exact (hN.1 11 (by omega)).trans rfl
      · exact (hN.2 11 (by omega)).trans rfl
      · exact (hN.1 12 (by omega)).trans rfl
      · exact (hN.2 12 (by omega)).trans rfl
    · rw [Array.getElem?_eq_none (by simpa using (show cs.toList.length ≤ j by omega)), Array.getElem?_eq_none (by show 26 ≤ j; omega)]
  subst hc
  simp only [World.var?, hg, Option.bind_some] at hvar
  split at hvar
  · rename_i cs' ty fz hh
    cases hvar
    exact ⟨ty, fz, hh⟩
  · cases hvar

end Go.Proofs.YtndlehogfedfaaaDoor
