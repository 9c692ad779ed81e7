/-
  keysByName: the map of names. By program (tkmgen.py).
-/
import Derived.Test.YtndlehogfedfaaaDoorMapK
import Derived.Test.YtndlehogfedfaaaDoorOwnM
import Derived.Test.YtndlehogfedfaaaDoorKtB
import Derived.Laws.Rows
namespace Go.Proofs.YtndlehogfedfaaaDoor
open Go.RowKit
set_option linter.unusedVariables false
set_option linter.unusedSimpArgs false
set_option maxRecDepth 100000

theorem makeMapK (w : World) : (Instr.makeMap 47 none).run Tryd.prog w = .ok (.map (some w.heap.size)) (w.alloc (.map #[] 0)) := by
  simp [Instr.makeMap, run_underlying Tryd.underlying47, Result.andThen]
  try rfl

theorem ixK0 (w : World) : (Instr.index 44 (.agg #[.string ⟨#[69, 78, 84, 69, 82]⟩, .string ⟨#[13]⟩, .string ⟨#[66, 65, 67, 75]⟩, .string ⟨#[127]⟩, .string ⟨#[84, 65, 66]⟩, .string ⟨#[9]⟩, .string ⟨#[69, 83, 67]⟩, .string ⟨#[27]⟩, .string ⟨#[85, 80]⟩, .string ⟨#[27, 91, 65]⟩, .string ⟨#[68, 79, 87, 78]⟩, .string ⟨#[27, 91, 66]⟩, .string ⟨#[82, 73, 71, 72, 84]⟩, .string ⟨#[27, 91, 67]⟩, .string ⟨#[76, 69, 70, 84]⟩, .string ⟨#[27, 91, 68]⟩, .string ⟨#[72, 79, 77, 69]⟩, .string ⟨#[27, 91, 72]⟩, .string ⟨#[69, 78, 68]⟩, .string ⟨#[27, 91, 70]⟩, .string ⟨#[68, 69, 76, 69, 84, 69]⟩, .string ⟨#[27, 91, 51, 126]⟩, .string ⟨#[77, 66, 65, 67, 75]⟩, .string ⟨#[27, 127]⟩, .string ⟨#[66, 65, 68]⟩, .string ⟨#[0]⟩]) (.int .i64 0)).run Tryd.prog w = .ok (.agg #[.string ⟨#[69, 78, 84, 69, 82]⟩, .string ⟨#[13]⟩]) w := by
  kernel_rfl
theorem ixK1 (w : World) : (Instr.index 44 (.agg #[.string ⟨#[69, 78, 84, 69, 82]⟩, .string ⟨#[13]⟩, .string ⟨#[66, 65, 67, 75]⟩, .string ⟨#[127]⟩, .string ⟨#[84, 65, 66]⟩, .string ⟨#[9]⟩, .string ⟨#[69, 83, 67]⟩, .string ⟨#[27]⟩, .string ⟨#[85, 80]⟩, .string ⟨#[27, 91, 65]⟩, .string ⟨#[68, 79, 87, 78]⟩, .string ⟨#[27, 91, 66]⟩, .string ⟨#[82, 73, 71, 72, 84]⟩, .string ⟨#[27, 91, 67]⟩, .string ⟨#[76, 69, 70, 84]⟩, .string ⟨#[27, 91, 68]⟩, .string ⟨#[72, 79, 77, 69]⟩, .string ⟨#[27, 91, 72]⟩, .string ⟨#[69, 78, 68]⟩, .string ⟨#[27, 91, 70]⟩, .string ⟨#[68, 69, 76, 69, 84, 69]⟩, .string ⟨#[27, 91, 51, 126]⟩, .string ⟨#[77, 66, 65, 67, 75]⟩, .string ⟨#[27, 127]⟩, .string ⟨#[66, 65, 68]⟩, .string ⟨#[0]⟩]) (.int .i64 1)).run Tryd.prog w = .ok (.agg #[.string ⟨#[66, 65, 67, 75]⟩, .string ⟨#[127]⟩]) w := by
  kernel_rfl
theorem ixK2 (w : World) : (Instr.index 44 (.agg #[.string ⟨#[69, 78, 84, 69, 82]⟩, .string ⟨#[13]⟩, .string ⟨#[66, 65, 67, 75]⟩, .string ⟨#[127]⟩, .string ⟨#[84, 65, 66]⟩, .string ⟨#[9]⟩, .string ⟨#[69, 83, 67]⟩, .string ⟨#[27]⟩, .string ⟨#[85, 80]⟩, .string ⟨#[27, 91, 65]⟩, .string ⟨#[68, 79, 87, 78]⟩, .string ⟨#[27, 91, 66]⟩, .string ⟨#[82, 73, 71, 72, 84]⟩, .string ⟨#[27, 91, 67]⟩, .string ⟨#[76, 69, 70, 84]⟩, .string ⟨#[27, 91, 68]⟩, .string ⟨#[72, 79, 77, 69]⟩, .string ⟨#[27, 91, 72]⟩, .string ⟨#[69, 78, 68]⟩, .string ⟨#[27, 91, 70]⟩, .string ⟨#[68, 69, 76, 69, 84, 69]⟩, .string ⟨#[27, 91, 51, 126]⟩, .string ⟨#[77, 66, 65, 67, 75]⟩, .string ⟨#[27, 127]⟩, .string ⟨#[66, 65, 68]⟩, .string ⟨#[0]⟩]) (.int .i64 2)).run Tryd.prog w = .ok (.agg #[.string ⟨#[84, 65, 66]⟩, .string ⟨#[9]⟩]) w := by
  kernel_rfl
theorem ixK3 (w : World) : (Instr.index 44 (.agg #[.string ⟨#[69, 78, 84, 69, 82]⟩, .string ⟨#[13]⟩, .string ⟨#[66, 65, 67, 75]⟩, .string ⟨#[127]⟩, .string ⟨#[84, 65, 66]⟩, .string ⟨#[9]⟩, .string ⟨#[69, 83, 67]⟩, .string ⟨#[27]⟩, .string ⟨#[85, 80]⟩, .string ⟨#[27, 91, 65]⟩, .string ⟨#[68, 79, 87, 78]⟩, .string ⟨#[27, 91, 66]⟩, .string ⟨#[82, 73, 71, 72, 84]⟩, .string ⟨#[27, 91, 67]⟩, .string ⟨#[76, 69, 70, 84]⟩, .string ⟨#[27, 91, 68]⟩, .string ⟨#[72, 79, 77, 69]⟩, .string ⟨#[27, 91, 72]⟩, .string ⟨#[69, 78, 68]⟩, .string ⟨#[27, 91, 70]⟩, .string ⟨#[68, 69, 76, 69, 84, 69]⟩, .string ⟨#[27, 91, 51, 126]⟩, .string ⟨#[77, 66, 65, 67, 75]⟩, .string ⟨#[27, 127]⟩, .string ⟨#[66, 65, 68]⟩, .string ⟨#[0]⟩]) (.int .i64 3)).run Tryd.prog w = .ok (.agg #[.string ⟨#[69, 83, 67]⟩, .string ⟨#[27]⟩]) w := by
  kernel_rfl
theorem ixK4 (w : World) : (Instr.index 44 (.agg #[.string ⟨#[69, 78, 84, 69, 82]⟩, .string ⟨#[13]⟩, .string ⟨#[66, 65, 67, 75]⟩, .string ⟨#[127]⟩, .string ⟨#[84, 65, 66]⟩, .string ⟨#[9]⟩, .string ⟨#[69, 83, 67]⟩, .string ⟨#[27]⟩, .string ⟨#[85, 80]⟩, .string ⟨#[27, 91, 65]⟩, .string ⟨#[68, 79, 87, 78]⟩, .string ⟨#[27, 91, 66]⟩, .string ⟨#[82, 73, 71, 72, 84]⟩, .string ⟨#[27, 91, 67]⟩, .string ⟨#[76, 69, 70, 84]⟩, .string ⟨#[27, 91, 68]⟩, .string ⟨#[72, 79, 77, 69]⟩, .string ⟨#[27, 91, 72]⟩, .string ⟨#[69, 78, 68]⟩, .string ⟨#[27, 91, 70]⟩, .string ⟨#[68, 69, 76, 69, 84, 69]⟩, .string ⟨#[27, 91, 51, 126]⟩, .string ⟨#[77, 66, 65, 67, 75]⟩, .string ⟨#[27, 127]⟩, .string ⟨#[66, 65, 68]⟩, .string ⟨#[0]⟩]) (.int .i64 4)).run Tryd.prog w = .ok (.agg #[.string ⟨#[85, 80]⟩, .string ⟨#[27, 91, 65]⟩]) w := by
  kernel_rfl
theorem ixK5 (w : World) : (Instr.index 44 (.agg #[.string ⟨#[69, 78, 84, 69, 82]⟩, .string ⟨#[13]⟩, .string ⟨#[66, 65, 67, 75]⟩, .string ⟨#[127]⟩, .string ⟨#[84, 65, 66]⟩, .string ⟨#[9]⟩, .string ⟨#[69, 83, 67]⟩, .string ⟨#[27]⟩, .string ⟨#[85, 80]⟩, .string ⟨#[27, 91, 65]⟩, .string ⟨#[68, 79, 87, 78]⟩, .string ⟨#[27, 91, 66]⟩, .string ⟨#[82, 73, 71, 72, 84]⟩, .string ⟨#[27, 91, 67]⟩, .string ⟨#[76, 69, 70, 84]⟩, .string ⟨#[27, 91, 68]⟩, .string ⟨#[72, 79, 77, 69]⟩, .string ⟨#[27, 91, 72]⟩, .string ⟨#[69, 78, 68]⟩, .string ⟨#[27, 91, 70]⟩, .string ⟨#[68, 69, 76, 69, 84, 69]⟩, .string ⟨#[27, 91, 51, 126]⟩, .string ⟨#[77, 66, 65, 67, 75]⟩, .string ⟨#[27, 127]⟩, .string ⟨#[66, 65, 68]⟩, .string ⟨#[0]⟩]) (.int .i64 5)).run Tryd.prog w = .ok (.agg #[.string ⟨#[68, 79, 87, 78]⟩, .string ⟨#[27, 91, 66]⟩]) w := by
  kernel_rfl
theorem ixK6 (w : World) : (Instr.index 44 (.agg #[.string ⟨#[69, 78, 84, 69, 82]⟩, .string ⟨#[13]⟩, .string ⟨#[66, 65, 67, 75]⟩, .string ⟨#[127]⟩, .string ⟨#[84, 65, 66]⟩, .string ⟨#[9]⟩, .string ⟨#[69, 83, 67]⟩, .string ⟨#[27]⟩, .string ⟨#[85, 80]⟩, .string ⟨#[27, 91, 65]⟩, .string ⟨#[68, 79, 87, 78]⟩, .string ⟨#[27, 91, 66]⟩, .string ⟨#[82, 73, 71, 72, 84]⟩, .string ⟨#[27, 91, 67]⟩, .string ⟨#[76, 69, 70, 84]⟩, .string ⟨#[27, 91, 68]⟩, .string ⟨#[72, 79, 77, 69]⟩, .string ⟨#[27, 91, 72]⟩, .string ⟨#[69, 78, 68]⟩, .string ⟨#[27, 91, 70]⟩, .string ⟨#[68, 69, 76, 69, 84, 69]⟩, .string ⟨#[27, 91, 51, 126]⟩, .string ⟨#[77, 66, 65, 67, 75]⟩, .string ⟨#[27, 127]⟩, .string ⟨#[66, 65, 68]⟩, .string ⟨#[0]⟩]) (.int .i64 6)).run Tryd.prog w = .ok (.agg #[.string ⟨#[82, 73, 71, 72, 84]⟩, .string ⟨#[27, 91, 67]⟩]) w := by
  kernel_rfl
theorem ixK7 (w : World) : (Instr.index 44 (.agg #[.string ⟨#[69, 78, 84, 69, 82]⟩, .string ⟨#[13]⟩, .string ⟨#[66, 65, 67, 75]⟩, .string ⟨#[127]⟩, .string ⟨#[84, 65, 66]⟩, .string ⟨#[9]⟩, .string ⟨#[69, 83, 67]⟩, .string ⟨#[27]⟩, .string ⟨#[85, 80]⟩, .string ⟨#[27, 91, 65]⟩, .string ⟨#[68, 79, 87, 78]⟩, .string ⟨#[27, 91, 66]⟩, .string ⟨#[82, 73, 71, 72, 84]⟩, .string ⟨#[27, 91, 67]⟩, .string ⟨#[76, 69, 70, 84]⟩, .string ⟨#[27, 91, 68]⟩, .string ⟨#[72, 79, 77, 69]⟩, .string ⟨#[27, 91, 72]⟩, .string ⟨#[69, 78, 68]⟩, .string ⟨#[27, 91, 70]⟩, .string ⟨#[68, 69, 76, 69, 84, 69]⟩, .string ⟨#[27, 91, 51, 126]⟩, .string ⟨#[77, 66, 65, 67, 75]⟩, .string ⟨#[27, 127]⟩, .string ⟨#[66, 65, 68]⟩, .string ⟨#[0]⟩]) (.int .i64 7)).run Tryd.prog w = .ok (.agg #[.string ⟨#[76, 69, 70, 84]⟩, .string ⟨#[27, 91, 68]⟩]) w := by
  kernel_rfl
theorem ixK8 (w : World) : (Instr.index 44 (.agg #[.string ⟨#[69, 78, 84, 69, 82]⟩, .string ⟨#[13]⟩, .string ⟨#[66, 65, 67, 75]⟩, .string ⟨#[127]⟩, .string ⟨#[84, 65, 66]⟩, .string ⟨#[9]⟩, .string ⟨#[69, 83, 67]⟩, .string ⟨#[27]⟩, .string ⟨#[85, 80]⟩, .string ⟨#[27, 91, 65]⟩, .string ⟨#[68, 79, 87, 78]⟩, .string ⟨#[27, 91, 66]⟩, .string ⟨#[82, 73, 71, 72, 84]⟩, .string ⟨#[27, 91, 67]⟩, .string ⟨#[76, 69, 70, 84]⟩, .string ⟨#[27, 91, 68]⟩, .string ⟨#[72, 79, 77, 69]⟩, .string ⟨#[27, 91, 72]⟩, .string ⟨#[69, 78, 68]⟩, .string ⟨#[27, 91, 70]⟩, .string ⟨#[68, 69, 76, 69, 84, 69]⟩, .string ⟨#[27, 91, 51, 126]⟩, .string ⟨#[77, 66, 65, 67, 75]⟩, .string ⟨#[27, 127]⟩, .string ⟨#[66, 65, 68]⟩, .string ⟨#[0]⟩]) (.int .i64 8)).run Tryd.prog w = .ok (.agg #[.string ⟨#[72, 79, 77, 69]⟩, .string ⟨#[27, 91, 72]⟩]) w := by
  kernel_rfl
theorem ixK9 (w : World) : (Instr.index 44 (.agg #[.string ⟨#[69, 78, 84, 69, 82]⟩, .string ⟨#[13]⟩, .string ⟨#[66, 65, 67, 75]⟩, .string ⟨#[127]⟩, .string ⟨#[84, 65, 66]⟩, .string ⟨#[9]⟩, .string ⟨#[69, 83, 67]⟩, .string ⟨#[27]⟩, .string ⟨#[85, 80]⟩, .string ⟨#[27, 91, 65]⟩, .string ⟨#[68, 79, 87, 78]⟩, .string ⟨#[27, 91, 66]⟩, .string ⟨#[82, 73, 71, 72, 84]⟩, .string ⟨#[27, 91, 67]⟩, .string ⟨#[76, 69, 70, 84]⟩, .string ⟨#[27, 91, 68]⟩, .string ⟨#[72, 79, 77, 69]⟩, .string ⟨#[27, 91, 72]⟩, .string ⟨#[69, 78, 68]⟩, .string ⟨#[27, 91, 70]⟩, .string ⟨#[68, 69, 76, 69, 84, 69]⟩, .string ⟨#[27, 91, 51, 126]⟩, .string ⟨#[77, 66, 65, 67, 75]⟩, .string ⟨#[27, 127]⟩, .string ⟨#[66, 65, 68]⟩, .string ⟨#[0]⟩]) (.int .i64 9)).run Tryd.prog w = .ok (.agg #[.string ⟨#[69, 78, 68]⟩, .string ⟨#[27, 91, 70]⟩]) w := by
  kernel_rfl
theorem ixK10 (w : World) : (Instr.index 44 (.agg #[.string ⟨#[69, 78, 84, 69, 82]⟩, .string ⟨#[13]⟩, .string ⟨#[66, 65, 67, 75]⟩, .string ⟨#[127]⟩, .string ⟨#[84, 65, 66]⟩, .string ⟨#[9]⟩, .string ⟨#[69, 83, 67]⟩, .string ⟨#[27]⟩, .string ⟨#[85, 80]⟩, .string ⟨#[27, 91, 65]⟩, .string ⟨#[68, 79, 87, 78]⟩, .string ⟨#[27, 91, 66]⟩, .string ⟨#[82, 73, 71, 72, 84]⟩, .string ⟨#[27, 91, 67]⟩, .string ⟨#[76, 69, 70, 84]⟩, .string ⟨#[27, 91, 68]⟩, .string ⟨#[72, 79, 77, 69]⟩, .string ⟨#[27, 91, 72]⟩, .string ⟨#[69, 78, 68]⟩, .string ⟨#[27, 91, 70]⟩, .string ⟨#[68, 69, 76, 69, 84, 69]⟩, .string ⟨#[27, 91, 51, 126]⟩, .string ⟨#[77, 66, 65, 67, 75]⟩, .string ⟨#[27, 127]⟩, .string ⟨#[66, 65, 68]⟩, .string ⟨#[0]⟩]) (.int .i64 10)).run Tryd.prog w = .ok (.agg #[.string ⟨#[68, 69, 76, 69, 84, 69]⟩, .string ⟨#[27, 91, 51, 126]⟩]) w := by
  kernel_rfl
theorem ixK11 (w : World) : (Instr.index 44 (.agg #[.string ⟨#[69, 78, 84, 69, 82]⟩, .string ⟨#[13]⟩, .string ⟨#[66, 65, 67, 75]⟩, .string ⟨#[127]⟩, .string ⟨#[84, 65, 66]⟩, .string ⟨#[9]⟩, .string ⟨#[69, 83, 67]⟩, .string ⟨#[27]⟩, .string ⟨#[85, 80]⟩, .string ⟨#[27, 91, 65]⟩, .string ⟨#[68, 79, 87, 78]⟩, .string ⟨#[27, 91, 66]⟩, .string ⟨#[82, 73, 71, 72, 84]⟩, .string ⟨#[27, 91, 67]⟩, .string ⟨#[76, 69, 70, 84]⟩, .string ⟨#[27, 91, 68]⟩, .string ⟨#[72, 79, 77, 69]⟩, .string ⟨#[27, 91, 72]⟩, .string ⟨#[69, 78, 68]⟩, .string ⟨#[27, 91, 70]⟩, .string ⟨#[68, 69, 76, 69, 84, 69]⟩, .string ⟨#[27, 91, 51, 126]⟩, .string ⟨#[77, 66, 65, 67, 75]⟩, .string ⟨#[27, 127]⟩, .string ⟨#[66, 65, 68]⟩, .string ⟨#[0]⟩]) (.int .i64 11)).run Tryd.prog w = .ok (.agg #[.string ⟨#[77, 66, 65, 67, 75]⟩, .string ⟨#[27, 127]⟩]) w := by
  kernel_rfl
theorem ixK12 (w : World) : (Instr.index 44 (.agg #[.string ⟨#[69, 78, 84, 69, 82]⟩, .string ⟨#[13]⟩, .string ⟨#[66, 65, 67, 75]⟩, .string ⟨#[127]⟩, .string ⟨#[84, 65, 66]⟩, .string ⟨#[9]⟩, .string ⟨#[69, 83, 67]⟩, .string ⟨#[27]⟩, .string ⟨#[85, 80]⟩, .string ⟨#[27, 91, 65]⟩, .string ⟨#[68, 79, 87, 78]⟩, .string ⟨#[27, 91, 66]⟩, .string ⟨#[82, 73, 71, 72, 84]⟩, .string ⟨#[27, 91, 67]⟩, .string ⟨#[76, 69, 70, 84]⟩, .string ⟨#[27, 91, 68]⟩, .string ⟨#[72, 79, 77, 69]⟩, .string ⟨#[27, 91, 72]⟩, .string ⟨#[69, 78, 68]⟩, .string ⟨#[27, 91, 70]⟩, .string ⟨#[68, 69, 76, 69, 84, 69]⟩, .string ⟨#[27, 91, 51, 126]⟩, .string ⟨#[77, 66, 65, 67, 75]⟩, .string ⟨#[27, 127]⟩, .string ⟨#[66, 65, 68]⟩, .string ⟨#[0]⟩]) (.int .i64 12)).run Tryd.prog w = .ok (.agg #[.string ⟨#[66, 65, 68]⟩, .string ⟨#[0]⟩]) w := by
  kernel_rfl

set_option maxHeartbeats 8000000 in
theorem byName_any (w : World) (hN : NamB w) :
    Calls Tryd.prog 23 #[] w fun e w' => e = .returned (.map (some w.heap.size)) ∧ MapK w' w.heap.size 14 (namesK 13) ∧ Below w.heap.size w w' := by
  have hmm := makeMapK
  have HM0 : Hid (MapK (w.alloc (.map #[] 0)) w.heap.size 0 []) := MapK.made w
  have HN : Hid (NamB w) := hN
  obtain ⟨b, hb0⟩ : ∃ b, b = w.heap.size := ⟨_, rfl⟩
  have HB : Hid (b = w.heap.size) := hb0
  have hbw : w.heap.size ≤ b := by omega
  rw [← hb0] at HM0 ⊢
  clear hb0 hN
  go_enter Tryd.func23, Tryd.ntmps23
  go_wp2_with (refine wpK_put _ rfl _ _ _ (.inr rfl) b 0 [] (by show _ = _; rw [HB.out]; rfl) HM0.out (by decide) ⟨#[83, 80, 67]⟩ (1, 32) rfl rfl (by decide) ?_)
  intro w1 hM1 hg1
  have h1 : Below w.heap.size w w1 := ((Below.refl _ _).alloc (Nat.le_refl _) _).grown hg1 (by simp) (fun y h => by cases h; exact hbw)
  have H1 : Hid (MapK w1 b 1 (namesK 0) ∧ Below w.heap.size w w1) := ⟨hM1, h1⟩
  have hN1 := HN.out.later h1
  obtain ⟨tt, fz, hrow⟩ := hN1
  obtain ⟨CS, hCS⟩ : ∃ CS : Array Value, CS = nmCells := ⟨_, rfl⟩
  have hz : CS.size = 26 := by rw [hCS]; rfl
  have HX0 : Hid (∀ w : World, (Instr.index 44 (.agg CS) (.int .i64 0)).run Tryd.prog w = .ok (.agg #[.string ⟨#[69, 78, 84, 69, 82]⟩, .string ⟨#[13]⟩]) w) := by rw [hCS]; exact ixK0
  have HX1 : Hid (∀ w : World, (Instr.index 44 (.agg CS) (.int .i64 1)).run Tryd.prog w = .ok (.agg #[.string ⟨#[66, 65, 67, 75]⟩, .string ⟨#[127]⟩]) w) := by rw [hCS]; exact ixK1
  have HX2 : Hid (∀ w : World, (Instr.index 44 (.agg CS) (.int .i64 2)).run Tryd.prog w = .ok (.agg #[.string ⟨#[84, 65, 66]⟩, .string ⟨#[9]⟩]) w) := by rw [hCS]; exact ixK2
  have HX3 : Hid (∀ w : World, (Instr.index 44 (.agg CS) (.int .i64 3)).run Tryd.prog w = .ok (.agg #[.string ⟨#[69, 83, 67]⟩, .string ⟨#[27]⟩]) w) := by rw [hCS]; exact ixK3
  have HX4 : Hid (∀ w : World, (Instr.index 44 (.agg CS) (.int .i64 4)).run Tryd.prog w = .ok (.agg #[.string ⟨#[85, 80]⟩, .string ⟨#[27, 91, 65]⟩]) w) := by rw [hCS]; exact ixK4
  have HX5 : Hid (∀ w : World, (Instr.index 44 (.agg CS) (.int .i64 5)).run Tryd.prog w = .ok (.agg #[.string ⟨#[68, 79, 87, 78]⟩, .string ⟨#[27, 91, 66]⟩]) w) := by rw [hCS]; exact ixK5
  have HX6 : Hid (∀ w : World, (Instr.index 44 (.agg CS) (.int .i64 6)).run Tryd.prog w = .ok (.agg #[.string ⟨#[82, 73, 71, 72, 84]⟩, .string ⟨#[27, 91, 67]⟩]) w) := by rw [hCS]; exact ixK6
  have HX7 : Hid (∀ w : World, (Instr.index 44 (.agg CS) (.int .i64 7)).run Tryd.prog w = .ok (.agg #[.string ⟨#[76, 69, 70, 84]⟩, .string ⟨#[27, 91, 68]⟩]) w) := by rw [hCS]; exact ixK7
  have HX8 : Hid (∀ w : World, (Instr.index 44 (.agg CS) (.int .i64 8)).run Tryd.prog w = .ok (.agg #[.string ⟨#[72, 79, 77, 69]⟩, .string ⟨#[27, 91, 72]⟩]) w) := by rw [hCS]; exact ixK8
  have HX9 : Hid (∀ w : World, (Instr.index 44 (.agg CS) (.int .i64 9)).run Tryd.prog w = .ok (.agg #[.string ⟨#[69, 78, 68]⟩, .string ⟨#[27, 91, 70]⟩]) w) := by rw [hCS]; exact ixK9
  have HX10 : Hid (∀ w : World, (Instr.index 44 (.agg CS) (.int .i64 10)).run Tryd.prog w = .ok (.agg #[.string ⟨#[68, 69, 76, 69, 84, 69]⟩, .string ⟨#[27, 91, 51, 126]⟩]) w) := by rw [hCS]; exact ixK10
  have HX11 : Hid (∀ w : World, (Instr.index 44 (.agg CS) (.int .i64 11)).run Tryd.prog w = .ok (.agg #[.string ⟨#[77, 66, 65, 67, 75]⟩, .string ⟨#[27, 127]⟩]) w) := by rw [hCS]; exact ixK11
  have HX12 : Hid (∀ w : World, (Instr.index 44 (.agg CS) (.int .i64 12)).run Tryd.prog w = .ok (.agg #[.string ⟨#[66, 65, 68]⟩, .string ⟨#[0]⟩]) w) := by rw [hCS]; exact ixK12
  rw [← hCS] at hrow
  clear hM1 hg1 h1 hmm hCS
  go_wp2_with (refine wpList_load_row rfl _ _ rfl 0 rfl _ _ _ _ hrow Tryd.underlying44 rfl ((by kernel_rfl : (Tryd.prog.info? 44).map (·.size) = some 26).trans (congrArg some hz.symm)) ?_)
  clear hrow hz
  go_wp2
  rw [← HB.out]
  go_loopw [8] (fun i wr => ∃ k : Nat, k ≤ 13 ∧ i = .int .i64 k ∧ Hid (MapK wr b (k + 1) (namesK k) ∧ Below w.heap.size w wr)) (fun i _ => 13 - (intOf i).toNat)
  case atStart => exact ⟨0, by omega, rfl, H1.out⟩
  case round =>
    obtain ⟨k, hk, rfl, HI⟩ := hrel
    have hbel := HI.out.2
    have hbs := hbel.size
    have hblt := HI.out.1.lt
    have hks : k = 0 ∨ k = 1 ∨ k = 2 ∨ k = 3 ∨ k = 4 ∨ k = 5 ∨ k = 6 ∨ k = 7 ∨ k = 8 ∨ k = 9 ∨ k = 10 ∨ k = 11 ∨ k = 12 ∨ k = 13 := by omega
    rcases hks with rfl | rfl | rfl | rfl | rfl | rfl | rfl | rfl | rfl | rfl | rfl | rfl | rfl | rfl
    · have hM : Hid (MapK wr b 1 (namesK 0)) := HI.out.1
      have hix := HX0.out wr
      go_wp2_with (first | (at_mapUpdate; refine wpK_put _ rfl _ _ _ (.inl rfl) b 1 (namesK 0) rfl (hM.out.alloc _) (by decide) ⟨#[69, 78, 84, 69, 82]⟩ (4, 0) rfl rfl (by decide) ?_) | go_in)
      intro w2 hM2 hg2
      clear hix
      have HF : Hid (MapK w2 b (1 + 1) (namesK 1) ∧ Below w.heap.size w w2) := ⟨hM2, (hbel.alloc hbs _).grown hg2 (by simp; omega) (fun y h => by cases h; exact hbw)⟩
      clear hM2 hg2 hM
      go_wp2
      go_roundw
      case rel => exact ⟨1, by omega, rfl, HF.out⟩
      case measure => simp [intOf]
    · have hM : Hid (MapK wr b 2 (namesK 1)) := HI.out.1
      have hix := HX1.out wr
      go_wp2_with (first | (at_mapUpdate; refine wpK_put _ rfl _ _ _ (.inl rfl) b 2 (namesK 1) rfl (hM.out.alloc _) (by decide) ⟨#[66, 65, 67, 75]⟩ (5, 0) rfl rfl (by decide) ?_) | go_in)
      intro w2 hM2 hg2
      clear hix
      have HF : Hid (MapK w2 b (2 + 1) (namesK 2) ∧ Below w.heap.size w w2) := ⟨hM2, (hbel.alloc hbs _).grown hg2 (by simp; omega) (fun y h => by cases h; exact hbw)⟩
      clear hM2 hg2 hM
      go_wp2
      go_roundw
      case rel => exact ⟨2, by omega, rfl, HF.out⟩
      case measure => simp [intOf]
    · have hM : Hid (MapK wr b 3 (namesK 2)) := HI.out.1
      have hix := HX2.out wr
      go_wp2_with (first | (at_mapUpdate; refine wpK_put _ rfl _ _ _ (.inl rfl) b 3 (namesK 2) rfl (hM.out.alloc _) (by decide) ⟨#[84, 65, 66]⟩ (6, 0) rfl rfl (by decide) ?_) | go_in)
      intro w2 hM2 hg2
      clear hix
      have HF : Hid (MapK w2 b (3 + 1) (namesK 3) ∧ Below w.heap.size w w2) := ⟨hM2, (hbel.alloc hbs _).grown hg2 (by simp; omega) (fun y h => by cases h; exact hbw)⟩
      clear hM2 hg2 hM
      go_wp2
      go_roundw
      case rel => exact ⟨3, by omega, rfl, HF.out⟩
      case measure => simp [intOf]
    · have hM : Hid (MapK wr b 4 (namesK 3)) := HI.out.1
      have hix := HX3.out wr
      go_wp2_with (first | (at_mapUpdate; refine wpK_put _ rfl _ _ _ (.inl rfl) b 4 (namesK 3) rfl (hM.out.alloc _) (by decide) ⟨#[69, 83, 67]⟩ (7, 0) rfl rfl (by decide) ?_) | go_in)
      intro w2 hM2 hg2
      clear hix
      have HF : Hid (MapK w2 b (4 + 1) (namesK 4) ∧ Below w.heap.size w w2) := ⟨hM2, (hbel.alloc hbs _).grown hg2 (by simp; omega) (fun y h => by cases h; exact hbw)⟩
      clear hM2 hg2 hM
      go_wp2
      go_roundw
      case rel => exact ⟨4, by omega, rfl, HF.out⟩
      case measure => simp [intOf]
    · have hM : Hid (MapK wr b 5 (namesK 4)) := HI.out.1
      have hix := HX4.out wr
      go_wp2_with (first | (at_mapUpdate; refine wpK_put _ rfl _ _ _ (.inl rfl) b 5 (namesK 4) rfl (hM.out.alloc _) (by decide) ⟨#[85, 80]⟩ (8, 0) rfl rfl (by decide) ?_) | go_in)
      intro w2 hM2 hg2
      clear hix
      have HF : Hid (MapK w2 b (5 + 1) (namesK 5) ∧ Below w.heap.size w w2) := ⟨hM2, (hbel.alloc hbs _).grown hg2 (by simp; omega) (fun y h => by cases h; exact hbw)⟩
      clear hM2 hg2 hM
      go_wp2
      go_roundw
      case rel => exact ⟨5, by omega, rfl, HF.out⟩
      case measure => simp [intOf]
    · have hM : Hid (MapK wr b 6 (namesK 5)) := HI.out.1
      have hix := HX5.out wr
      go_wp2_with (first | (at_mapUpdate; refine wpK_put _ rfl _ _ _ (.inl rfl) b 6 (namesK 5) rfl (hM.out.alloc _) (by decide) ⟨#[68, 79, 87, 78]⟩ (9, 0) rfl rfl (by decide) ?_) | go_in)
      intro w2 hM2 hg2
      clear hix
      have HF : Hid (MapK w2 b (6 + 1) (namesK 6) ∧ Below w.heap.size w w2) := ⟨hM2, (hbel.alloc hbs _).grown hg2 (by simp; omega) (fun y h => by cases h; exact hbw)⟩
      clear hM2 hg2 hM
      go_wp2
      go_roundw
      case rel => exact ⟨6, by omega, rfl, HF.out⟩
      case measure => simp [intOf]
    · have hM : Hid (MapK wr b 7 (namesK 6)) := HI.out.1
      have hix := HX6.out wr
      go_wp2_with (first | (at_mapUpdate; refine wpK_put _ rfl _ _ _ (.inl rfl) b 7 (namesK 6) rfl (hM.out.alloc _) (by decide) ⟨#[82, 73, 71, 72, 84]⟩ (10, 0) rfl rfl (by decide) ?_) | go_in)
      intro w2 hM2 hg2
      clear hix
      have HF : Hid (MapK w2 b (7 + 1) (namesK 7) ∧ Below w.heap.size w w2) := ⟨hM2, (hbel.alloc hbs _).grown hg2 (by simp; omega) (fun y h => by cases h; exact hbw)⟩
      clear hM2 hg2 hM
      go_wp2
      go_roundw
      case rel => exact ⟨7, by omega, rfl, HF.out⟩
      case measure => simp [intOf]
    · have hM : Hid (MapK wr b 8 (namesK 7)) := HI.out.1
      have hix := HX7.out wr
      go_wp2_with (first | (at_mapUpdate; refine wpK_put _ rfl _ _ _ (.inl rfl) b 8 (namesK 7) rfl (hM.out.alloc _) (by decide) ⟨#[76, 69, 70, 84]⟩ (11, 0) rfl rfl (by decide) ?_) | go_in)
      intro w2 hM2 hg2
      clear hix
      have HF : Hid (MapK w2 b (8 + 1) (namesK 8) ∧ Below w.heap.size w w2) := ⟨hM2, (hbel.alloc hbs _).grown hg2 (by simp; omega) (fun y h => by cases h; exact hbw)⟩
      clear hM2 hg2 hM
      go_wp2
      go_roundw
      case rel => exact ⟨8, by omega, rfl, HF.out⟩
      case measure => simp [intOf]
    · have hM : Hid (MapK wr b 9 (namesK 8)) := HI.out.1
      have hix := HX8.out wr
      go_wp2_with (first | (at_mapUpdate; refine wpK_put _ rfl _ _ _ (.inl rfl) b 9 (namesK 8) rfl (hM.out.alloc _) (by decide) ⟨#[72, 79, 77, 69]⟩ (12, 0) rfl rfl (by decide) ?_) | go_in)
      intro w2 hM2 hg2
      clear hix
      have HF : Hid (MapK w2 b (9 + 1) (namesK 9) ∧ Below w.heap.size w w2) := ⟨hM2, (hbel.alloc hbs _).grown hg2 (by simp; omega) (fun y h => by cases h; exact hbw)⟩
      clear hM2 hg2 hM
      go_wp2
      go_roundw
      case rel => exact ⟨9, by omega, rfl, HF.out⟩
      case measure => simp [intOf]
    · have hM : Hid (MapK wr b 10 (namesK 9)) := HI.out.1
      have hix := HX9.out wr
      go_wp2_with (first | (at_mapUpdate; refine wpK_put _ rfl _ _ _ (.inl rfl) b 10 (namesK 9) rfl (hM.out.alloc _) (by decide) ⟨#[69, 78, 68]⟩ (13, 0) rfl rfl (by decide) ?_) | go_in)
      intro w2 hM2 hg2
      clear hix
      have HF : Hid (MapK w2 b (10 + 1) (namesK 10) ∧ Below w.heap.size w w2) := ⟨hM2, (hbel.alloc hbs _).grown hg2 (by simp; omega) (fun y h => by cases h; exact hbw)⟩
      clear hM2 hg2 hM
      go_wp2
      go_roundw
      case rel => exact ⟨10, by omega, rfl, HF.out⟩
      case measure => simp [intOf]
    · have hM : Hid (MapK wr b 11 (namesK 10)) := HI.out.1
      have hix := HX10.out wr
      go_wp2_with (first | (at_mapUpdate; refine wpK_put _ rfl _ _ _ (.inl rfl) b 11 (namesK 10) rfl (hM.out.alloc _) (by decide) ⟨#[68, 69, 76, 69, 84, 69]⟩ (14, 0) rfl rfl (by decide) ?_) | go_in)
      intro w2 hM2 hg2
      clear hix
      have HF : Hid (MapK w2 b (11 + 1) (namesK 11) ∧ Below w.heap.size w w2) := ⟨hM2, (hbel.alloc hbs _).grown hg2 (by simp; omega) (fun y h => by cases h; exact hbw)⟩
      clear hM2 hg2 hM
      go_wp2
      go_roundw
      case rel => exact ⟨11, by omega, rfl, HF.out⟩
      case measure => simp [intOf]
    · have hM : Hid (MapK wr b 12 (namesK 11)) := HI.out.1
      have hix := HX11.out wr
      go_wp2_with (first | (at_mapUpdate; refine wpK_put _ rfl _ _ _ (.inl rfl) b 12 (namesK 11) rfl (hM.out.alloc _) (by decide) ⟨#[77, 66, 65, 67, 75]⟩ (15, 0) rfl rfl (by decide) ?_) | go_in)
      intro w2 hM2 hg2
      clear hix
      have HF : Hid (MapK w2 b (12 + 1) (namesK 12) ∧ Below w.heap.size w w2) := ⟨hM2, (hbel.alloc hbs _).grown hg2 (by simp; omega) (fun y h => by cases h; exact hbw)⟩
      clear hM2 hg2 hM
      go_wp2
      go_roundw
      case rel => exact ⟨12, by omega, rfl, HF.out⟩
      case measure => simp [intOf]
    · have hM : Hid (MapK wr b 13 (namesK 12)) := HI.out.1
      have hix := HX12.out wr
      go_wp2_with (first | (at_mapUpdate; refine wpK_put _ rfl _ _ _ (.inl rfl) b 13 (namesK 12) rfl (hM.out.alloc _) (by decide) ⟨#[66, 65, 68]⟩ (16, 0) rfl rfl (by decide) ?_) | go_in)
      intro w2 hM2 hg2
      clear hix
      have HF : Hid (MapK w2 b (13 + 1) (namesK 13) ∧ Below w.heap.size w w2) := ⟨hM2, (hbel.alloc hbs _).grown hg2 (by simp; omega) (fun y h => by cases h; exact hbw)⟩
      clear hM2 hg2 hM
      go_wp2
      go_roundw
      case rel => exact ⟨13, by omega, rfl, HF.out⟩
      case measure => simp [intOf]
    · have HF := HI
      go_wp2
      go_ret
      exact ⟨rfl, HF.out.1, by rw [HB.out]; exact HF.out.2⟩

end Go.Proofs.YtndlehogfedfaaaDoor
