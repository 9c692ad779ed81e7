/-
  DiskNew, the model's and the program's; the walk of the law FnExactDiskNew.
-/
import Derived.Test.YtdmgknmlgipnpaaMkDisk
namespace Go.Proofs.Ytdmgknmlgipnpaa
open Go.RowKit
set_option linter.unusedVariables false

/-- The disk of DiskNew, and its word. -/
def newR (room : Int) : Int := if room < 0 ∨ 60000 < room then 0 else room
def newF (room : Int) : Int := if room < 0 ∨ 60000 < room then 0 else -1
def newN (room : Int) : Int := if room < 0 ∨ 60000 < room then 0 else 1
def newB (room : Int) : Bool := if room < 0 ∨ 60000 < room then false else true
def newD (room : Int) : shDisk.D := (newR room, newF room, newN room, [], [], [], ())
def newC (room : Int) : List Value := [.int .i64 (newR room), .int .i64 (newF room), .int .i64 (newN room), .slice none 0 0, .slice none 0 0, .slice none 0 0]

theorem own_new (room : Int) (w : World) (B : Nat) : Own shDisk w B (newC room) (newD room) [] :=
  own_Disk (d := newD room) (F3 := []) (F4 := []) (F5 := []) (.inl ⟨rfl, rfl, rfl⟩) (.inl ⟨rfl, rfl, rfl⟩) (.inl ⟨rfl, rfl, rfl⟩)

theorem specNew_any (room : Int) (w : World) :
    Calls Try.prog 14 #[.int .i64 room] w fun e w' => e = .returned (.tuple #[.agg (newC room).toArray, .bool (newB room)]) ∧ Below w.heap.size w w' := by
  unfold newC newB newR newF newN
  by_cases h1 : room < 0
  · simp only [h1, true_or, if_true]
    go_enter Try.func14, Try.ntmps14
    go_wp2
    go_returns
    exact ⟨rfl, (Below.refl _ _).alloc (Nat.le_refl _) _⟩
  · by_cases h2 : 60000 < room
    · simp only [h2, or_true, if_true]
      go_enter Try.func14, Try.ntmps14
      go_wp2
      go_returns
      exact ⟨rfl, (Below.refl _ _).alloc (Nat.le_refl _) _⟩
    · simp only [h1, h2, or_false, if_false]
      go_enter Try.func14, Try.ntmps14
      go_wp2
      go_returns
      exact ⟨rfl, (Below.refl _ _).alloc (Nat.le_refl _) _⟩

theorem implNew_any (room : Int) (w : World) :
    Calls Try.prog 16 #[.int .i64 room] w fun e w' => e = .returned (.tuple #[.agg (newC room).toArray, .bool (newB room)]) ∧ Below w.heap.size w w' := by
  unfold newC newB newR newF newN
  by_cases h1 : room < 0
  · have h1' : ¬ 0 ≤ room := by omega
    simp only [h1, true_or, if_true]
    go_enter Try.func16, Try.ntmps16
    go_wp2
    go_returns
    exact ⟨rfl, (Below.refl _ _).alloc (Nat.le_refl _) _⟩
  · have h1' : 0 ≤ room := by omega
    by_cases h2 : 60000 < room
    · have h2' : ¬ room ≤ 60000 := by omega
      simp only [h2, or_true, if_true]
      go_enter Try.func16, Try.ntmps16
      go_wp2
      go_returns
      exact ⟨rfl, (Below.refl _ _).alloc (Nat.le_refl _) _⟩
    · have h2' : room ≤ 60000 := by omega
      simp only [h1, h2, or_false, if_false]
      go_enter Try.func16, Try.ntmps16
      go_wp2
      go_returns
      exact ⟨rfl, (Below.refl _ _).alloc (Nat.le_refl _) _⟩

theorem mkV_new (room : Int) : shDisk.cntV (newD room) = 0 ∧ shDisk.mkV (newD room) 1 = newD room := by
  exact ⟨rfl, rfl⟩

end Go.Proofs.Ytdmgknmlgipnpaa
