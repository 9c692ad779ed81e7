/-
  What DiskCrash answers, as data, and how great it is.
-/
import Derived.Test.YtkaegbhmeonjfaaGreatJ10FnExactDiskCrash
import Derived.Test.YtkaegbhmeonjfaaGreatJ12FnExactDiskCrash
namespace Go.Proofs.YtkaegbhmeonjfaaGreat
open Go.RowKit
set_option linter.unusedVariables false
set_option maxRecDepth 100000

/-- The cut of a place. -/
def cutAt (cuts : List Int) (i : Nat) : Int := if cuts.length = 0 then 0 else cuts[i % cuts.length]?.getD 0
/-- A node that is torn. -/
def crashN (k : Int) (x : NodeD) : NodeD := (x.1, tear x.2.2.1 x.2.1 k, tear x.2.2.1 x.2.1 k, ())
def crashFrom (cuts : List Int) : Nat → List NodeD → List NodeD
  | _, [] => []
  | i, x :: l => crashN (cutAt cuts i) x :: crashFrom cuts (i + 1) l
/-- How many turns are made. -/
def turnsN (turns : Int) (n : Nat) : Nat := if turns < 0 then 0 else if (n : Int) < turns then n else turns.toNat
/-- What DiskCrash makes of a right disk. -/
def crashD (d : shDisk.D) (turns : Int) (cuts : List Int) : shDisk.D :=
  (d.1, (-1 : Int), d.2.2.1, crashFrom cuts 0 (keepN (dirL d.2.2.2.2.1 (List.take (α := TurnD) (turnsN turns (List.length (α := TurnD) d.2.2.2.2.2.1)) d.2.2.2.2.2.1)) d.2.2.2.1), dirL d.2.2.2.2.1 (List.take (α := TurnD) (turnsN turns (List.length (α := TurnD) d.2.2.2.2.2.1)) d.2.2.2.2.2.1), ([] : List TurnD), ())

theorem turnsN_le (turns : Int) (n : Nat) : turnsN turns n ≤ n := by
  unfold turnsN
  split
  · omega
  · split <;> omega

theorem crash_at (cuts : List Int) : ∀ (l : List NodeD) (s i : Nat), (crashFrom cuts s l)[i]? = (l[i]?).map fun x => crashN (cutAt cuts (s + i)) x := by
  intro l
  induction l with
  | nil => intro s i; simp [crashFrom]
  | cons x l ih =>
    intro s i
    cases i with
    | zero => simp [crashFrom]
    | succ i =>
      have h := ih (s + 1) i
      have e : s + 1 + i = s + (i + 1) := by omega
      rw [e] at h
      simpa [crashFrom] using h

theorem crash_len (cuts : List Int) : ∀ (l : List NodeD) (s : Nat), (crashFrom cuts s l).length = l.length := by
  intro l
  induction l with
  | nil => intro s; rfl
  | cons x l ih => intro s; simp [crashFrom, ih (s + 1)]

theorem crash_szN (k : Int) (x : NodeD) : shNode.sz (crashN k x) ≤ 2 * (bodyLen x + safeLen x) := by
  have h := node_szN (crashN k x)
  have h1 : bodyLen (crashN k x) = (tear x.2.2.1 x.2.1 k).length := rfl
  have h2 : safeLen (crashN k x) = (tear x.2.2.1 x.2.1 k).length := rfl
  have h3 := tear_len_le x.2.2.1 x.2.1 k (safeLen x) (bodyLen x) rfl rfl
  omega

theorem crash_sum (cuts : List Int) : ∀ (l : List NodeD) (s : Nat), (List.map shNode.sz (crashFrom cuts s l)).sum ≤ 2 * ((l.map bodyLen).sum + (l.map safeLen).sum) := by
  intro l
  induction l with
  | nil => intro s; exact Nat.zero_le _
  | cons x l ih =>
    intro s
    have h1 := ih (s + 1)
    have h2 := crash_szN (cutAt cuts s) x
    have e : (List.map shNode.sz (crashFrom cuts s (x :: l))).sum = shNode.sz (crashN (cutAt cuts s) x) + (List.map shNode.sz (crashFrom cuts (s + 1) l)).sum := rfl
    rw [e]
    simp only [List.map_cons, List.sum_cons]
    omega

theorem filter_sum (f : NodeD → Nat) (q : NodeD → Bool) (l : List NodeD) : ((l.filter q).map f).sum ≤ (l.map f).sum := by
  induction l with
  | nil => simp
  | cons x l ih =>
    rw [List.filter_cons]
    split
    · simp only [List.map_cons, List.sum_cons]; omega
    · simp only [List.map_cons, List.sum_cons]; omega

theorem safe_sum {d : shDisk.D} (h : specOkP d) {nd : List NodeD} (hnd : nd = d.2.2.2.1) : (nd.map safeLen).sum ≤ 60000 := by
  obtain ⟨x0, e0⟩ : ∃ x : Int, x = d.1 := ⟨_, rfl⟩
  have lims := h.1
  have hr : x0 ≤ 60000 := by rw [e0]; exact lims.2.1
  have hu : usedTo nd nd.length ≤ x0 := by rw [hnd, e0]; exact h.2.2.2.2.2.2
  have h1 := used_sum nd nd.length (Nat.le_refl _)
  rw [List.take_length] at h1
  omega

theorem dirK_sz {d : shDisk.D} (h : specOkP d) (k : Nat) : Sh.sz (.sl shLink) (dirL d.2.2.2.2.1 (List.take (α := TurnD) k d.2.2.2.2.2.1)) ≤ 1000 := by
  obtain ⟨DL, hDL⟩ : ∃ l : List LinkD, l = dirL d.2.2.2.2.1 (List.take (α := TurnD) k d.2.2.2.2.2.1) := ⟨_, rfl⟩
  have hn := names_disk h k
  have hl := dirL_len d.2.2.2.2.1 (List.take (α := TurnD) k d.2.2.2.2.2.1)
  have l4 : List.length (α := LinkD) d.2.2.2.2.1 ≤ 8 := h.1.2.2.2.2.2.2.2.1
  have l5 : List.length (α := TurnD) d.2.2.2.2.2.1 ≤ 40 := h.1.2.2.2.2.2.2.2.2
  have l6 : List.length (α := TurnD) (List.take (α := TurnD) k d.2.2.2.2.2.1) ≤ 40 := take_le k 40 _ l5
  rw [← hDL] at hn hl ⊢
  have hL := bulkL_le DL hn
  have hz := bulkL_sz DL
  refine Nat.le_trans (Nat.le_of_eq hz) ?_
  omega

theorem crash_sz {d : shDisk.D} (h : specOkP d) (turns : Int) (cuts : List Int) : shDisk.sz (crashD d turns cuts) ≤ 1048576 := by
  obtain ⟨nd, hnd⟩ : ∃ l : List NodeD, l = d.2.2.2.1 := ⟨_, rfl⟩
  obtain ⟨hb, h8, _⟩ := body_sum h hnd
  have hsf := safe_sum h hnd
  obtain ⟨K, hK⟩ : ∃ K, K = turnsN turns (List.length (α := TurnD) d.2.2.2.2.2.1) := ⟨_, rfl⟩
  have hz := dirK_sz h K
  obtain ⟨DL, hDL⟩ : ∃ l : List LinkD, l = dirL d.2.2.2.2.1 (List.take (α := TurnD) K d.2.2.2.2.2.1) := ⟨_, rfl⟩
  rw [← hDL] at hz
  obtain ⟨N, hN⟩ : ∃ l : List NodeD, l = keepN DL nd := ⟨_, rfl⟩
  have hk1 : (N.map bodyLen).sum ≤ (nd.map bodyLen).sum := by rw [hN]; exact filter_sum _ _ _
  have hk2 : (N.map safeLen).sum ≤ (nd.map safeLen).sum := by rw [hN]; exact filter_sum _ _ _
  have hkl : N.length ≤ 8 := by rw [hN]; exact Nat.le_trans (List.length_filter_le _ _) h8
  have e1 : (crashD d turns cuts).2.2.2.1 = crashFrom cuts 0 N := by rw [hN, hDL, hnd, hK]; rfl
  have e2 : (crashD d turns cuts).2.2.2.2.1 = DL := by rw [hDL, hK]; rfl
  have e3 : Sh.sz (.sl shTurn) (crashD d turns cuts).2.2.2.2.2.1 = 0 := rfl
  have hS : Sh.sz (.sl shNode) (crashFrom cuts 0 N) ≤ 300000 := by
    show List.length (α := NodeD) (crashFrom cuts 0 N) + (List.map shNode.sz (crashFrom cuts 0 N)).sum ≤ _
    have h1 := crash_sum cuts N 0
    have h2 := crash_len cuts N 0
    omega
  have hA : Sh.sz (.sl shNode) (crashD d turns cuts).2.2.2.1 ≤ 300000 := by rw [e1]; exact hS
  have hB : Sh.sz (.sl shLink) (crashD d turns cuts).2.2.2.2.1 ≤ 1000 := by rw [e2]; exact hz
  rw [sz_Disk, e3]
  omega

end Go.Proofs.YtkaegbhmeonjfaaGreat
