/-
  Directories in the order of their names: the model's is, and two such that are alike are one.
-/
import Derived.Test.YtkjnbjohicgooaaGreatReadP
import Derived.Test.YtkjnbjohicgooaaGreatDOkE
import Derived.Lib.Bytealg
namespace Go.Proofs.YtkjnbjohicgooaaGreat
open Go.RowKit
set_option linter.unusedVariables false
set_option maxRecDepth 100000

/-- In the order of the names, none twice. -/
def Asc (l : List LinkD) : Prop := l.Pairwise fun x y => ltS x.1 y.1 = true

theorem asc_nil : Asc [] := List.Pairwise.nil

theorem asc_less {l : List LinkD} (h : Asc l) (s : ByteArray) : Asc (lessL l s) := List.Pairwise.filter _ h

theorem hasL_mem {l : List LinkD} {x : LinkD} (h : x ∈ l) : hasL l x.1 = true := by
  unfold hasL
  exact List.any_eq_true.2 ⟨x, h, by simp⟩

theorem hasL_not {l : List LinkD} {s : ByteArray} (h : hasL l s = false) : ∀ x ∈ l, x.1 ≠ s := fun x hx e => by
  rw [← e, hasL_mem hx] at h; cases h

theorem ltS_flip {a b : ByteArray} (h : ltS a b = false) (hn : b ≠ a) : ltS b a = true := by
  cases e : ltS b a with
  | true => rfl
  | false => exact absurd (ltS_total e h) hn

theorem asc_with : ∀ {l : List LinkD} {s : ByteArray} (id : Int), Asc l → hasL l s = false → Asc (withL l s id)
  | [], s, id, _, _ => List.pairwise_singleton _ _
  | x :: l, s, id, h, hn => by
    obtain ⟨h1, h2⟩ := List.pairwise_cons.1 h
    unfold withL
    split
    · rename_i hlt
      refine List.pairwise_cons.2 ⟨fun y hy => ?_, h⟩
      rcases List.mem_cons.1 hy with rfl | hy
      · exact hlt
      · exact ltS_trans hlt (h1 y hy)
    · rename_i hlt
      have hlf : ltS s x.1 = false := by cases e : ltS s x.1 with | true => exact absurd e hlt | false => rfl
      have hx : x.1 ≠ s := hasL_not hn x (by simp)
      have hn' : hasL l s = false := by rw [hasL_cons] at hn; exact (Bool.or_eq_false_iff.1 hn).2
      refine List.pairwise_cons.2 ⟨fun y hy => ?_, asc_with id h2 hn'⟩
      rcases mem_with hy with rfl | hy
      · exact ltS_flip hlf hx
      · exact h1 y hy

theorem has_less_same (l : List LinkD) (s : ByteArray) : hasL (lessL l s) s = false := by rw [hasL_less]; simp

theorem asc_turn {l : List LinkD} {t : TurnD} (h : Asc l) (hp : Pos l) (hk : turnOkL l t) : Asc (turnL l t) := by
  unfold turnL
  split
  · rename_i h1
    have hf : hasL l t.2.1 = false := by
      rcases hk.2 with ⟨_, _, _, hz⟩ | ⟨h5, _⟩ | ⟨h6, _⟩
      · cases e : hasL l t.2.1 with
        | false => rfl
        | true => exact absurd ((findL_pos hp _).1 e) hz
      · omega
      · omega
    exact asc_with _ h hf
  · split
    · exact asc_with _ (asc_less (asc_less h _) _) (has_less_same _ _)
    · exact asc_less h _

theorem pos_turn {l : List LinkD} {t : TurnD} (hp : Pos l) (hk : turnOkL l t) : Pos (turnL l t) := (turn_alike (Alike.refl l) hp hk).2

theorem asc_dir : ∀ {ts : List TurnD} {l : List LinkD}, Asc l → Pos l → turnsOkL l ts → Asc (dirL l ts)
  | [], l, h, _, _ => h
  | t :: ts, l, h, hp, hk => by
    show Asc (dirL (turnL l t) ts)
    exact asc_dir (asc_turn h hp hk.1) (pos_turn hp hk.1) hk.2

theorem asc_kept {l : List LinkD} (h : keptTo l l.length) : Asc l := by
  refine List.pairwise_iff_getElem.2 ?_
  intro i j hi hj hij
  induction j with
  | zero => omega
  | succ j ih =>
    have h1 := (h (j + 1) hj hj).2.2 j (by omega) rfl
    by_cases e : i = j
    · subst e; exact h1
    · exact ltS_trans (ih (by omega) (by omega)) h1

/-- Two such that are alike are one. -/
theorem asc_eq : ∀ {l m : List LinkD}, Asc l → Asc m → Alike l m → l = m
  | [], [], _, _, _ => rfl
  | [], y :: m, _, _, ha => by
    have := (ha y.1).1
    rw [hasL_mem (l := y :: m) (by simp)] at this
    cases this
  | x :: l, [], _, _, ha => by
    have := (ha x.1).1
    rw [hasL_mem (l := x :: l) (by simp)] at this
    cases this
  | x :: l, y :: m, hl, hm, ha => by
    obtain ⟨l1, l2⟩ := List.pairwise_cons.1 hl
    obtain ⟨m1, m2⟩ := List.pairwise_cons.1 hm
    have nl : ∀ s, ltS s x.1 = true ∨ s = x.1 → hasL l s = false := fun s hs => by
      cases e : hasL l s with
      | false => rfl
      | true =>
        obtain ⟨z, hz, rfl, _⟩ := findL_mem e
        have := l1 z hz
        rcases hs with hs | hs
        · have := ltS_trans this hs; rw [ltS_irrefl] at this; cases this
        · rw [hs, ltS_irrefl] at this; cases this
    have nm : ∀ s, ltS s y.1 = true ∨ s = y.1 → hasL m s = false := fun s hs => by
      cases e : hasL m s with
      | false => rfl
      | true =>
        obtain ⟨z, hz, rfl, _⟩ := findL_mem e
        have := m1 z hz
        rcases hs with hs | hs
        · have := ltS_trans this hs; rw [ltS_irrefl] at this; cases this
        · rw [hs, ltS_irrefl] at this; cases this
    have e1 : x.1 = y.1 := by
      have hx := (ha x.1).1
      have hy := (ha y.1).1
      rw [hasL_cons, hasL_cons] at hx hy
      cases c1 : ltS x.1 y.1 with
      | true =>
        rw [nm x.1 (.inl c1)] at hx
        simp only [decide_true, Bool.true_or, Bool.or_false] at hx
        exact (of_decide_eq_true hx.symm).symm
      | false =>
        cases c2 : ltS y.1 x.1 with
        | false => exact ltS_total c1 c2
        | true =>
          rw [nl y.1 (.inl c2)] at hy
          simp only [decide_true, Bool.true_or, Bool.or_false] at hy
          exact of_decide_eq_true hy
    have e2 : x.2.1 = y.2.1 := by
      have := (ha x.1).2
      rw [findL_cons, findL_cons, if_pos rfl, if_pos e1.symm] at this
      exact this
    have exy : x = y := by
      obtain ⟨x1, x2, x3⟩ := x
      obtain ⟨y1, y2, y3⟩ := y
      simp only at e1 e2
      rw [e1, e2]
    subst exy
    have ha' : Alike l m := fun s => by
      by_cases es : x.1 = s
      · subst es
        rw [nl x.1 (.inr rfl), nm x.1 (.inr rfl), findL_none (nl x.1 (.inr rfl)), findL_none (nm x.1 (.inr rfl))]
        exact ⟨rfl, rfl⟩
      · have := ha s
        rw [hasL_cons, hasL_cons, findL_cons, findL_cons] at this
        simpa [es] using this
    rw [asc_eq l2 m2 ha']

/-- The directory of a right disk stands in the order of the names. -/
theorem asc_disk {d : shDisk.D} (h : specOkP d) (k : Nat) : Asc (dirL d.2.2.2.2.1 (List.take (α := TurnD) k d.2.2.2.2.2.1)) := by
  obtain ⟨_, _, hk, _, _, ht, _⟩ := h
  exact asc_dir (asc_kept hk) (kept_pos hk) (turnsOk_take ht k)

/-- strings.Compare's sign. -/
theorem compare_less : ∀ (a b : List UInt8), decide (Lib.compareBytes a b < 0) = Go.Op.bytesLess a b
  | [], [] => by simp [Lib.compareBytes, Go.Op.bytesLess]
  | [], b :: bs => by simp [Lib.compareBytes, Go.Op.bytesLess]
  | a :: ar, [] => by simp [Lib.compareBytes, Go.Op.bytesLess]
  | a :: ar, b :: bs => by
    unfold Lib.compareBytes Go.Op.bytesLess
    by_cases h1 : a < b
    · simp [h1]
    · by_cases h2 : b < a
      · have hne : (a == b) = false := by
          cases e : a == b with
          | false => rfl
          | true => rw [eq_of_beq e] at h2; exact absurd h2 (by simp [UInt8.lt_irrefl])
        simp [h1, h2, hne]
      · have he : a = b := by
          have e1 := UInt8.not_lt.1 h1
          have e2 := UInt8.not_lt.1 h2
          exact UInt8.le_antisymm e2 e1
        subst he
        have ih := compare_less ar bs
        simp [h1, ih]

end Go.Proofs.YtkjnbjohicgooaaGreat
