/-
  Plain facts on the directory behind all turns: its ids have their nodes; where a node lies.
-/
import Derived.Test.YtkjnbjohicgooaaGreatDOkE
import Derived.Test.YtkjnbjohicgooaaGreatReadS
namespace Go.Proofs.YtkjnbjohicgooaaGreat
open Go.RowKit
set_option linter.unusedVariables false

theorem mem_less {l : List LinkD} {s : ByteArray} {x : LinkD} (h : x ∈ lessL l s) : x ∈ l := by
  unfold lessL at h
  exact (List.mem_filter.1 h).1

theorem findL_mem {l : List LinkD} {s : ByteArray} (h : hasL l s = true) : ∃ x ∈ l, x.1 = s ∧ x.2.1 = findL l s := by
  induction l with
  | nil => simp [hasL_nil] at h
  | cons a l ih =>
    rw [hasL_cons] at h
    rw [findL_cons]
    by_cases e : a.1 = s
    · exact ⟨a, List.mem_cons_self, e, by rw [if_pos e]⟩
    · simp [e] at h
      obtain ⟨x, hx, h1, h2⟩ := ih h
      exact ⟨x, List.mem_cons_of_mem _ hx, h1, by rw [if_neg e]; exact h2⟩

/-- Every link behind turns that fit has an id of the list S, if those of the links and of the creates are in it. -/
theorem dir_ids (S : List Int) : ∀ (ts : List TurnD) (l : List LinkD), Pos l → turnsOkL l ts → (∀ x ∈ l, x.2.1 ∈ S) → (∀ t ∈ ts, t.1 = 1 → t.2.2.2.1 ∈ S) → (∀ x ∈ dirL l ts, x.2.1 ∈ S) ∧ Pos (dirL l ts)
  | [], l, hp, _, h1, _ => ⟨h1, hp⟩
  | t :: ts, l, hp, hk, h1, h2 => by
    obtain ⟨k1, k2⟩ := hk
    have hp2 := (turn_alike (Alike.refl l) hp k1).2
    refine dir_ids S ts (turnL l t) hp2 k2 ?_ (fun u hu => h2 u (List.mem_cons_of_mem _ hu))
    intro x hx
    unfold turnL at hx
    by_cases e1 : t.1 = 1
    · rw [if_pos e1] at hx
      rcases mem_with hx with rfl | hx
      · exact h2 t List.mem_cons_self e1
      · exact h1 x hx
    · rw [if_neg e1] at hx
      by_cases e5 : t.1 = 5
      · simp only [e5, if_true] at hx
        rcases mem_with hx with rfl | hx
        · have hth : hasL l t.2.1 = true := (findL_pos hp _).2 (by
            rcases k1.2 with h | h | h
            · have := h.1; omega
            · exact h.2.2.2.2
            · have := h.1; omega)
          obtain ⟨y, hy, _, hy2⟩ := findL_mem hth
          show findL l t.2.1 ∈ S
          rw [← hy2]; exact h1 y hy
        · exact h1 x (mem_less (mem_less hx))
      · rw [if_neg e5] at hx
        exact h1 x (mem_less hx)

theorem kept_pos {kp : List LinkD} (h : keptTo kp kp.length) : Pos kp := by
  intro x hx
  obtain ⟨i, hi, rfl⟩ := List.mem_iff_getElem.1 hx
  have := (h i hi hi).2.1
  omega

theorem place_mem {l : List NodeD} {id : Int} (h : id ∈ nodeIds l) : placeN l id < l.length := by
  unfold placeN
  rw [List.findIdx_lt_length]
  unfold nodeIds at h
  obtain ⟨x, hx, e⟩ := List.mem_map.1 h
  exact ⟨x, hx, by simpa using e⟩

/-- What a right disk says of its directory: it is alike to the program's map, its ids have their nodes. -/
theorem dir_alike {d : shDisk.D} (h : specOkP d) : Alike (dirL d.2.2.2.2.1 d.2.2.2.2.2.1) (dirF (List.reverse (α := LinkD) d.2.2.2.2.1) d.2.2.2.2.2.1) ∧ Pos (dirL d.2.2.2.2.1 d.2.2.2.2.2.1) ∧
    ∀ x ∈ dirL d.2.2.2.2.1 d.2.2.2.2.2.1, placeN d.2.2.2.1 x.2.1 < List.length (α := NodeD) d.2.2.2.1 := by
  obtain ⟨h1, h2, h3, h4, h5, h6, h7⟩ := h
  obtain ⟨nd, hnd⟩ : ∃ l : List NodeD, l = d.2.2.2.1 := ⟨_, rfl⟩
  obtain ⟨kp, hkp⟩ : ∃ l : List LinkD, l = d.2.2.2.2.1 := ⟨_, rfl⟩
  obtain ⟨tn, htn⟩ : ∃ l : List TurnD, l = d.2.2.2.2.2.1 := ⟨_, rfl⟩
  rw [← hkp, ← htn] at h4 h5 h6 ⊢
  rw [← hkp] at h3
  rw [← hnd] at h4 h5 ⊢
  have hp := kept_pos h3
  have hn : namesTo kp kp.length := fun i hi hk => ⟨(h3 i hi hk).1, (h3 i hi hk).2.2⟩
  have ha := alike_rev hn
  have hal : ∀ (ts : List TurnD) (l m : List LinkD), Alike l m → Pos l → turnsOkL l ts → Alike (dirL l ts) (dirF m ts) := by
    intro ts
    induction ts with
    | nil => intro l m h _ _; exact h
    | cons t ts ih =>
      intro l m hlm hpl hk
      have h8 := turn_alike hlm hpl hk.1
      exact ih (turnL l t) (turnI m t) h8.1 h8.2 hk.2
  have hd := dir_ids (idsL kp tn) tn kp hp h6 (fun x hx => mem_ids_kept hx) (fun t ht hk => mem_ids_made ht hk)
  refine ⟨hal tn kp kp.reverse ha hp h6, hd.2, fun x hx => ?_⟩
  exact place_mem ((idsTo_nodup h5).2 _ (hd.1 x hx))

end Go.Proofs.YtkjnbjohicgooaaGreat
