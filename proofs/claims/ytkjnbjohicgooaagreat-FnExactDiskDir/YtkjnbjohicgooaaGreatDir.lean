/-
  Directories as lists, in plain terms: what the model does to them (l..L), what the program does to its map (..I), and that the two tests of a disk are one.
-/
import Derived.Test.YtkjnbjohicgooaaGreatNameS
namespace Go.Proofs.YtkjnbjohicgooaaGreat
set_option linter.unusedVariables false

abbrev TurnD := Int × ByteArray × ByteArray × Int × Unit
abbrev NodeD := Int × List Int × List Int × Unit

def ltS (a b : ByteArray) : Bool := Go.Op.bytesLess a.toList b.toList

theorem bytesLess_irrefl : ∀ a : List UInt8, Go.Op.bytesLess a a = false
  | [] => rfl
  | a :: x => by simp [Go.Op.bytesLess, bytesLess_irrefl x]

theorem bytesLess_trans : ∀ {a b c : List UInt8}, Go.Op.bytesLess a b = true → Go.Op.bytesLess b c = true → Go.Op.bytesLess a c = true
  | _, [], _, h, _ => by cases ‹List UInt8› <;> simp [Go.Op.bytesLess] at h
  | _, _ :: _, [], _, h => by simp [Go.Op.bytesLess] at h
  | [], _ :: _, _ :: _, _, _ => rfl
  | a :: x, b :: y, c :: z, h1, h2 => by
    simp only [Go.Op.bytesLess, Bool.or_eq_true, decide_eq_true_eq, Bool.and_eq_true, beq_iff_eq] at *
    rcases h1 with h1 | ⟨rfl, h1⟩
    · rcases h2 with h2 | ⟨rfl, h2⟩
      · exact .inl (UInt8.lt_trans h1 h2)
      · exact .inl h1
    · rcases h2 with h2 | ⟨rfl, h2⟩
      · exact .inl h2
      · exact .inr ⟨rfl, bytesLess_trans h1 h2⟩

theorem bytesLess_total : ∀ {a b : List UInt8}, Go.Op.bytesLess a b = false → Go.Op.bytesLess b a = false → a = b
  | [], [], _, _ => rfl
  | [], _ :: _, h, _ => by simp [Go.Op.bytesLess] at h
  | _ :: _, [], _, h => by simp [Go.Op.bytesLess] at h
  | a :: x, b :: y, h1, h2 => by
    simp only [Go.Op.bytesLess, Bool.or_eq_false_iff, decide_eq_false_iff_not, Bool.and_eq_false_iff, beq_eq_false_iff_ne] at *
    have e : a = b := UInt8.le_antisymm (UInt8.not_lt.1 h2.1) (UInt8.not_lt.1 h1.1)
    subst e
    have h3 : Go.Op.bytesLess x y = false := by rcases h1.2 with h | h; exact absurd rfl h; exact h
    have h4 : Go.Op.bytesLess y x = false := by rcases h2.2 with h | h; exact absurd rfl h; exact h
    rw [bytesLess_total h3 h4]

theorem toList_inj {a b : ByteArray} (h : a.toList = b.toList) : a = b := by
  rw [ByteArray.toList_eq, ByteArray.toList_eq] at h
  exact ByteArray.ext (Array.toList_inj.1 h)

theorem ltS_irrefl (a : ByteArray) : ltS a a = false := bytesLess_irrefl _
theorem ltS_trans {a b c : ByteArray} (h1 : ltS a b = true) (h2 : ltS b c = true) : ltS a c = true := bytesLess_trans h1 h2
theorem ltS_total {a b : ByteArray} (h1 : ltS a b = false) (h2 : ltS b a = false) : a = b := toList_inj (bytesLess_total h1 h2)
theorem ltS_ne {a b : ByteArray} (h : ltS a b = true) : a ≠ b := fun e => by rw [e, ltS_irrefl] at h; cases h

/-- A name is linked. -/
def hasL (l : List LinkD) (s : ByteArray) : Bool := l.any fun x => decide (x.1 = s)
/-- A name is taken away. -/
def lessL (l : List LinkD) (s : ByteArray) : List LinkD := l.filter fun x => decide (x.1 ≠ s)
/-- A name is linked, ahead of the first greater one. -/
def withL : List LinkD → ByteArray → Int → List LinkD
  | [], s, id => [(s, id, ())]
  | x :: l, s, id => if ltS s x.1 then (s, id, ()) :: x :: l else x :: withL l s id

def turnL (l : List LinkD) (t : TurnD) : List LinkD :=
  if t.1 = 1 then withL l t.2.1 t.2.2.2.1
  else if t.1 = 5 then withL (lessL (lessL l t.2.1) t.2.2.1) t.2.2.1 (findL l t.2.1)
  else lessL l t.2.1

def noText : ByteArray := ByteArray.empty

def turnOkL (l : List LinkD) (t : TurnD) : Prop :=
  isName t.2.1 ∧ ((t.1 = 1 ∧ t.2.2.1 = noText ∧ 0 < t.2.2.2.1 ∧ ¬ 0 < findL l t.2.1) ∨
    (t.1 = 5 ∧ isName t.2.2.1 ∧ t.2.2.1 ≠ t.2.1 ∧ t.2.2.2.1 = 0 ∧ 0 < findL l t.2.1) ∨ (t.1 = 6 ∧ t.2.2.1 = noText ∧ t.2.2.2.1 = 0 ∧ 0 < findL l t.2.1))

def turnsOkL : List LinkD → List TurnD → Prop
  | _, [] => True
  | l, t :: ts => turnOkL l t ∧ turnsOkL (turnL l t) ts

def idsL (kept : List LinkD) (turns : List TurnD) : List Int := kept.map (fun x => x.2.1) ++ (turns.filter fun t => decide (t.1 = 1)).map fun t => t.2.2.2.1

-- the program's
def turnI (l : List LinkD) (t : TurnD) : List LinkD :=
  if t.1 = 1 then (t.2.1, t.2.2.2.1, ()) :: l
  else if t.1 = 5 then lessL ((t.2.2.1, findL l t.2.1, ()) :: l) t.2.1
  else if t.1 = 6 then lessL l t.2.1
  else l

def turnOkI (t : TurnD) : Prop :=
  (t.1 = 1 ∧ isName t.2.1 ∧ t.2.2.1 = noText) ∨ (t.1 = 5 ∧ isName t.2.1 ∧ isName t.2.2.1 ∧ t.2.2.2.1 = 0) ∨ (t.1 = 6 ∧ isName t.2.1 ∧ t.2.2.1 = noText ∧ t.2.2.2.1 = 0)

def turnFitsI (l : List LinkD) (t : TurnD) : Prop :=
  if t.1 = 1 then hasL l t.2.1 = false else if t.1 = 5 then hasL l t.2.1 = true ∧ t.2.2.1 ≠ t.2.1 else hasL l t.2.1 = true

def turnsOkI : List LinkD → List TurnD → Prop
  | _, [] => True
  | l, t :: ts => (turnOkI t ∧ turnFitsI l t) ∧ turnsOkI (turnI l t) ts

def Alike (l m : List LinkD) : Prop := ∀ s, hasL l s = hasL m s ∧ findL l s = findL m s

theorem Alike.refl (l : List LinkD) : Alike l l := fun s => ⟨rfl, rfl⟩
theorem Alike.symm {l m : List LinkD} (h : Alike l m) : Alike m l := fun s => ⟨(h s).1.symm, (h s).2.symm⟩
theorem Alike.trans {l m k : List LinkD} (h : Alike l m) (h' : Alike m k) : Alike l k := fun s => ⟨(h s).1.trans (h' s).1, (h s).2.trans (h' s).2⟩

def Pos (l : List LinkD) : Prop := ∀ x ∈ l, 0 < x.2.1

theorem hasL_nil (s : ByteArray) : hasL [] s = false := rfl
theorem hasL_cons (x : LinkD) (l : List LinkD) (s : ByteArray) : hasL (x :: l) s = (decide (x.1 = s) || hasL l s) := rfl
theorem findL_cons (x : LinkD) (l : List LinkD) (s : ByteArray) : findL (x :: l) s = if x.1 = s then x.2.1 else findL l s := rfl

theorem findL_none {l : List LinkD} {s : ByteArray} (h : hasL l s = false) : findL l s = 0 := by
  induction l with
  | nil => rfl
  | cons x l ih =>
    rw [hasL_cons, Bool.or_eq_false_iff] at h
    rw [findL_cons, if_neg (by simpa using h.1), ih h.2]

theorem findL_pos {l : List LinkD} (hp : Pos l) (s : ByteArray) : hasL l s = true ↔ 0 < findL l s := by
  induction l with
  | nil => simp [hasL, findL]
  | cons x l ih =>
    rw [hasL_cons, findL_cons]
    by_cases e : x.1 = s
    · simp [e, hp x List.mem_cons_self]
    · simp [e, ih (fun y hy => hp y (List.mem_cons_of_mem _ hy))]

theorem hasL_less (l : List LinkD) (s t : ByteArray) : hasL (lessL l s) t = (decide (t ≠ s) && hasL l t) := by
  induction l with
  | nil => simp [hasL, lessL]
  | cons x l ih =>
    rw [hasL_cons]
    unfold lessL at *
    by_cases e : x.1 = s
    · rw [List.filter_cons_of_neg (by simp [e]), ih]
      by_cases e2 : t = s
      · simp [e2]
      · have : ¬ x.1 = t := fun h => e2 (h.symm.trans e)
        simp [this]
    · rw [List.filter_cons_of_pos (by simp [e]), hasL_cons, ih]
      by_cases e2 : x.1 = t
      · have : t ≠ s := fun h => e (e2.trans h)
        simp [e2, this]
      · simp [e2]

theorem findL_less (l : List LinkD) (s t : ByteArray) : findL (lessL l s) t = if t = s then 0 else findL l t := by
  induction l with
  | nil => simp [findL, lessL]
  | cons x l ih =>
    rw [findL_cons]
    unfold lessL at *
    by_cases e : x.1 = s
    · rw [List.filter_cons_of_neg (by simp [e]), ih]
      by_cases e2 : t = s
      · simp [e2]
      · have : ¬ x.1 = t := fun h => e2 (h.symm.trans e)
        simp [this]
    · rw [List.filter_cons_of_pos (by simp [e]), findL_cons, ih]
      by_cases e2 : x.1 = t
      · have : t ≠ s := fun h => e (e2.trans h)
        simp [e2, this]
      · simp [e2]

theorem hasL_with (l : List LinkD) (s t : ByteArray) (id : Int) : hasL (withL l s id) t = (decide (s = t) || hasL l t) := by
  induction l with
  | nil => simp [hasL, withL]
  | cons x l ih =>
    unfold withL
    split
    · rw [hasL_cons]
    · rw [hasL_cons, ih, hasL_cons]
      cases decide (x.1 = t) <;> simp

theorem findL_with (l : List LinkD) (s t : ByteArray) (id : Int) (h : hasL l s = false) : findL (withL l s id) t = if s = t then id else findL l t := by
  induction l with
  | nil => simp [findL, withL]
  | cons x l ih =>
    rw [hasL_cons, Bool.or_eq_false_iff] at h
    have hx : ¬ x.1 = s := by simpa using h.1
    unfold withL
    split
    · rw [findL_cons]
    · rw [findL_cons, ih h.2, findL_cons]
      by_cases e : x.1 = t
      · have : ¬ s = t := fun e2 => hx (e.trans e2.symm)
        simp [e, this]
      · simp [e]

theorem Pos.less {l : List LinkD} (h : Pos l) (s : ByteArray) : Pos (lessL l s) := fun x hx => h x (List.mem_filter.1 hx).1
theorem mem_with {l : List LinkD} {s : ByteArray} {id : Int} {x : LinkD} : x ∈ withL l s id → x = (s, id, ()) ∨ x ∈ l := by
  induction l with
  | nil => intro h; simp [withL] at h; exact .inl h
  | cons y l ih =>
    intro h
    unfold withL at h
    split at h
    · rcases List.mem_cons.1 h with h | h
      · exact .inl h
      · exact .inr h
    · rcases List.mem_cons.1 h with h | h
      · exact .inr (h ▸ List.mem_cons_self)
      · exact (ih h).imp (fun h => h) (List.mem_cons_of_mem _)
theorem Pos.with {l : List LinkD} (h : Pos l) (s : ByteArray) {id : Int} (hi : 0 < id) : Pos (withL l s id) := fun x hx => by
  rcases mem_with hx with rfl | h'
  · exact hi
  · exact h x h'

/-- A turn that fits, on both sides. -/
theorem turn_alike {l m : List LinkD} {t : TurnD} (ha : Alike l m) (hp : Pos l) (h : turnOkL l t) : Alike (turnL l t) (turnI m t) ∧ Pos (turnL l t) := by
  obtain ⟨hn, h | h | h⟩ := h
  · obtain ⟨k, _, hid, hf⟩ := h
    have hnot : hasL l t.2.1 = false := by
      cases e : hasL l t.2.1
      · rfl
      · exact absurd ((findL_pos hp _).1 e) hf
    unfold turnL turnI
    rw [if_pos k, if_pos k]
    refine ⟨fun s => ⟨?_, ?_⟩, hp.with _ hid⟩
    · rw [hasL_with, hasL_cons, (ha s).1]
    · rw [findL_with _ _ _ _ hnot, findL_cons, (ha s).2]
  · obtain ⟨k, _, hne, _, hf⟩ := h
    unfold turnL turnI
    rw [if_neg (by omega), if_pos k, if_neg (by omega), if_pos k]
    have hnot : hasL (lessL (lessL l t.2.1) t.2.2.1) t.2.2.1 = false := by rw [hasL_less]; simp
    refine ⟨fun s => ⟨?_, ?_⟩, ((hp.less _).less _).with _ hf⟩
    · rw [hasL_with, hasL_less, hasL_less, hasL_less, hasL_cons, (ha s).1]
      by_cases e1 : t.2.2.1 = s
      · have : s ≠ t.2.1 := fun e => hne (e1.trans e)
        simp [e1, this]
      · have e2 : ¬ s = t.2.2.1 := fun e => e1 e.symm
        simp [e1, e2]
    · rw [findL_with _ _ _ _ hnot, findL_less, findL_less, findL_less, findL_cons, (ha s).2, (ha t.2.1).2]
      by_cases e1 : t.2.2.1 = s
      · have : ¬ s = t.2.1 := fun e => hne (e1.trans e)
        simp [e1, this]
      · have e2 : ¬ s = t.2.2.1 := fun e => e1 e.symm
        simp [e1, e2]
  · obtain ⟨k, _, _, hf⟩ := h
    unfold turnL turnI
    rw [if_neg (by omega), if_neg (by omega), if_neg (by omega), if_neg (by omega), if_pos k]
    exact ⟨fun s => ⟨by rw [hasL_less, hasL_less, (ha s).1], by rw [findL_less, findL_less, (ha s).2]⟩, hp.less _⟩

theorem turnOk_iff {l m : List LinkD} {t : TurnD} (ha : Alike l m) (hp : Pos l) : turnOkL l t ↔ (turnOkI t ∧ turnFitsI m t) ∧ (t.1 = 1 → 0 < t.2.2.2.1) := by
  have hh : hasL m t.2.1 = true ↔ 0 < findL l t.2.1 := by rw [← (ha t.2.1).1]; exact findL_pos hp _
  have hh' : hasL m t.2.1 = false ↔ ¬ 0 < findL l t.2.1 := by rw [← hh]; simp
  constructor
  · rintro ⟨hn, h | h | h⟩
    · obtain ⟨k, h1, h2, h3⟩ := h
      exact ⟨⟨.inl ⟨k, hn, h1⟩, by unfold turnFitsI; rw [if_pos k]; exact hh'.2 h3⟩, fun _ => h2⟩
    · obtain ⟨k, h1, h2, h3, h4⟩ := h
      exact ⟨⟨.inr (.inl ⟨k, hn, h1, h3⟩), by unfold turnFitsI; rw [if_neg (by omega), if_pos k]; exact ⟨hh.2 h4, h2⟩⟩, fun e => by omega⟩
    · obtain ⟨k, h1, h2, h3⟩ := h
      exact ⟨⟨.inr (.inr ⟨k, hn, h1, h2⟩), by unfold turnFitsI; rw [if_neg (by omega), if_neg (by omega)]; exact hh.2 h3⟩, fun e => by omega⟩
  · rintro ⟨⟨h | h | h, hf⟩, hid⟩
    · obtain ⟨k, hn, h1⟩ := h
      unfold turnFitsI at hf; rw [if_pos k] at hf
      exact ⟨hn, .inl ⟨k, h1, hid k, hh'.1 hf⟩⟩
    · obtain ⟨k, hn, h1, h2⟩ := h
      unfold turnFitsI at hf; rw [if_neg (by omega), if_pos k] at hf
      exact ⟨hn, .inr (.inl ⟨k, h1, hf.2, h2, hh.1 hf.1⟩)⟩
    · obtain ⟨k, hn, h1, h2⟩ := h
      unfold turnFitsI at hf; rw [if_neg (by omega), if_neg (by omega)] at hf
      exact ⟨hn, .inr (.inr ⟨k, h1, h2, hh.1 hf⟩)⟩

theorem turnsOk_iff : ∀ {ts : List TurnD} {l m : List LinkD}, Alike l m → Pos l → (turnsOkL l ts ↔ turnsOkI m ts ∧ ∀ t ∈ ts, t.1 = 1 → 0 < t.2.2.2.1)
  | [], _, _, _, _ => by simp [turnsOkL, turnsOkI]
  | t :: ts, l, m, ha, hp => by
    unfold turnsOkL turnsOkI
    constructor
    · rintro ⟨h1, h2⟩
      have h3 := turn_alike ha hp h1
      have h4 := (turnOk_iff ha hp).1 h1
      have h5 := (turnsOk_iff h3.1 h3.2).1 h2
      exact ⟨⟨h4.1, h5.1⟩, fun x hx => by rcases List.mem_cons.1 hx with rfl | h; exact h4.2; exact h5.2 x h⟩
    · rintro ⟨⟨h1, h2⟩, h3⟩
      have h4 := (turnOk_iff ha hp).2 ⟨h1, h3 t List.mem_cons_self⟩
      have h5 := turn_alike ha hp h4
      exact ⟨h4, (turnsOk_iff h5.1 h5.2).2 ⟨h2, fun x hx => h3 x (List.mem_cons_of_mem _ hx)⟩⟩

end Go.Proofs.YtkjnbjohicgooaaGreat
