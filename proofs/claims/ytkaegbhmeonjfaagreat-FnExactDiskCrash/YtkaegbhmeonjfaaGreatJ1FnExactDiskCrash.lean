/-
  Joined: Dir, TyTurn, OwnM, Mtx, Mk, MkB, VB, FlatG, Flat.
-/
import Derived.Test.YtkaegbhmeonjfaaGreatJ0FnExactDiskCrash
import Derived.Handy
import Derived.Deep.RegionHeld3
import Derived.Test.YtkaegbhmeonjfaaGreatRows
import Derived.WalkKit
import Derived.WalkSpells
import Derived.WalkLawsBesides
import Derived.Laws.BytesArg
import Derived.Deep.QuietTactic
import Derived.BigQuiet
import Derived.Deep.AppendLies
/- Dir: Directories as lists, in plain terms: what the model does to them (l..L), what the program does to its map (..I), and that the two tests of a disk are one. -/
namespace Go.Proofs.YtkaegbhmeonjfaaGreat
set_option linter.unusedVariables false
set_option maxRecDepth 100000

abbrev TurnD := Int × ByteArray × ByteArray × Int × Unit
abbrev NodeD := Int × List Int × List Int × Unit

def ltS (a b : ByteArray) : Bool := Go.Op.bytesLess a.toList b.toList

theorem bytesLess_irrefl : ∀ a : List UInt8, Go.Op.bytesLess a a = false
  | [] => rfl
  | a :: x => by simp [Go.Op.bytesLess, bytesLess_irrefl x]

theorem bytesLess_trans : ∀ {a b c : List UInt8}, Go.Op.bytesLess a b = true → Go.Op.bytesLess b c = true → Go.Op.bytesLess a c = true
  | _, [], _, h, _ => by cases ‹List UInt8› <;> simp [Go.Op.bytesLess] at h
  | _, _ :: _, [], _, h => by simp [Go.Op.bytesLess] at h
  | [], _ :: _, _ :: _, _, _ => rfl
  | a :: x, b :: y, c :: z, h1, h2 => by
    simp only [Go.Op.bytesLess, Bool.or_eq_true, decide_eq_true_eq, Bool.and_eq_true, beq_iff_eq] at *
    rcases h1 with h1 | ⟨rfl, h1⟩
    · rcases h2 with h2 | ⟨rfl, h2⟩
      · exact .inl (UInt8.lt_trans h1 h2)
      · exact .inl h1
    · rcases h2 with h2 | ⟨rfl, h2⟩
      · exact .inl h2
      · exact .inr ⟨rfl, bytesLess_trans h1 h2⟩

theorem bytesLess_total : ∀ {a b : List UInt8}, Go.Op.bytesLess a b = false → Go.Op.bytesLess b a = false → a = b
  | [], [], _, _ => rfl
  | [], _ :: _, h, _ => by simp [Go.Op.bytesLess] at h
  | _ :: _, [], _, h => by simp [Go.Op.bytesLess] at h
  | a :: x, b :: y, h1, h2 => by
    simp only [Go.Op.bytesLess, Bool.or_eq_false_iff, decide_eq_false_iff_not, Bool.and_eq_false_iff, beq_eq_false_iff_ne] at *
    have e : a = b := UInt8.le_antisymm (UInt8.not_lt.1 h2.1) (UInt8.not_lt.1 h1.1)
    subst e
    have h3 : Go.Op.bytesLess x y = false := by rcases h1.2 with h | h; exact absurd rfl h; exact h
    have h4 : Go.Op.bytesLess y x = false := by rcases h2.2 with h | h; exact absurd rfl h; exact h
    rw [bytesLess_total h3 h4]

theorem toList_inj {a b : ByteArray} (h : a.toList = b.toList) : a = b := by
  rw [ByteArray.toList_eq, ByteArray.toList_eq] at h
  exact ByteArray.ext (Array.toList_inj.1 h)

theorem ltS_irrefl (a : ByteArray) : ltS a a = false := bytesLess_irrefl _
theorem ltS_trans {a b c : ByteArray} (h1 : ltS a b = true) (h2 : ltS b c = true) : ltS a c = true := bytesLess_trans h1 h2
theorem ltS_total {a b : ByteArray} (h1 : ltS a b = false) (h2 : ltS b a = false) : a = b := toList_inj (bytesLess_total h1 h2)
theorem ltS_ne {a b : ByteArray} (h : ltS a b = true) : a ≠ b := fun e => by rw [e, ltS_irrefl] at h; cases h

/-- A name is linked. -/
def hasL (l : List LinkD) (s : ByteArray) : Bool := l.any fun x => decide (x.1 = s)
/-- A name is taken away. -/
def lessL (l : List LinkD) (s : ByteArray) : List LinkD := l.filter fun x => decide (x.1 ≠ s)
/-- A name is linked, ahead of the first greater one. -/
def withL : List LinkD → ByteArray → Int → List LinkD
  | [], s, id => [(s, id, ())]
  | x :: l, s, id => if ltS s x.1 then (s, id, ()) :: x :: l else x :: withL l s id

def turnL (l : List LinkD) (t : TurnD) : List LinkD :=
  if t.1 = 1 then withL l t.2.1 t.2.2.2.1
  else if t.1 = 5 then withL (lessL (lessL l t.2.1) t.2.2.1) t.2.2.1 (findL l t.2.1)
  else lessL l t.2.1

def noText : ByteArray := ByteArray.empty

def turnOkL (l : List LinkD) (t : TurnD) : Prop :=
  isName t.2.1 ∧ ((t.1 = 1 ∧ t.2.2.1 = noText ∧ 0 < t.2.2.2.1 ∧ ¬ 0 < findL l t.2.1) ∨
    (t.1 = 5 ∧ isName t.2.2.1 ∧ t.2.2.1 ≠ t.2.1 ∧ t.2.2.2.1 = 0 ∧ 0 < findL l t.2.1) ∨ (t.1 = 6 ∧ t.2.2.1 = noText ∧ t.2.2.2.1 = 0 ∧ 0 < findL l t.2.1))

def turnsOkL : List LinkD → List TurnD → Prop
  | _, [] => True
  | l, t :: ts => turnOkL l t ∧ turnsOkL (turnL l t) ts

def idsL (kept : List LinkD) (turns : List TurnD) : List Int := kept.map (fun x => x.2.1) ++ (turns.filter fun t => decide (t.1 = 1)).map fun t => t.2.2.2.1

-- the program's
def turnI (l : List LinkD) (t : TurnD) : List LinkD :=
  if t.1 = 1 then (t.2.1, t.2.2.2.1, ()) :: l
  else if t.1 = 5 then lessL ((t.2.2.1, findL l t.2.1, ()) :: l) t.2.1
  else if t.1 = 6 then lessL l t.2.1
  else l

def turnOkI (t : TurnD) : Prop :=
  (t.1 = 1 ∧ isName t.2.1 ∧ t.2.2.1 = noText) ∨ (t.1 = 5 ∧ isName t.2.1 ∧ isName t.2.2.1 ∧ t.2.2.2.1 = 0) ∨ (t.1 = 6 ∧ isName t.2.1 ∧ t.2.2.1 = noText ∧ t.2.2.2.1 = 0)

def turnFitsI (l : List LinkD) (t : TurnD) : Prop :=
  if t.1 = 1 then hasL l t.2.1 = false else if t.1 = 5 then hasL l t.2.1 = true ∧ t.2.2.1 ≠ t.2.1 else hasL l t.2.1 = true

def turnsOkI : List LinkD → List TurnD → Prop
  | _, [] => True
  | l, t :: ts => (turnOkI t ∧ turnFitsI l t) ∧ turnsOkI (turnI l t) ts

def Alike (l m : List LinkD) : Prop := ∀ s, hasL l s = hasL m s ∧ findL l s = findL m s

theorem Alike.refl (l : List LinkD) : Alike l l := fun s => ⟨rfl, rfl⟩
theorem Alike.symm {l m : List LinkD} (h : Alike l m) : Alike m l := fun s => ⟨(h s).1.symm, (h s).2.symm⟩
theorem Alike.trans {l m k : List LinkD} (h : Alike l m) (h' : Alike m k) : Alike l k := fun s => ⟨(h s).1.trans (h' s).1, (h s).2.trans (h' s).2⟩

def Pos (l : List LinkD) : Prop := ∀ x ∈ l, 0 < x.2.1

theorem hasL_nil (s : ByteArray) : hasL [] s = false := rfl
theorem hasL_cons (x : LinkD) (l : List LinkD) (s : ByteArray) : hasL (x :: l) s = (decide (x.1 = s) || hasL l s) := rfl
theorem findL_cons (x : LinkD) (l : List LinkD) (s : ByteArray) : findL (x :: l) s = if x.1 = s then x.2.1 else findL l s := rfl

theorem findL_none {l : List LinkD} {s : ByteArray} (h : hasL l s = false) : findL l s = 0 := by
  induction l with
  | nil => rfl
  | cons x l ih =>
    rw [hasL_cons, Bool.or_eq_false_iff] at h
    rw [findL_cons, if_neg (by simpa using h.1), ih h.2]

theorem findL_pos {l : List LinkD} (hp : Pos l) (s : ByteArray) : hasL l s = true ↔ 0 < findL l s := by
  induction l with
  | nil => simp [hasL, findL]
  | cons x l ih =>
    rw [hasL_cons, findL_cons]
    by_cases e : x.1 = s
    · simp [e, hp x List.mem_cons_self]
    · simp [e, ih (fun y hy => hp y (List.mem_cons_of_mem _ hy))]

theorem hasL_less (l : List LinkD) (s t : ByteArray) : hasL (lessL l s) t = (decide (t ≠ s) && hasL l t) := by
  induction l with
  | nil => simp [hasL, lessL]
  | cons x l ih =>
    rw [hasL_cons]
    unfold lessL at *
    by_cases e : x.1 = s
    · rw [List.filter_cons_of_neg (by simp [e]), ih]
      by_cases e2 : t = s
      · simp [e2]
      · have : ¬ x.1 = t := fun h => e2 (h.symm.trans e)
        simp [this]
    · rw [List.filter_cons_of_pos (by simp [e]), hasL_cons, ih]
      by_cases e2 : x.1 = t
      · have : t ≠ s := fun h => e (e2.trans h)
        simp [e2, this]
      · simp [e2]

theorem findL_less (l : List LinkD) (s t : ByteArray) : findL (lessL l s) t = if t = s then 0 else findL l t := by
  induction l with
  | nil => simp [findL, lessL]
  | cons x l ih =>
    rw [findL_cons]
    unfold lessL at *
    by_cases e : x.1 = s
    · rw [List.filter_cons_of_neg (by simp [e]), ih]
      by_cases e2 : t = s
      · simp [e2]
      · have : ¬ x.1 = t := fun h => e2 (h.symm.trans e)
        simp [this]
    · rw [List.filter_cons_of_pos (by simp [e]), findL_cons, ih]
      by_cases e2 : x.1 = t
      · have : t ≠ s := fun h => e (e2.trans h)
        simp [e2, this]
      · simp [e2]

theorem hasL_with (l : List LinkD) (s t : ByteArray) (id : Int) : hasL (withL l s id) t = (decide (s = t) || hasL l t) := by
  induction l with
  | nil => simp [hasL, withL]
  | cons x l ih =>
    unfold withL
    split
    · rw [hasL_cons]
    · rw [hasL_cons, ih, hasL_cons]
      cases decide (x.1 = t) <;> simp

theorem findL_with (l : List LinkD) (s t : ByteArray) (id : Int) (h : hasL l s = false) : findL (withL l s id) t = if s = t then id else findL l t := by
  induction l with
  | nil => simp [findL, withL]
  | cons x l ih =>
    rw [hasL_cons, Bool.or_eq_false_iff] at h
    have hx : ¬ x.1 = s := by simpa using h.1
    unfold withL
    split
    · rw [findL_cons]
    · rw [findL_cons, ih h.2, findL_cons]
      by_cases e : x.1 = t
      · have : ¬ s = t := fun e2 => hx (e.trans e2.symm)
        simp [e, this]
      · simp [e]

theorem Pos.less {l : List LinkD} (h : Pos l) (s : ByteArray) : Pos (lessL l s) := fun x hx => h x (List.mem_filter.1 hx).1
theorem mem_with {l : List LinkD} {s : ByteArray} {id : Int} {x : LinkD} : x ∈ withL l s id → x = (s, id, ()) ∨ x ∈ l := by
  induction l with
  | nil => intro h; simp [withL] at h; exact .inl h
  | cons y l ih =>
    intro h
    unfold withL at h
    split at h
    · rcases List.mem_cons.1 h with h | h
      · exact .inl h
      · exact .inr h
    · rcases List.mem_cons.1 h with h | h
      · exact .inr (h ▸ List.mem_cons_self)
      · exact (ih h).imp (fun h => h) (List.mem_cons_of_mem _)
theorem Pos.with {l : List LinkD} (h : Pos l) (s : ByteArray) {id : Int} (hi : 0 < id) : Pos (withL l s id) := fun x hx => by
  rcases mem_with hx with rfl | h'
  · exact hi
  · exact h x h'

/-- A turn that fits, on both sides. -/
theorem turn_alike {l m : List LinkD} {t : TurnD} (ha : Alike l m) (hp : Pos l) (h : turnOkL l t) : Alike (turnL l t) (turnI m t) ∧ Pos (turnL l t) := by
  obtain ⟨hn, h | h | h⟩ := h
  · obtain ⟨k, _, hid, hf⟩ := h
    have hnot : hasL l t.2.1 = false := by
      cases e : hasL l t.2.1
      · rfl
      · exact absurd ((findL_pos hp _).1 e) hf
    unfold turnL turnI
    rw [if_pos k, if_pos k]
    refine ⟨fun s => ⟨?_, ?_⟩, hp.with _ hid⟩
    · rw [hasL_with, hasL_cons, (ha s).1]
    · rw [findL_with _ _ _ _ hnot, findL_cons, (ha s).2]
  · obtain ⟨k, _, hne, _, hf⟩ := h
    unfold turnL turnI
    rw [if_neg (by omega), if_pos k, if_neg (by omega), if_pos k]
    have hnot : hasL (lessL (lessL l t.2.1) t.2.2.1) t.2.2.1 = false := by rw [hasL_less]; simp
    refine ⟨fun s => ⟨?_, ?_⟩, ((hp.less _).less _).with _ hf⟩
    · rw [hasL_with, hasL_less, hasL_less, hasL_less, hasL_cons, (ha s).1]
      by_cases e1 : t.2.2.1 = s
      · have : s ≠ t.2.1 := fun e => hne (e1.trans e)
        simp [e1, this]
      · have e2 : ¬ s = t.2.2.1 := fun e => e1 e.symm
        simp [e1, e2]
    · rw [findL_with _ _ _ _ hnot, findL_less, findL_less, findL_less, findL_cons, (ha s).2, (ha t.2.1).2]
      by_cases e1 : t.2.2.1 = s
      · have : ¬ s = t.2.1 := fun e => hne (e1.trans e)
        simp [e1, this]
      · have e2 : ¬ s = t.2.2.1 := fun e => e1 e.symm
        simp [e1, e2]
  · obtain ⟨k, _, _, hf⟩ := h
    unfold turnL turnI
    rw [if_neg (by omega), if_neg (by omega), if_neg (by omega), if_neg (by omega), if_pos k]
    exact ⟨fun s => ⟨by rw [hasL_less, hasL_less, (ha s).1], by rw [findL_less, findL_less, (ha s).2]⟩, hp.less _⟩

theorem turnOk_iff {l m : List LinkD} {t : TurnD} (ha : Alike l m) (hp : Pos l) : turnOkL l t ↔ (turnOkI t ∧ turnFitsI m t) ∧ (t.1 = 1 → 0 < t.2.2.2.1) := by
  have hh : hasL m t.2.1 = true ↔ 0 < findL l t.2.1 := by rw [← (ha t.2.1).1]; exact findL_pos hp _
  have hh' : hasL m t.2.1 = false ↔ ¬ 0 < findL l t.2.1 := by rw [← hh]; simp
  constructor
  · rintro ⟨hn, h | h | h⟩
    · obtain ⟨k, h1, h2, h3⟩ := h
      exact ⟨⟨.inl ⟨k, hn, h1⟩, by unfold turnFitsI; rw [if_pos k]; exact hh'.2 h3⟩, fun _ => h2⟩
    · obtain ⟨k, h1, h2, h3, h4⟩ := h
      exact ⟨⟨.inr (.inl ⟨k, hn, h1, h3⟩), by unfold turnFitsI; rw [if_neg (by omega), if_pos k]; exact ⟨hh.2 h4, h2⟩⟩, fun e => by omega⟩
    · obtain ⟨k, h1, h2, h3⟩ := h
      exact ⟨⟨.inr (.inr ⟨k, hn, h1, h2⟩), by unfold turnFitsI; rw [if_neg (by omega), if_neg (by omega)]; exact hh.2 h3⟩, fun e => by omega⟩
  · rintro ⟨⟨h | h | h, hf⟩, hid⟩
    · obtain ⟨k, hn, h1⟩ := h
      unfold turnFitsI at hf; rw [if_pos k] at hf
      exact ⟨hn, .inl ⟨k, h1, hid k, hh'.1 hf⟩⟩
    · obtain ⟨k, hn, h1, h2⟩ := h
      unfold turnFitsI at hf; rw [if_neg (by omega), if_pos k] at hf
      exact ⟨hn, .inr (.inl ⟨k, h1, hf.2, h2, hh.1 hf.1⟩)⟩
    · obtain ⟨k, hn, h1, h2⟩ := h
      unfold turnFitsI at hf; rw [if_neg (by omega), if_neg (by omega)] at hf
      exact ⟨hn, .inr (.inr ⟨k, h1, h2, hh.1 hf⟩)⟩

theorem turnsOk_iff : ∀ {ts : List TurnD} {l m : List LinkD}, Alike l m → Pos l → (turnsOkL l ts ↔ turnsOkI m ts ∧ ∀ t ∈ ts, t.1 = 1 → 0 < t.2.2.2.1)
  | [], _, _, _, _ => by simp [turnsOkL, turnsOkI]
  | t :: ts, l, m, ha, hp => by
    unfold turnsOkL turnsOkI
    constructor
    · rintro ⟨h1, h2⟩
      have h3 := turn_alike ha hp h1
      have h4 := (turnOk_iff ha hp).1 h1
      have h5 := (turnsOk_iff h3.1 h3.2).1 h2
      exact ⟨⟨h4.1, h5.1⟩, fun x hx => by rcases List.mem_cons.1 hx with rfl | h; exact h4.2; exact h5.2 x h⟩
    · rintro ⟨⟨h1, h2⟩, h3⟩
      have h4 := (turnOk_iff ha hp).2 ⟨h1, h3 t List.mem_cons_self⟩
      have h5 := turn_alike ha hp h4
      exact ⟨h4, (turnsOk_iff h5.1 h5.2).2 ⟨h2, fun x hx => h3 x (List.mem_cons_of_mem _ hx)⟩⟩

end Go.Proofs.YtkaegbhmeonjfaaGreat

/- TyTurn: The type Turn of the laws: its shape, and what szTurn, toTurn, eqTurn and those of its slices do. By program (tygen.py). -/
namespace Go.Proofs.YtkaegbhmeonjfaaGreat
open Go.RowKit
set_option linter.unusedVariables false
set_option maxRecDepth 100000

def shTurn : Sh := Sh.ofL [.int, .str, .str, .int]

theorem open_Turn {w : World} {cs : List Value} {d : shTurn.D} (h : Reads shTurn w cs d) :
    cs = [.int .i64 (d.1), .string (d.2.1), .string (d.2.2.1), .int .i64 (d.2.2.2.1)] ∧ ByteArray.size d.2.1 ≤ maxLen ∧ ByteArray.size d.2.2.1 ≤ maxLen := by
  obtain ⟨_, _, rfl, h0, _, _, rfl, h1, _, _, rfl, h2, _, _, rfl, h3, hE⟩ := h
  have e0 : _ = _ := h0
  obtain ⟨e1, l1⟩ := h1
  obtain ⟨e2, l2⟩ := h2
  have e3 : _ = _ := h3
  have eE : _ = _ := hE
  subst e0 e1 e2 e3 eE
  exact ⟨rfl, l1, l2⟩

theorem own_Turn {w : World} {B : Nat} {d : shTurn.D} (l1 : ByteArray.size d.2.1 ≤ maxLen) (l2 : ByteArray.size d.2.2.1 ≤ maxLen) :
    Own shTurn w B [.int .i64 (d.1), .string (d.2.1), .string (d.2.2.1), .int .i64 (d.2.2.2.1)] d ([]) := by
  exact ⟨[_], _, [], [], rfl, rfl, ⟨rfl, rfl⟩, ⟨[_], _, [], [], rfl, rfl, ⟨⟨rfl, l1⟩, rfl⟩, ⟨[_], _, [], [], rfl, rfl, ⟨⟨rfl, l2⟩, rfl⟩, ⟨[_], _, [], [], rfl, rfl, ⟨rfl, rfl⟩, ⟨rfl, rfl⟩⟩⟩⟩⟩

theorem size_Turn : shTurn.size = 4 := rfl

theorem sz_Turn (d : shTurn.D) : shTurn.sz d = Sh.sz .str d.2.1 + Sh.sz .str d.2.2.1 := by
  show 0 + (Sh.sz .str d.2.1 + (Sh.sz .str d.2.2.1 + (0 + (0)))) = _
  omega

set_option maxHeartbeats 1000000 in
theorem szTurn_any (cs : List Value) (d : shTurn.D) (left : Int) (w : World) (hr : Reads shTurn w cs d) (h0 : 0 ≤ left) (h1 : left ≤ 1048576) :
    Calls Tryz.prog 75 #[.agg cs.toArray, .int .i64 left] w fun e w' => e = .returned (.int .i64 (szAns (shTurn.sz d) left)) ∧ Below w.heap.size w w' := by
  obtain ⟨rfl, r1, r2⟩ := open_Turn hr
  obtain ⟨x0, e0⟩ : ∃ x : Int, x = d.1 := ⟨_, rfl⟩
  obtain ⟨x1, e1⟩ : ∃ x : ByteArray, x = d.2.1 := ⟨_, rfl⟩
  obtain ⟨x2, e2⟩ : ∃ x : ByteArray, x = d.2.2.1 := ⟨_, rfl⟩
  obtain ⟨x3, e3⟩ : ∃ x : Int, x = d.2.2.2.1 := ⟨_, rfl⟩

  rw [sz_Turn]
  obtain ⟨k1, hk1⟩ : ∃ k, k = Sh.sz .str d.2.1 := ⟨_, rfl⟩
  have hx1 : k1 = x1.size := by rw [hk1, e1]; rfl
  have hm1 : x1.size ≤ 9223372036854775807 := by rw [e1]; exact r1
  obtain ⟨k2, hk2⟩ : ∃ k, k = Sh.sz .str d.2.2.1 := ⟨_, rfl⟩
  have hx2 : k2 = x2.size := by rw [hk2, e2]; rfl
  have hm2 : x2.size ≤ 9223372036854775807 := by rw [e2]; exact r2
  rw [← hk1, ← hk2]
  rw [← e0, ← e1, ← e2, ← e3]
  have HX1 : Hid (k1 = x1.size) := hx1
  have HX2 : Hid (k2 = x2.size) := hx2
  clear hr r1 r2 hk1 hk2 e0 e1 e2 e3 hx1 hx2
  obtain ⟨W0, hW0⟩ : ∃ W0, W0 = w.alloc (.cells #[.int .i64 x0, .string x1, .string x2, .int .i64 x3] 110) := ⟨_, rfl⟩
  have bW0 : Below w.heap.size w W0 := by rw [hW0]; exact (Below.refl _ _).alloc (Nat.le_refl _) _
  have hbox : W0.heap[w.heap.size]? = some (.cells #[.int .i64 x0, .string x1, .string x2, .int .i64 x3] 110 (0, 0)) := by rw [hW0]; exact heap_alloc_new w _
  have zW0 : W0.heap.size = w.heap.size + 1 := by rw [hW0]; simp
  have HW0 : Hid (W0 = _) := hW0
  have HBX : Hid _ := hbox
  clear hW0 hbox
  go_enter Tryz.func75, Tryz.ntmps75
  have HH1 := HX1.out
  by_cases t1 : (k1 : Int) ≤ left
  rotate_left
  · have E : Hid (szAns (k1 + k2) left = -1) := szAns_no (by omega)
    have u1 : (left - (x1.size : Int) < 0) := by omega
    clear HH1
    go_wp2
    go_ret
    exact ⟨by rw [E.out]; rfl, by rw [← HW0.out]; exact bW0⟩
  have u1 : ¬ (left - (x1.size : Int) < 0) := by omega
  have HH2 := HX2.out
  by_cases t2 : (k2 : Int) ≤ left - (x1.size : Int)
  rotate_left
  · have E : Hid (szAns (k1 + k2) left = -1) := szAns_no (by omega)
    have u2 : (left - (x1.size : Int) - (x2.size : Int) < 0) := by omega
    clear HH1 HH2
    go_wp2
    go_ret
    exact ⟨by rw [E.out]; rfl, by rw [← HW0.out]; exact bW0⟩
  have u2 : ¬ (left - (x1.size : Int) - (x2.size : Int) < 0) := by omega
  have E : Hid (szAns (k1 + k2) left = left - (x1.size : Int) - (x2.size : Int)) := by show _ = _; rw [szAns_yes (by omega)]; omega
  clear HH1 HH2
  go_wp2
  go_ret
  exact ⟨by rw [E.out]; rfl, by rw [← HW0.out]; exact bW0⟩

theorem opens_Turn {H : Type} {enc : TypeId × Value → H} {w : World} {spare : Nat → Bool} {held : Bool} : Opens enc Tryz.prog w spare held 110 shTurn := by
  refine opens_struct [.int, .str, .str, .int] Tryz.underlying110 (by kernel_rfl) (fun i s hi => ?_)
  match i, hi with
  | 0, hi => obtain rfl := Option.some.inj hi; exact ⟨_, rfl, opens_int Tryz.underlying3 (by kernel_rfl), rfl⟩
  | 1, hi => obtain rfl := Option.some.inj hi; exact ⟨_, rfl, opens_str Tryz.underlying9 (by kernel_rfl), rfl⟩
  | 2, hi => obtain rfl := Option.some.inj hi; exact ⟨_, rfl, opens_str Tryz.underlying9 (by kernel_rfl), rfl⟩
  | 3, hi => obtain rfl := Option.some.inj hi; exact ⟨_, rfl, opens_int Tryz.underlying3 (by kernel_rfl), rfl⟩
  | n + 4, hi => simp at hi

set_option maxRecDepth 100000 in
set_option maxHeartbeats 1000000 in
theorem toTurn_any (cs : List Value) (d : shTurn.D) (w : World) (hr : Reads shTurn w cs d) (hs : shTurn.sz d ≤ 1048576) :
    Calls Tryz.prog 83 #[.agg cs.toArray] w fun e w' => ∃ cs' F, e = .returned (.agg cs'.toArray) ∧ Own shTurn w' w.heap.size cs' d F ∧ F.Nodup ∧ Below w.heap.size w w' := by
  obtain ⟨rfl, r1, r2⟩ := open_Turn hr
  obtain ⟨x0, e0⟩ : ∃ x : Int, x = d.1 := ⟨_, rfl⟩
  obtain ⟨x1, e1⟩ : ∃ x : ByteArray, x = d.2.1 := ⟨_, rfl⟩
  obtain ⟨x2, e2⟩ : ∃ x : ByteArray, x = d.2.2.1 := ⟨_, rfl⟩
  obtain ⟨x3, e3⟩ : ∃ x : Int, x = d.2.2.2.1 := ⟨_, rfl⟩

  rw [sz_Turn] at hs
  rw [← e0, ← e1, ← e2, ← e3]
  have HE : Hid (x0 = d.1 ∧ x1 = d.2.1 ∧ x2 = d.2.2.1 ∧ x3 = d.2.2.2.1 ∧ ByteArray.size d.2.1 ≤ maxLen ∧ ByteArray.size d.2.2.1 ≤ maxLen ∧ True) := ⟨e0, e1, e2, e3, r1, r2, trivial⟩
  clear hr hs r1 r2 e0 e1 e2 e3
  go_enter Tryz.func83, Tryz.ntmps83
  go_wp2
  go_returns
  refine ⟨[.int .i64 x0, .string x1, .string x2, .int .i64 x3], [], rfl, ?_, List.nodup_nil, (((Below.refl _ _).alloc (Nat.le_refl _) _).alloc (by simp) _).alloc (by simp; omega) _⟩
  have := fun w' => own_Turn (w := w') (B := w.heap.size) (d := d) HE.out.2.2.2.2.1 HE.out.2.2.2.2.2.1
  simp only [← HE.out.1, ← HE.out.2.1, ← HE.out.2.2.1, ← HE.out.2.2.2.1] at this
  exact this _

set_option maxRecDepth 100000 in
set_option maxHeartbeats 1000000 in
theorem szTurnS_any (a : Option Addr) (n cap : Nat) (d : List shTurn.D) (left : Int) (w : World) (hr : Reads (.sl shTurn) w [.slice a n cap] d) (h0 : 0 ≤ left) (h1 : left ≤ 1048576) :
    Calls Tryz.prog 30 #[.slice a n cap, .int .i64 left] w fun e w' => e = .returned (.int .i64 (szAns (Sh.sz (.sl shTurn) d) left)) ∧ Below w.heap.size w w' := by
  obtain ⟨hl, hc1, hc2⟩ := reads_len hr
  unfold maxLen at hc2
  obtain ⟨K, hK⟩ : ∃ K, K = (List.map shTurn.sz d).sum := ⟨_, rfl⟩
  have hs : Sh.sz (.sl shTurn) d = n + K := by rw [hK, ← hl]; rfl
  rw [hs]
  have HR : Hid (Reads (.sl shTurn) w [.slice a n cap] d) := hr
  have HK : Hid (K = (List.map shTurn.sz d).sum) := hK
  have HL : Hid (d.length = n) := hl
  clear hr hK hs hl
  by_cases h : (n : Int) ≤ left
  · have h2 : ¬ (left - (n : Int) < 0) := by omega
    go_enter Tryz.func30, Tryz.ntmps30
    go_wp2
    go_loopw [1, 5] (fun l i wr => ∃ k S : Nat, k ≤ n ∧ i = .int .i64 k ∧ l = .int .i64 (left - n - S) ∧ Hid (S = szTo shTurn d k) ∧ (n : Int) + S ≤ left ∧ Below w.heap.size w wr) (fun _ i _ => n - (intOf i).toNat)
    case atStart => exact ⟨0, 0, by omega, rfl, by simp, (szTo_zero _ _).symm, by omega, Below.refl _ _⟩
    case round =>
      obtain ⟨k, S, hk, rfl, rfl, hS, hle, hbel⟩ := hrel
      by_cases hlt : k < n
      · obtain ⟨b, off, c, x, rfl, hb, hx, hrx, hcell⟩ := reads_elem HR.out k hlt
        have Sx := szTo_succ shTurn d k x hx
        have Sle := szTo_le shTurn d (k + 1)
        obtain ⟨X, hX⟩ : ∃ X, X = shTurn.sz x := ⟨_, rfl⟩
        have q : Hid (∀ l : Int, 0 ≤ l → l ≤ 1048576 → Calls Tryz.prog 75 #[.agg c.toArray, .int .i64 l] wr fun e w'' => e = .returned (.int .i64 (szAns X l)) ∧ Below wr.heap.size wr w'') := fun l l0 l1 => by rw [hX]; exact szTurn_any c x l wr (hrx.later hbel) l0 l1
        have HX : Hid (szTo shTurn d (k + 1) = S + X ∧ S + X ≤ K) := ⟨by rw [Sx, hS.out, hX], by rw [HK.out, hS.out, hX, ← Sx]; exact Sle⟩
        have hXK := HX.out.2
        obtain ⟨rfl, _, _⟩ := open_Turn hrx
        obtain ⟨y0, ey0⟩ : ∃ y : Int, y = x.1 := ⟨_, rfl⟩
        obtain ⟨y1, ey1⟩ : ∃ y : ByteArray, y = x.2.1 := ⟨_, rfl⟩
        obtain ⟨y2, ey2⟩ : ∃ y : ByteArray, y = x.2.2.1 := ⟨_, rfl⟩
        obtain ⟨y3, ey3⟩ : ∃ y : Int, y = x.2.2.2.1 := ⟨_, rfl⟩
        have g0 : wr.cell? ⟨b, off + k * 4, none⟩ = some (.int .i64 y0) := by rw [ey0]; exact (hbel.cell (p := ⟨b, off + (k * 4 + 0), none⟩) hb).trans (hcell 0 (by decide))
        have g1 : wr.cell? ⟨b, off + k * 4 + 1, none⟩ = some (.string y1) := by rw [ey1]; exact (hbel.cell (p := ⟨b, off + (k * 4 + 1), none⟩) hb).trans (hcell 1 (by decide))
        have g2 : wr.cell? ⟨b, off + k * 4 + 2, none⟩ = some (.string y2) := by rw [ey2]; exact (hbel.cell (p := ⟨b, off + (k * 4 + 2), none⟩) hb).trans (hcell 2 (by decide))
        have g3 : wr.cell? ⟨b, off + k * 4 + 3, none⟩ = some (.int .i64 y3) := by rw [ey3]; exact (hbel.cell (p := ⟨b, off + (k * 4 + 3), none⟩) hb).trans (hcell 3 (by decide))
        rw [← ey0, ← ey1, ← ey2, ← ey3] at q
        clear hcell hrx Sx Sle hX hx ey0 ey1 ey2 ey3
        go_wp2_with fail
        refine (q.out (left - n - S) (by omega) (by omega)).mono ?_
        rintro e w1 ⟨rfl, hb1⟩
        have hbel1 := hbel.trans (hb1.mono hbel.size)
        clear g0 g1 g2 g3
        by_cases t : (X : Int) ≤ left - n - S
        · rw [szAns_yes t]
          have u : ¬ (left - (n : Int) - (S : Int) - (X : Int) < 0) := by omega
          go_wp2
          go_roundw
          case rel => exact ⟨k + 1, S + X, by omega, by go_num, by congr 1; omega, HX.out.1.symm, by omega, hbel1⟩
          case measure => simp [intOf]; omega
        · rw [szAns_no t]
          have E : Hid (szAns (n + K) left = -1) := szAns_no (by omega)
          go_wp2
          go_ret
          exact ⟨by rw [E.out]; rfl, hbel1⟩
      · have e : k = n := by omega
        subst e
        have E : Hid (szAns (k + K) left = left - k - S) := by
          show _ = _
          have h3 : S = K := by rw [hS.out, HK.out]; exact szTo_all _ _ _ (by rw [HL.out]; exact Nat.le_refl _)
          rw [szAns_yes (by omega)]; omega
        go_wp2
        go_ret
        exact ⟨by rw [E.out]; rfl, hbel⟩
  · have h2 : (left - (n : Int) < 0) := by omega
    have E : Hid (szAns (n + K) left = -1) := szAns_no (by omega)
    go_enter Tryz.func30, Tryz.ntmps30
    go_wp2
    go_ret
    exact ⟨by rw [E.out]; rfl, Below.refl _ _⟩

theorem infoTurn : (Tryz.prog.info? 93).map (fun i => (i.zero, i.size, i.bytes)) = some (some (.agg #[.int .i64 0, .string ByteArray.empty, .string ByteArray.empty, .int .i64 0]), 4, 48) := by kernel_rfl

set_option maxRecDepth 100000 in
set_option maxHeartbeats 1000000 in
theorem toTurnS_own (a : Option Addr) (n cap : Nat) (d : List shTurn.D) (w : World) (hr : Reads (.sl shTurn) w [.slice a n cap] d) (hs : Sh.sz (.sl shTurn) d ≤ 1048576) :
    Calls Tryz.prog 38 #[.slice a n cap] w fun e w' => ∃ (g : Nat) (F : List Nat), e = .returned (.slice (some ⟨g, 0, none⟩) n n) ∧ Own (.sl shTurn) w' w.heap.size [.slice (some ⟨g, 0, none⟩) n n] d F ∧ F.Nodup ∧ Below w.heap.size w w' := by
  obtain ⟨i0, hi, hz0, hz1, hz2⟩ := info_parts infoTurn
  obtain ⟨hl, hc1, hc2⟩ := reads_len hr
  have hs' : n + (List.map shTurn.sz d).sum ≤ 1048576 := by rw [← hl]; exact hs
  have HS : Hid (n + (List.map shTurn.sz d).sum ≤ 1048576) := hs'
  have hn : n ≤ 1048576 := by omega
  have HR : Hid (Reads (.sl shTurn) w [.slice a n cap] d) := hr
  have HL : Hid (d.length = n) := hl
  clear hr hs hs' hl
  unfold maxLen at hc2
  go_enter Tryz.func38, Tryz.ntmps38
  go_wp2_with (at_make; refine wpList_make_full _ rfl _ _ 31 rfl w.heap.size 93 i0 (.agg #[.int .i64 0, .string ByteArray.empty, .string ByteArray.empty, .int .i64 0]) 4 Tryz.underlying31 hi hz0 hz1 _ _ _ _ n rfl rfl rfl rfl ?b2 ?b3 (Nat.le_refl _) ?_)
  case b2 => rw [hz2]; omega
  case b3 => unfold maxLen; omega
  intro w0 hown0 hgrow0
  have hb0 : Below w.heap.size w w0 := (Below.refl _ _).grown hgrow0 (Nat.le_refl _) (fun k h => by cases h)
  have hf0 : Fill shTurn 93 w0 w.heap.size w.heap.size n 0 d := by
    rcases hown0.2 with ⟨h1, _⟩ | ⟨g', cap', cur, hv, hg, hh, h1, h2, h3, h4⟩
    · simp at h1
    · simp only [Value.slice.injEq, Option.some.injEq, Addr.mk.injEq, and_true, true_and] at hv
      obtain ⟨rfl, rfl⟩ := hv
      exact Fill.zero HL.out (by unfold maxLen; omega) (Nat.le_refl _) hh h3
  clear hown0 hgrow0
  have H0 : Hid (Fill shTurn 93 w0 w.heap.size w.heap.size n 0 d ∧ Below w.heap.size w w0) := ⟨hf0, hb0⟩
  clear hf0 hb0
  go_wp2
  go_loopw [4] (fun i wr => ∃ k : Nat, k ≤ n ∧ i = .int .i64 k ∧ Hid (Fill shTurn 93 wr w.heap.size w.heap.size n k d) ∧ Below w.heap.size w wr) (fun i _ => n - (intOf i).toNat)
  case atStart => exact ⟨0, by omega, rfl, H0.out.1, H0.out.2⟩
  case round =>
    obtain ⟨k, hk, rfl, hfill, hbel⟩ := hrel
    by_cases hlt : k < n
    · obtain ⟨b, off, c, x, rfl, hb, hx, hrx, hcell⟩ := reads_elem HR.out k hlt
      have hxs := sz_elem shTurn d k x hx
      have q : Hid (Calls Tryz.prog 83 #[.agg c.toArray] wr fun e w' => ∃ cs' F, e = .returned (.agg cs'.toArray) ∧ Own shTurn w' wr.heap.size cs' x F ∧ F.Nodup ∧ Below wr.heap.size wr w') := toTurn_any c x wr (hrx.later hbel) (by have := HS.out; omega)
      have HX : Hid (shTurn.at d k = some x) := hx
      obtain ⟨rfl, _, _⟩ := open_Turn hrx
      obtain ⟨y0, ey0⟩ : ∃ y : Int, y = x.1 := ⟨_, rfl⟩
      obtain ⟨y1, ey1⟩ : ∃ y : ByteArray, y = x.2.1 := ⟨_, rfl⟩
      obtain ⟨y2, ey2⟩ : ∃ y : ByteArray, y = x.2.2.1 := ⟨_, rfl⟩
      obtain ⟨y3, ey3⟩ : ∃ y : Int, y = x.2.2.2.1 := ⟨_, rfl⟩
      have g0 : wr.cell? ⟨b, off + k * 4, none⟩ = some (.int .i64 y0) := by rw [ey0]; exact (hbel.cell (p := ⟨b, off + (k * 4 + 0), none⟩) hb).trans (hcell 0 (by decide))
      have g1 : wr.cell? ⟨b, off + k * 4 + 1, none⟩ = some (.string y1) := by rw [ey1]; exact (hbel.cell (p := ⟨b, off + (k * 4 + 1), none⟩) hb).trans (hcell 1 (by decide))
      have g2 : wr.cell? ⟨b, off + k * 4 + 2, none⟩ = some (.string y2) := by rw [ey2]; exact (hbel.cell (p := ⟨b, off + (k * 4 + 2), none⟩) hb).trans (hcell 2 (by decide))
      have g3 : wr.cell? ⟨b, off + k * 4 + 3, none⟩ = some (.int .i64 y3) := by rw [ey3]; exact (hbel.cell (p := ⟨b, off + (k * 4 + 3), none⟩) hb).trans (hcell 3 (by decide))
      rw [← ey0, ← ey1, ← ey2, ← ey3] at q
      have HEY : Hid (y0 = x.1 ∧ y1 = x.2.1 ∧ y2 = x.2.2.1 ∧ y3 = x.2.2.2.1 ∧ True) := ⟨ey0, ey1, ey2, ey3, trivial⟩
      clear hcell hrx hx hxs ey0 ey1 ey2 ey3
      go_wp2_with fail
      refine q.out.mono ?_
      rintro e w1 ⟨cs', F, he, ho, hnd, hb1⟩
      obtain ⟨hcs, _⟩ := open_Turn ho.reads
      rw [← HEY.out.1, ← HEY.out.2.1, ← HEY.out.2.2.1, ← HEY.out.2.2.2.1] at hcs
      subst hcs
      subst he
      have hbel1 := hbel.trans (hb1.mono hbel.size)
      have hfill1 := hfill.out.later hb1
      have hsz1 := hbel1.size
      obtain ⟨⟨u0, fc0⟩, ff0⟩ := hfill1.cell (k * 4) (by show _ < n * 4; omega)
      obtain ⟨⟨u1, fc1⟩, ff1⟩ := hfill1.cell (k * 4 + 1) (by show _ < n * 4; omega)
      obtain ⟨⟨u2, fc2⟩, ff2⟩ := hfill1.cell (k * 4 + 2) (by show _ < n * 4; omega)
      obtain ⟨⟨u3, fc3⟩, ff3⟩ := hfill1.cell (k * 4 + 3) (by show _ < n * 4; omega)
      have HF : Hid (Own shTurn w1 wr.heap.size [.int .i64 y0, .string y1, .string y2, .int .i64 y3] x F ∧ F.Nodup ∧ Below wr.heap.size wr w1) := ⟨ho, hnd, hb1⟩
      clear ho hnd hb1 hfill1 q g0 g1 g2 g3
      go_wp2_with fail
      obtain ⟨W, hW⟩ : ∃ W, W = ((((w1).setCell ⟨w.heap.size, k * 4, none⟩ (.int .i64 y0)).setCell ⟨w.heap.size, k * 4 + 1, none⟩ (.string y1)).setCell ⟨w.heap.size, k * 4 + 2, none⟩ (.string y2)).setCell ⟨w.heap.size, k * 4 + 3, none⟩ (.int .i64 y3) := ⟨_, rfl⟩
      have hstep : Fill shTurn 93 W w.heap.size w.heap.size n (k + 1) d := by
        refine hfill.out.step hlt HX.out HF.out.2.2 HF.out.1 HF.out.2.1 hbel.size ?_ ?_
        · intro l hh
          rw [hW]
          have := box_set (j := k * 4 + 3) (.int .i64 y3) (box_set (j := k * 4 + 2) (.string y2) (box_set (j := k * 4 + 1) (.string y1) (box_set (j := k * 4) (.int .i64 y0) hh)))
          rw [this]
          simp [setRow, size_Turn]
        · intro i hi
          rw [hW]
          exact ((box_other _ hi).trans ((box_other _ hi).trans ((box_other _ hi).trans (box_other _ hi))))
      have hbW : Below w.heap.size w W := by rw [hW]; exact ((((hbel1.setCell (by simp <;> omega) _).setCell (by simp <;> omega) _).setCell (by simp <;> omega) _).setCell (by simp <;> omega) _)
      rw [← hW]
      have HH : Hid (Fill shTurn 93 W w.heap.size w.heap.size n (k + 1) d ∧ Below w.heap.size w W) := ⟨hstep, hbW⟩
      clear hW hstep hbW fc0 ff0 fc1 ff1 fc2 ff2 fc3 ff3
      go_wp2
      go_roundw
      case rel => exact ⟨k + 1, by omega, by go_num, HH.out.1, HH.out.2⟩
      case measure => simp [intOf]; omega
    · have e : k = n := by omega
      subst e
      obtain ⟨F, hF1, hF2⟩ := hfill.out.full
      have HF : Hid (Own (.sl shTurn) wr w.heap.size [.slice (some ⟨w.heap.size, 0, none⟩) k k] d F ∧ F.Nodup) := ⟨hF1, hF2⟩
      clear hF1 hF2
      go_wp2
      go_ret
      exact ⟨_, F, rfl, HF.out.1, HF.out.2, hbel⟩

set_option maxRecDepth 100000 in
set_option maxHeartbeats 1000000 in
theorem eqTurn_any (cs1 cs2 : List Value) (d : shTurn.D) (w : World) (hr : Reads shTurn w cs1 d) (hq : Reads shTurn w cs2 d) (hs : shTurn.sz d ≤ 1048576) :
    Calls Tryz.prog 102 #[.agg cs1.toArray, .agg cs2.toArray] w fun e w' => e = .returned (.bool true) ∧ Below w.heap.size w w' := by
  obtain ⟨rfl, r1, r2⟩ := open_Turn hr
  obtain ⟨rfl, _, _⟩ := open_Turn hq
  obtain ⟨x0, e0⟩ : ∃ x : Int, x = d.1 := ⟨_, rfl⟩
  obtain ⟨x1, e1⟩ : ∃ x : ByteArray, x = d.2.1 := ⟨_, rfl⟩
  obtain ⟨x2, e2⟩ : ∃ x : ByteArray, x = d.2.2.1 := ⟨_, rfl⟩
  obtain ⟨x3, e3⟩ : ∃ x : Int, x = d.2.2.2.1 := ⟨_, rfl⟩

  rw [sz_Turn] at hs
  rw [← e0, ← e1, ← e2, ← e3]
  have ne0 : (x0 != x0) = false := by simp
  have ne1 : (x1.toList != x1.toList) = false := by simp
  have ne2 : (x2.toList != x2.toList) = false := by simp
  have ne3 : (x3 != x3) = false := by simp
  clear hr hq hs r1 r2 e0 e1 e2 e3
  obtain ⟨W0, hW0⟩ : ∃ W0, W0 = (w.alloc (.cells #[.int .i64 x0, .string x1, .string x2, .int .i64 x3] 93)).alloc (.cells #[.int .i64 x0, .string x1, .string x2, .int .i64 x3] 93) := ⟨_, rfl⟩
  have bW0 : Below w.heap.size w W0 := by rw [hW0]; exact ((Below.refl _ _).alloc (Nat.le_refl _) _).alloc (by simp) _
  have hA : W0.heap[w.heap.size]? = some (.cells #[.int .i64 x0, .string x1, .string x2, .int .i64 x3] 93 (0, 0)) := by rw [hW0, heap_alloc_old _ _ (by simp)]; exact heap_alloc_new w _
  have hB : W0.heap[w.heap.size + 1]? = some (.cells #[.int .i64 x0, .string x1, .string x2, .int .i64 x3] 93 (0, 0)) := by rw [hW0]; exact (by have := heap_alloc_new (w.alloc (.cells #[.int .i64 x0, .string x1, .string x2, .int .i64 x3] 93)) (.cells #[.int .i64 x0, .string x1, .string x2, .int .i64 x3] 93); simpa using this)
  have zW0 : W0.heap.size = w.heap.size + 1 + 1 := by rw [hW0]; simp
  have HW0 : Hid (W0 = _) := hW0
  have HAB : Hid (W0.heap[w.heap.size]? = some (.cells #[.int .i64 x0, .string x1, .string x2, .int .i64 x3] 93 (0, 0)) ∧ W0.heap[w.heap.size + 1]? = some (.cells #[.int .i64 x0, .string x1, .string x2, .int .i64 x3] 93 (0, 0))) := ⟨hA, hB⟩
  clear hW0 hA hB
  go_enter Tryz.func102, Tryz.ntmps102
  go_wp2
  go_ret
  exact ⟨rfl, by rw [← HW0.out]; exact bW0⟩

set_option maxRecDepth 100000 in
set_option maxHeartbeats 1000000 in
theorem eqTurnS_reads (a b : Option Addr) (n ca cb : Nat) (d : List shTurn.D) (w : World) (hr1 : Reads (.sl shTurn) w [.slice a n ca] d) (hr2 : Reads (.sl shTurn) w [.slice b n cb] d) (hs : Sh.sz (.sl shTurn) d ≤ 1048576) :
    Calls Tryz.prog 47 #[.slice a n ca, .slice b n cb] w fun e w' => e = .returned (.bool true) ∧ Below w.heap.size w w' := by
  obtain ⟨hl, hc1, hc2⟩ := reads_len hr1
  have hs' : n + (List.map shTurn.sz d).sum ≤ 1048576 := by rw [← hl]; exact hs
  have HS : Hid (n + (List.map shTurn.sz d).sum ≤ 1048576) := hs'
  have hn : n ≤ 1048576 := by omega
  have HR : Hid (Reads (.sl shTurn) w [.slice a n ca] d ∧ Reads (.sl shTurn) w [.slice b n cb] d) := ⟨hr1, hr2⟩
  clear hr1 hr2 hs hs' hl hc1 hc2
  have hnn : ((n : Int) != (n : Int)) = false := by simp
  go_enter Tryz.func47, Tryz.ntmps47
  go_wp2
  go_loopw [5] (fun i wr => ∃ k : Nat, k ≤ n ∧ i = .int .i64 k ∧ Below w.heap.size w wr) (fun i _ => n - (intOf i).toNat)
  case atStart => exact ⟨0, Nat.zero_le _, rfl, Below.refl _ _⟩
  case round =>
    obtain ⟨k, hk, rfl, hbel⟩ := hrel
    by_cases hlt : k < n
    · obtain ⟨b1, o1, c, x, rfl, hb1, hx, hrx, hcell⟩ := reads_elem HR.out.1 k hlt
      obtain ⟨b2, o2, c', x', rfl, hb2, hx', hrx', hcell'⟩ := reads_elem HR.out.2 k hlt
      obtain rfl : x = x' := Option.some.inj (hx.symm.trans hx')
      have hxs := sz_elem shTurn d k x hx
      have q : Hid (∀ w', Below wr.heap.size wr w' → Calls Tryz.prog 102 #[.agg c.toArray, .agg c'.toArray] w' fun e w'' => e = .returned (.bool true) ∧ Below w'.heap.size w' w'') := fun w' h' => eqTurn_any c c' x w' ((hrx.later hbel).later h') ((hrx'.later hbel).later h') (by have := HS.out; omega)
      obtain ⟨rfl, _, _⟩ := open_Turn hrx
      obtain ⟨rfl, _, _⟩ := open_Turn hrx'
      skip
      obtain ⟨y0, ey0⟩ : ∃ y : Int, y = x.1 := ⟨_, rfl⟩
      obtain ⟨y1, ey1⟩ : ∃ y : ByteArray, y = x.2.1 := ⟨_, rfl⟩
      obtain ⟨y2, ey2⟩ : ∃ y : ByteArray, y = x.2.2.1 := ⟨_, rfl⟩
      obtain ⟨y3, ey3⟩ : ∃ y : Int, y = x.2.2.2.1 := ⟨_, rfl⟩
      have g0 : wr.cell? ⟨b1, o1 + k * 4, none⟩ = some (.int .i64 y0) := by rw [ey0]; exact (hbel.cell (p := ⟨b1, o1 + (k * 4 + 0), none⟩) hb1).trans (hcell 0 (by decide))
      have g1 : wr.cell? ⟨b1, o1 + k * 4 + 1, none⟩ = some (.string y1) := by rw [ey1]; exact (hbel.cell (p := ⟨b1, o1 + (k * 4 + 1), none⟩) hb1).trans (hcell 1 (by decide))
      have g2 : wr.cell? ⟨b1, o1 + k * 4 + 2, none⟩ = some (.string y2) := by rw [ey2]; exact (hbel.cell (p := ⟨b1, o1 + (k * 4 + 2), none⟩) hb1).trans (hcell 2 (by decide))
      have g3 : wr.cell? ⟨b1, o1 + k * 4 + 3, none⟩ = some (.int .i64 y3) := by rw [ey3]; exact (hbel.cell (p := ⟨b1, o1 + (k * 4 + 3), none⟩) hb1).trans (hcell 3 (by decide))
      have f0 : wr.cell? ⟨b2, o2 + k * 4, none⟩ = some (.int .i64 y0) := by rw [ey0]; exact (hbel.cell (p := ⟨b2, o2 + (k * 4 + 0), none⟩) hb2).trans (hcell' 0 (by decide))
      have f1 : wr.cell? ⟨b2, o2 + k * 4 + 1, none⟩ = some (.string y1) := by rw [ey1]; exact (hbel.cell (p := ⟨b2, o2 + (k * 4 + 1), none⟩) hb2).trans (hcell' 1 (by decide))
      have f2 : wr.cell? ⟨b2, o2 + k * 4 + 2, none⟩ = some (.string y2) := by rw [ey2]; exact (hbel.cell (p := ⟨b2, o2 + (k * 4 + 2), none⟩) hb2).trans (hcell' 2 (by decide))
      have f3 : wr.cell? ⟨b2, o2 + k * 4 + 3, none⟩ = some (.int .i64 y3) := by rw [ey3]; exact (hbel.cell (p := ⟨b2, o2 + (k * 4 + 3), none⟩) hb2).trans (hcell' 3 (by decide))
      rw [← ey0, ← ey1, ← ey2, ← ey3] at q
      have hbs := hbel.size
      have hlt' : (k : Int) < (n : Int) := by omega
      have hbb : Below wr.heap.size wr wr := Below.refl _ _
      clear hcell hrx hx hxs hcell' hrx' hx' ey0 ey1 ey2 ey3
      go_wp2_with fail
      go_region_held (fun w' => w'.cell? ⟨b1, o1 + k * 4, none⟩ = some (.int .i64 y0) ∧ w'.cell? ⟨b1, o1 + k * 4 + 1, none⟩ = some (.string y1) ∧ w'.cell? ⟨b1, o1 + k * 4 + 2, none⟩ = some (.string y2) ∧ w'.cell? ⟨b1, o1 + k * 4 + 3, none⟩ = some (.int .i64 y3) ∧ w'.cell? ⟨b2, o2 + k * 4, none⟩ = some (.int .i64 y0) ∧ w'.cell? ⟨b2, o2 + k * 4 + 1, none⟩ = some (.string y1) ∧ w'.cell? ⟨b2, o2 + k * 4 + 2, none⟩ = some (.string y2) ∧ w'.cell? ⟨b2, o2 + k * 4 + 3, none⟩ = some (.int .i64 y3))
        (first | go_keep | (refine ⟨(hb7.cell (p := ⟨b1, o1 + k * 4, none⟩) (by simp; omega)).trans ?_, (hb7.cell (p := ⟨b1, o1 + k * 4 + 1, none⟩) (by simp; omega)).trans ?_, (hb7.cell (p := ⟨b1, o1 + k * 4 + 2, none⟩) (by simp; omega)).trans ?_, (hb7.cell (p := ⟨b1, o1 + k * 4 + 3, none⟩) (by simp; omega)).trans ?_, (hb7.cell (p := ⟨b2, o2 + k * 4, none⟩) (by simp; omega)).trans ?_, (hb7.cell (p := ⟨b2, o2 + k * 4 + 1, none⟩) (by simp; omega)).trans ?_, (hb7.cell (p := ⟨b2, o2 + k * 4 + 2, none⟩) (by simp; omega)).trans ?_, (hb7.cell (p := ⟨b2, o2 + k * 4 + 3, none⟩) (by simp; omega)).trans ?_⟩ <;> assumption))
        ((go_at_call 102; refine (q.out _ (Below.drew hbb)).mono ?_; rintro e w7 ⟨rfl, hb7⟩))
      have hbel7 : Below w.heap.size w w7 := hbel.trans (((Below.drew hbb).trans (hb7.mono (by simp))).mono hbel.size)
      clear hb7
      go_wp2
      go_roundw
      case rel => exact ⟨k + 1, by omega, by go_num, hbel7⟩
      case measure => simp [intOf]; omega
    · go_wp2
      go_ret
      exact ⟨rfl, hbel⟩

end Go.Proofs.YtkaegbhmeonjfaaGreat

/- OwnM: Data of the call's own that is written into: 'Touch' (only the blocks F turn), one element of a slice opened and shut again. -/
namespace Go.Proofs.YtkaegbhmeonjfaaGreat
open Go.RowKit
set_option linter.unusedVariables false
set_option maxRecDepth 100000

/-- From w to w' only the blocks F of those that were there have turned. -/
structure Touch (w w' : World) (F : List Nat) : Prop where
  os : w'.os = w.os
  tape : w'.tape = w.tape
  output : w'.output = w.output
  size : w.heap.size ≤ w'.heap.size
  block : ∀ i, i < w.heap.size → i ∉ F → w'.heap[i]? = w.heap[i]?

theorem Touch.refl (w : World) (F : List Nat) : Touch w w F := ⟨rfl, rfl, rfl, Nat.le_refl _, fun _ _ _ => rfl⟩
theorem Touch.trans {a b c : World} {F : List Nat} (h : Touch a b F) (k : Touch b c F) : Touch a c F :=
  ⟨k.os.trans h.os, k.tape.trans h.tape, k.output.trans h.output, Nat.le_trans h.size k.size, fun i hi hf => (k.block i (Nat.lt_of_lt_of_le hi h.size) hf).trans (h.block i hi hf)⟩
theorem Touch.mono {a b : World} {F G : List Nat} (h : Touch a b F) (hs : ∀ x ∈ F, x ∈ G) : Touch a b G :=
  ⟨h.os, h.tape, h.output, h.size, fun i hi hf => h.block i hi fun hm => hf (hs i hm)⟩
theorem Touch.of_below {w w' : World} (h : Below w.heap.size w w') (F : List Nat) : Touch w w' F := ⟨h.os, h.tape, h.output, h.size, fun i hi _ => h.block i hi⟩
theorem Touch.of_grown {w w' : World} {g : Nat} (h : w.grownBy w' (some g)) {F : List Nat} (hg : g ∈ F) : Touch w w' F :=
  ⟨h.os, h.tape, h.output, h.size, fun i hi hf => h.block i hi fun e => hf (by cases e; exact hg)⟩
theorem Touch.set (w : World) (g j : Nat) (v : Value) {F : List Nat} (hg : g ∈ F) : Touch w (w.setCell ⟨g, j, none⟩ v) F :=
  ⟨rfl, rfl, rfl, by simp, fun i _ hf => box_other v fun e => hf (e ▸ hg)⟩
theorem Touch.below {B : Nat} {a w w' : World} {F : List Nat} (h : Touch w w' F) (hb : Below B a w) (hB : B ≤ w.heap.size) (hF : ∀ g ∈ F, B ≤ g) : Below B a w' :=
  ⟨h.os.trans hb.os, h.tape.trans hb.tape, h.output.trans hb.output, Nat.le_trans hb.size h.size, fun i hi => (h.block i (by omega) fun hm => by have := hF i hm; omega).trans (hb.block i hi)⟩
theorem Touch.own {s : Sh} {w w' : World} {B : Nat} {cs : List Value} {d : s.D} {F G : List Nat} (h : Touch w w' F) (ho : Own s w B cs d G) (hd : ∀ g ∈ G, g ∉ F) : Own s w' B cs d G :=
  ho.keep fun g hg => h.block g (ho.lt g hg).2 (hd g hg)

theorem disj_flatten : ∀ {L : List (List Nat)} {i k : Nat} {a b : List Nat}, L.flatten.Nodup → L[i]? = some a → L[k]? = some b → i ≠ k → ∀ x ∈ a, x ∉ b
  | [], i, k, a, b, _, h, _, _ => by simp at h
  | l :: L, 0, 0, a, b, _, _, _, hne => absurd rfl hne
  | l :: L, 0, k + 1, a, b, hn, ha, hb, _ => by
    intro x hx hxb
    simp at ha; subst ha
    rw [List.flatten_cons, List.nodup_append] at hn
    exact hn.2.2 x hx x (List.mem_flatten.2 ⟨b, List.mem_of_getElem? (by simpa using hb), hxb⟩) rfl
  | l :: L, i + 1, 0, a, b, hn, ha, hb, _ => by
    intro x hx hxb
    simp at hb; subst hb
    rw [List.flatten_cons, List.nodup_append] at hn
    exact hn.2.2 x hxb x (List.mem_flatten.2 ⟨a, List.mem_of_getElem? (by simpa using ha), hx⟩) rfl
  | l :: L, i + 1, k + 1, a, b, hn, ha, hb, hne => by
    rw [List.flatten_cons, List.nodup_append] at hn
    exact disj_flatten hn.2.1 (by simpa using ha) (by simpa using hb) (by omega)

theorem nodup_of_flatten : ∀ {L : List (List Nat)} {i : Nat} {a : List Nat}, L.flatten.Nodup → L[i]? = some a → a.Nodup
  | [], i, a, _, h => by simp at h
  | l :: L, 0, a, hn, h => by
    simp at h; subst h
    rw [List.flatten_cons, List.nodup_append] at hn
    exact hn.1
  | l :: L, i + 1, a, hn, h => by
    rw [List.flatten_cons, List.nodup_append] at hn
    exact nodup_of_flatten hn.2.1 (by simpa using h)

theorem take_mid (A c Z : List Value) (m : Nat) (h : A.length + c.length ≤ m) : (A ++ (c ++ Z)).take m = A ++ (c ++ Z.take (m - (A.length + c.length))) := by
  rw [← List.append_assoc, List.take_append, List.take_of_length_le (by simp; omega), List.length_append, List.append_assoc]

theorem flatten_take {n : Nat} : ∀ {l : List (List Value)} (i : Nat), (∀ d ∈ l, d.length = n) → l.flatten.take (i * n) = (l.take i).flatten
  | [], i, _ => by simp
  | d :: l, 0, _ => by simp
  | d :: l, i + 1, h => by
    have hd := h d (by simp)
    rw [List.flatten_cons, List.take_succ_cons, List.flatten_cons, Nat.add_mul, Nat.one_mul, Nat.add_comm, ← hd, List.take_length_add_append, hd, flatten_take i (fun x hx => h x (by simp [hx]))]

theorem flatten_drop {n : Nat} : ∀ {l : List (List Value)} (i : Nat), (∀ d ∈ l, d.length = n) → l.flatten.drop (i * n) = (l.drop i).flatten
  | [], i, _ => by simp
  | d :: l, 0, _ => by simp
  | d :: l, i + 1, h => by
    have hd := h d (by simp)
    rw [List.flatten_cons, List.drop_succ_cons, Nat.add_mul, Nat.one_mul, Nat.add_comm, ← hd, List.drop_length_add_append, hd, flatten_drop i (fun x hx => h x (by simp [hx]))]

theorem setRow_eq (l c : List Value) (p : Nat) (h : p + c.length ≤ l.length) : setRow l p c = l.take p ++ (c ++ l.drop (p + c.length)) := by
  have e : l = l.take p ++ l.drop p := (List.take_append_drop p l).symm
  have hl : (l.take p).length = p := by rw [List.length_take]; omega
  have := setRow_at c (l.take p) (l.drop p) (by rw [List.length_drop]; omega)
  rw [hl, ← e] at this
  rw [this, List.drop_drop]

theorem set_flatten {l : List (List Value)} {i : Nat} {c : List Value} (hi : i < l.length) : (l.set i c).flatten = (l.take i).flatten ++ (c ++ (l.drop (i + 1)).flatten) := by
  rw [List.set_eq_take_append_cons_drop, if_pos hi, List.flatten_append, List.flatten_cons]

/-- One element opened; and what shuts it again. -/
theorem own_elem {e : Sh} {w : World} {B g n cap : Nat} {d : List e.D} {F : List Nat} (h : Own (.sl e) w B [.slice (some ⟨g, 0, none⟩) n cap] d F) (hnd : F.Nodup) (i : Nat) (hi : i < n) :
    ∃ (t : TypeId) (cur : Array Value) (c : List Value) (x : e.D) (f : List Nat), w.heap[g]? = some (.cells cur t (0, 0)) ∧ e.at d i = some x ∧ Own e w B c x f ∧ f.Nodup ∧ g ∉ f ∧ (∀ y ∈ f, y ∈ F) ∧ g ∈ F ∧ B ≤ g ∧
      (∀ j, j < e.size → cur[i * e.size + j]? = c[j]?) ∧
      ∀ (w2 : World) (c' : List Value) (x' : e.D), Own e w2 B c' x' f → w2.heap[g]? = some (.cells (setRow cur.toList (i * e.size) c').toArray t (0, 0)) → (∀ y ∈ F, y ≠ g → y ∉ f → w2.heap[y]? = w.heap[y]?) →
        Own (.sl e) w2 B [.slice (some ⟨g, 0, none⟩) n cap] (List.set d i x') F := by
  rcases h with ⟨h1, _⟩ | ⟨g', cap', t, cur, Cs, Fs, hcs, hB, hh, h1, h2, h3, h4, h5, h6, hFF, he⟩
  · simp at h1
  · simp only [List.cons.injEq, Value.slice.injEq, Option.some.injEq, Addr.mk.injEq, and_true] at hcs
    obtain ⟨rfl, hn, rfl⟩ := hcs
    have h1 : d.length ≤ cap := h1
    have h4 : cur.toList.take (d.length * e.size) = Cs.flatten := h4
    have h5 : Cs.length = d.length := h5
    have h6 : Fs.length = d.length := h6
    have hid : i < d.length := by omega
    have hCi : Cs[i]? = some Cs[i] := List.getElem?_eq_getElem (by omega)
    have hFi : Fs[i]? = some Fs[i] := List.getElem?_eq_getElem (by omega)
    have hxi : e.at d i = some d[i] := List.getElem?_eq_getElem hid
    have ho := he i _ _ _ hCi hxi hFi
    have hall : ∀ c ∈ Cs, c.length = e.size := by
      intro c hc
      obtain ⟨k, hk, rfl⟩ := List.mem_iff_getElem.1 hc
      have hkd : k < d.length := by omega
      exact e.ow_length (he k Cs[k] d[k] Fs[k] (List.getElem?_eq_getElem hk) (List.getElem?_eq_getElem hkd) (List.getElem?_eq_getElem (by omega)))
    rw [hFF] at hnd
    have hnd2 := (List.nodup_cons.1 hnd)
    have hfl : Cs.flatten.length = d.length * e.size := by
      rw [List.length_flatten]
      have : Cs.map List.length = Cs.map fun _ => e.size := List.map_congr_left hall
      rw [this]
      simp [List.map_const', h5]
    have hmul : (i + 1) * e.size ≤ d.length * e.size := Nat.mul_le_mul_right _ hid
    rw [Nat.add_mul, Nat.one_mul] at hmul
    have hcap : d.length * e.size ≤ cap * e.size := Nat.mul_le_mul_right _ h1
    refine ⟨t, cur, Cs[i], d[i], Fs[i], hh, hxi, ho, nodup_of_flatten hnd2.2 hFi, fun hm => hnd2.1 (List.mem_flatten.2 ⟨_, List.mem_of_getElem? hFi, hm⟩), fun y hy => ?_, ?_, hB, fun j hj => ?_, ?_⟩
    · rw [hFF]; exact List.mem_cons_of_mem _ (List.mem_flatten.2 ⟨_, List.mem_of_getElem? hFi, hy⟩)
    · rw [hFF]; exact List.mem_cons_self
    · have := flatten_get (l := Cs) (n := e.size) (i := i) (j := j) (c := Cs[i]) (fun k d hk => hall d (List.mem_of_getElem? hk)) hCi hj
      rw [← h4, List.getElem?_take_of_lt (by omega)] at this
      rw [← this]; simp
    · intro w2 c' x' ho' hg' hoth
      have hcl := ho'.length
      have hlen : cur.toList.length = cap * e.size := by simpa using h3
      have hsr : setRow cur.toList (i * e.size) c' = cur.toList.take (i * e.size) ++ (c' ++ cur.toList.drop (i * e.size + e.size)) := by
        rw [setRow_eq _ _ _ (by rw [hlen, hcl]; omega), hcl]
      refine .inr ⟨g, cap, t, _, Cs.set i c', Fs, ?_, hB, hg', ?_, h2, ?_, ?_, ?_, ?_, hFF, ?_⟩
      · show _ = [Value.slice _ (List.length (List.set d i x')) cap]
        rw [List.length_set, hn]
      · show List.length (List.set d i x') ≤ cap
        rw [List.length_set]; exact h1
      · rw [hsr]
        simp only [List.size_toArray, List.length_append, List.length_take, List.length_drop, hlen, hcl]
        omega
      · show (setRow cur.toList (i * e.size) c').toArray.toList.take (List.length (List.set d i x') * e.size) = _
        rw [List.length_set, set_flatten (by omega)]
        show (setRow cur.toList (i * e.size) c').take (d.length * e.size) = _
        have e1 : (cur.toList.take (i * e.size)).length = i * e.size := by rw [List.length_take, hlen]; omega
        rw [hsr, take_mid _ _ _ _ (by rw [e1, hcl]; omega), e1, hcl, ← flatten_take i hall, ← flatten_drop (i + 1) hall, ← h4, List.take_take, List.drop_take, Nat.min_eq_left (by omega), Nat.add_mul, Nat.one_mul]
      · show (Cs.set i c').length = List.length (List.set d i x'); simp [h5]
      · show Fs.length = List.length (List.set d i x'); simp [h6]
      · intro k c2 x2 f2 hc2 hx2 hf2
        have hx2 : (List.set d i x')[k]? = some x2 := hx2
        rw [List.getElem?_set] at hc2 hx2
        by_cases hik : i = k
        · subst hik
          rw [if_pos rfl, if_pos (by omega)] at hc2 hx2
          obtain rfl := Option.some.inj hc2
          obtain rfl := Option.some.inj hx2
          obtain rfl : Fs[i] = f2 := Option.some.inj (hFi.symm.trans hf2)
          exact ho'
        · rw [if_neg hik] at hc2 hx2
          refine e.ow_keep (he k c2 x2 f2 hc2 hx2 hf2) fun y hy => hoth y ?_ ?_ ?_
          · rw [hFF]; exact List.mem_cons_of_mem _ (List.mem_flatten.2 ⟨f2, List.mem_of_getElem? hf2, hy⟩)
          · intro e; exact hnd2.1 (e ▸ List.mem_flatten.2 ⟨f2, List.mem_of_getElem? hf2, hy⟩)
          · exact disj_flatten hnd2.2 hf2 hFi (fun e => hik e.symm) y hy

end Go.Proofs.YtkaegbhmeonjfaaGreat

/- Mtx: markText: the text that a mark is. -/
namespace Go.Proofs.YtkaegbhmeonjfaaGreat
open Go.RowKit
set_option linter.unusedVariables false
set_option maxRecDepth 100000

theorem one_byteS (d : Int) (b : Nat) (W : World) (h : W.cell? ⟨b, 0, none⟩ = some (.int .u8 d)) :
    (convert 43 9 (.slice (some ⟨b, 0, none⟩) 1 1)).run Tryz.prog W = .ok (.string (strOfNums [d])) W := by
  refine run_convert_bytes_arg (P := Tryz.prog) W 43 5 Tryz.underlying43 Tryz.underlying5 b 0 1 1 [d] rfl ?_ 9 Tryz.underlying9
  intro i hi
  obtain rfl : i = 0 := by omega
  simpa using h

set_option maxHeartbeats 1000000 in
theorem markText_any (k : Nat) (w : World) (h0 : 1 ≤ k) (h1 : k ≤ 1000000000000) :
    Calls Tryz.prog 72 #[.int .i64 k] w fun e w' => e = .returned (.string (mtext k)) ∧ Below w.heap.size w w' := by
  have h0' : ¬ ((k : Int) ≤ 0) := by omega
  go_enter Tryz.func72, Tryz.ntmps72
  go_wp2
  go_loopw [0, 3] (fun n o wr => ∃ (f j : Nat) (t : ByteArray), n = .int .i64 j ∧ o = .string t ∧ j ≤ 1000000000000 ∧ Hid (j < 10 ^ f ∧ f ≤ 20 ∧ mgo 20 k ⟨#[]⟩ = mgo f j t) ∧ t.size + f ≤ 20 ∧ Below w.heap.size w wr) (fun n _ _ => (intOf n).toNat)
  case atStart => exact ⟨20, k, ⟨#[]⟩, rfl, rfl, h1, ⟨by omega, by omega, rfl⟩, by show 0 + 20 ≤ 20; omega, Below.refl _ _⟩
  case round =>
    obtain ⟨f, j, t, rfl, rfl, hj, HF, hts, hbel⟩ := hrel
    have hbs := hbel.size
    by_cases hj0 : 0 < j
    · have hj0' : (0 : Int) < (j : Int) := by omega
      obtain ⟨f', rfl⟩ : ∃ f', f = f' + 1 := by
        cases f with
        | zero => have := HF.out.1; simp at this; omega
        | succ f' => exact ⟨f', rfl⟩
      have hcv := one_byteS (48 + (j : Int) % 10) wr.heap.size (wr.alloc (.cells #[.int .u8 (48 + (j : Int) % 10)] 5)) (by simp)
      obtain ⟨B, hB⟩ : ∃ B, B = strOfNums [48 + (j : Int) % 10] := ⟨_, rfl⟩
      have hBs : B.size = 1 := by rw [hB]; rfl
      have hsum : ¬ (9223372036854775807 < B.size + t.size) := by omega
      have HF2 : Hid (j / 10 < 10 ^ f' ∧ f' ≤ 20 ∧ mgo 20 k ⟨#[]⟩ = mgo f' (j / 10) (B ++ t)) := by
        obtain ⟨a1, a2, a3⟩ := HF.out
        refine ⟨by rw [Nat.pow_succ] at a1; omega, by omega, ?_⟩
        rw [a3, mgo, if_neg (by omega), hB]
      have hs2 : (B ++ t).size + f' ≤ 20 := by rw [ByteArray.size_append]; omega
      rw [← hB] at hcv
      clear hB HF
      go_wp2
      go_roundw
      case rel => exact ⟨f', j / 10, B ++ t, by go_num, rfl, by omega, HF2, hs2, hbel.alloc hbs _⟩
      case measure => simp [intOf]; omega
    · obtain rfl : j = 0 := by omega
      have hsum : ¬ (9223372036854775807 < (⟨#[109]⟩ : ByteArray).size + t.size) := by
        have : (⟨#[109]⟩ : ByteArray).size = 1 := rfl
        omega
      have HE : Hid (mtext k = ⟨#[109]⟩ ++ t) := by
        show mtext k = _
        rw [mtext, HF.out.2.2]
        cases f <;> rfl
      go_wp2
      go_ret
      exact ⟨by rw [HE.out]; rfl, hbel⟩

end Go.Proofs.YtkaegbhmeonjfaaGreat

/- Mk: The marks that the laws write into data, by shapes: how many ('cnt'), what is there behind them ('mk'). -/
namespace Go.Proofs.YtkaegbhmeonjfaaGreat
open Go.RowKit
set_option linter.unusedVariables false
set_option maxRecDepth 100000

theorem cnt_le (s : Sh) (d : s.D) : s.cnt d ≤ s.wd * (s.sz d + 1) := s.cnt_le d
theorem cntV_le (s : Sh) (d : s.D) : s.cntV d ≤ s.cnt d := s.cntV_le d

/-- The marks of the first i elements. -/
def cntTo (e : Sh) (d : List e.D) (i : Nat) : Nat := ((d.take i).map e.cnt).sum

theorem cntTo_zero (e : Sh) (d : List e.D) : cntTo e d 0 = 0 := by simp [cntTo]

theorem at_some {e : Sh} {d : List e.D} {i : Nat} {x : e.D} (h : e.at d i = some x) : ∃ hi : i < d.length, d[i] = x := by
  have hk : i < d.length := by
    rcases Nat.lt_or_ge i d.length with h' | h'
    · exact h'
    · rw [show e.at d i = none from List.getElem?_eq_none h'] at h; cases h
  refine ⟨hk, ?_⟩
  have : d[i]? = some x := h
  rw [List.getElem?_eq_getElem hk] at this
  exact Option.some.inj this

theorem cntTo_succ (e : Sh) (d : List e.D) (i : Nat) (x : e.D) (h : e.at d i = some x) : cntTo e d (i + 1) = cntTo e d i + e.cnt x := by
  obtain ⟨hk, hx⟩ := at_some h
  have e2 : d.take (i + 1) = d.take i ++ [x] := by rw [List.take_succ_eq_append_getElem hk, hx]
  unfold cntTo
  rw [e2, List.map_append, List.sum_append]
  simp

theorem cntTo_all (e : Sh) (d : List e.D) (i : Nat) (h : d.length ≤ i) : cntTo e d i = Sh.cnt (.sl e) d := by
  unfold cntTo; rw [List.take_of_length_le h]; rfl

theorem cntTo_le (e : Sh) (d : List e.D) (i : Nat) : cntTo e d i ≤ Sh.cnt (.sl e) d := by
  show cntTo e d i ≤ (d.map e.cnt).sum
  unfold cntTo
  conv => rhs; rw [← List.take_append_drop i d, List.map_append, List.sum_append]
  omega

/-- The first i elements marked. -/
def mkTo (e : Sh) (d : List e.D) (k i : Nat) : List e.D := mkRow e.mk e.cnt (d.take i) k ++ d.drop i

theorem mkRow_length {α : Type} (f : α → Nat → α) (c : α → Nat) : ∀ (l : List α) (k : Nat), (mkRow f c l k).length = l.length
  | [], _ => rfl
  | x :: l, k => by simp [mkRow, mkRow_length f c l]

theorem mkRow_snoc {α : Type} (f : α → Nat → α) (c : α → Nat) : ∀ (l : List α) (x : α) (k : Nat), mkRow f c (l ++ [x]) k = mkRow f c l k ++ [f x (k + (l.map c).sum)]
  | [], x, k => by simp [mkRow]
  | y :: l, x, k => by
    simp only [List.cons_append, mkRow, mkRow_snoc f c l x]
    simp [Nat.add_assoc]

theorem mkTo_zero (e : Sh) (d : List e.D) (k : Nat) : mkTo e d k 0 = d := by simp [mkTo, mkRow]

theorem mkTo_all (e : Sh) (d : List e.D) (k i : Nat) (h : d.length ≤ i) : mkTo e d k i = Sh.mk (.sl e) d k := by
  unfold mkTo; rw [List.take_of_length_le h, List.drop_eq_nil_of_le h, List.append_nil]; rfl

theorem mkTo_length (e : Sh) (d : List e.D) (k i : Nat) : (mkTo e d k i).length = d.length := by
  unfold mkTo; rw [List.length_append, mkRow_length, List.length_take, List.length_drop]; omega

theorem mkTo_at (e : Sh) (d : List e.D) (k i : Nat) (x : e.D) (h : e.at d i = some x) : e.at (mkTo e d k i) i = some x := by
  obtain ⟨hk, hx⟩ := at_some h
  show (mkTo e d k i)[i]? = some x
  unfold mkTo
  rw [List.getElem?_append_right (by rw [mkRow_length, List.length_take]; omega), mkRow_length, List.length_take, Nat.min_eq_left (by omega), Nat.sub_self, List.getElem?_drop, Nat.add_zero]
  exact h

theorem mkTo_set (e : Sh) (d : List e.D) (k i : Nat) (x : e.D) (h : e.at d i = some x) : List.set (mkTo e d k i) i (e.mk x (k + cntTo e d i)) = mkTo e d k (i + 1) := by
  obtain ⟨hk, hx⟩ := at_some h
  have e2 : d.take (i + 1) = d.take i ++ [x] := by rw [List.take_succ_eq_append_getElem hk, hx]
  have hl : (mkRow e.mk e.cnt (d.take i) k).length = i := by rw [mkRow_length, List.length_take]; omega
  unfold mkTo
  rw [e2, mkRow_snoc, List.set_append_right _ _ (by omega), hl, Nat.sub_self, List.append_assoc]
  congr 1
  rw [show d.drop i = x :: d.drop (i + 1) by rw [List.drop_eq_getElem_cons hk, hx]]
  rfl

theorem mk_at (e : Sh) (d : List e.D) (k i : Nat) (x : e.D) (h : e.at d i = some x) : e.at (Sh.mk (.sl e) d k) i = some (e.mk x (k + cntTo e d i)) := by
  obtain ⟨hk, hx⟩ := at_some h
  have h1 := mkTo_set e d k i x h
  have key : ∀ j, i + 1 ≤ j → j ≤ d.length → (mkTo e d k j)[i]? = some (e.mk x (k + cntTo e d i)) := by
    intro j hj
    induction j with
    | zero => omega
    | succ j ih =>
      intro hjl
      by_cases hji : j = i
      · subst hji
        rw [← h1]
        rw [List.getElem?_set, if_pos rfl, if_pos (by rw [mkTo_length]; omega)]
      · have hj' : e.at d j = some d[j] := List.getElem?_eq_getElem (by omega)
        rw [← mkTo_set e d k j _ hj', List.getElem?_set, if_neg hji]
        exact ih (by omega) (by omega)
  have := key d.length (by omega) (Nat.le_refl _)
  rw [mkTo_all _ _ _ _ (Nat.le_refl _)] at this
  exact this

theorem mgo_size : ∀ (f k : Nat) (o : ByteArray), (mgo f k o).size ≤ o.size + f
  | 0, _, o => by simp [mgo]
  | f + 1, k, o => by
    unfold mgo
    split
    · omega
    · have h := mgo_size f (k / 10) (strOfNums [48 + (k : Int) % 10] ++ o)
      rw [ByteArray.size_append, strOfNums_size] at h
      simp at h
      omega

theorem mtext_le (k : Nat) : (mtext k).size ≤ maxLen := by
  unfold mtext maxLen
  have h := mgo_size 20 k ⟨#[]⟩
  have h0 : (⟨#[]⟩ : ByteArray).size = 0 := rfl
  have h1 : (⟨#[109]⟩ : ByteArray).size = 1 := rfl
  rw [ByteArray.size_append, h1]
  omega

theorem lt_heap {w : World} {g : Nat} {o : Obj} (h : w.heap[g]? = some o) : g < w.heap.size := by
  rcases Nat.lt_or_ge g w.heap.size with h' | h'
  · exact h'
  · rw [Array.getElem?_eq_none h'] at h; cases h

/-- A cell that is as it is to be. -/
theorem setRow_skip {l : List Value} {p : Nat} {v : Value} {vs : List Value} (h : l[p]? = some v) : setRow l p (v :: vs) = setRow l (p + 1) vs := by
  have hp : p < l.length := by
    rcases Nat.lt_or_ge p l.length with h' | h'
    · exact h'
    · rw [List.getElem?_eq_none h'] at h; cases h
  have e : l.set p v = l := by
    apply List.ext_getElem?
    intro i
    rw [List.getElem?_set]
    split
    · rename_i hi
      subst hi
      first | rw [if_pos hp, h] | rw [h]
    · rfl
  show setRow (l.set p v) (p + 1) vs = _
  rw [e]

end Go.Proofs.YtkaegbhmeonjfaaGreat

/- MkB: markByteS and heldByteS, from any number on, in the words of shapes. -/
namespace Go.Proofs.YtkaegbhmeonjfaaGreat
open Go.RowKit
set_option linter.unusedVariables false
set_option maxRecDepth 100000

theorem set_toArray1 (cur : Array Value) (i : Nat) (v : Value) : cur.setIfInBounds i v = (setRow cur.toList (i * 1) [v]).toArray := by
  apply Array.ext'
  simp [setRow]

theorem cnt_bytes (d : List Int) : Sh.cnt (.sl .u8) d = d.length := by
  show (List.map (fun _ => 1) d).sum = d.length
  induction d with
  | nil => rfl
  | cons a l ih => simp [ih]; omega

theorem cntTo_bytes (d : List Int) (i : Nat) (h : i ≤ d.length) : cntTo .u8 d i = i := by
  have h1 : cntTo .u8 d i = Sh.cnt (.sl .u8) (List.take (α := Int) i d) := rfl
  exact h1.trans ((cnt_bytes (List.take (α := Int) i d)).trans (by rw [List.length_take]; omega))

theorem own_len {e : Sh} {w : World} {B : Nat} {a : Option Addr} {n cap : Nat} {d : List e.D} {F : List Nat} (h : Own (.sl e) w B [.slice a n cap] d F) : d.length = n ∧ n ≤ maxLen ∧ (n = 0 ∨ ∃ g, a = some ⟨g, 0, none⟩) := by
  rcases h with ⟨h1, h2, _⟩ | ⟨g, cp, t, cur, Cs, Fs, h1, _, _, h2, h3, _⟩
  · simp only [List.cons.injEq, Value.slice.injEq, and_true] at h1
    obtain ⟨_, rfl, _⟩ := h1
    exact ⟨h2, Nat.zero_le _, .inl rfl⟩
  · simp only [List.cons.injEq, Value.slice.injEq, and_true] at h1
    obtain ⟨rfl, rfl, rfl⟩ := h1
    exact ⟨rfl, Nat.le_trans h2 h3, .inr ⟨g, rfl⟩⟩

set_option maxRecDepth 100000 in
set_option maxHeartbeats 1000000 in
theorem markByteS_own (a : Option Addr) (n cap B k : Nat) (d : List Int) (F : List Nat) (w : World) (ho : Own (.sl .u8) w B [.slice a n cap] d F) (hnd : F.Nodup) (hk : k + Sh.cnt (.sl .u8) d ≤ 1000000000000) :
    Calls Tryz.prog 70 #[.slice a n cap, .int .i64 k] w fun e w' => e = .returned (.int .i64 ((k + Sh.cnt (.sl .u8) d : Nat) : Int)) ∧ Own (.sl .u8) w' B [.slice a n cap] (Sh.mk (.sl .u8) d k) F ∧ Touch w w' F := by
  obtain ⟨hl0, hm, hg⟩ := own_len ho
  have hl : List.length (α := Int) d = n := hl0
  rw [cnt_bytes] at hk ⊢
  have HO : Hid (Own (.sl .u8) w B [.slice a n cap] d F ∧ F.Nodup) := ⟨ho, hnd⟩
  have HL : Hid (d.length = n) := hl
  rw [hl] at hk ⊢
  clear ho hnd hl hl0
  unfold maxLen at hm
  go_enter Tryz.func70, Tryz.ntmps70
  go_wp2
  go_loopw [1, 5] (fun m i wr => ∃ j : Nat, j ≤ n ∧ m = .int .i64 ((k + j : Nat) : Int) ∧ i = .int .i64 j ∧ Hid (Own (.sl .u8) wr B [.slice a n cap] (mkTo .u8 d k j) F) ∧ Touch w wr F) (fun _ i _ => n - (intOf i).toNat)
  case atStart => exact ⟨0, Nat.zero_le _, by simp, rfl, (congrArg (fun z => Own (.sl .u8) w B [.slice a n cap] z F) (mkTo_zero .u8 d k)).mpr HO.out.1, Touch.refl _ _⟩
  case round =>
    obtain ⟨j, hj, rfl, rfl, ho, ht⟩ := hrel
    by_cases hlt : j < n
    · obtain ⟨g, rfl⟩ := hg.resolve_left (by omega)
      have hxd : Sh.at .u8 d j = some (d[j]'(by have := HL.out; omega)) := List.getElem?_eq_getElem _
      obtain ⟨t, cur, c, x, f, hh, hx, hoe, hnf, hgf, hfF, hgF, hBg, hcur, hclose⟩ := own_elem ho.out HO.out.2 j hlt
      obtain ⟨⟨rfl, _⟩, rfl⟩ := hoe
      have hc0 : wr.cell? ⟨g, j, none⟩ = some (.int .u8 x) := box_cell hh (by have := hcur 0 (by decide); simpa [Sh.size_u8] using this)
      have hf0 : wr.frozen? ⟨g, j, none⟩ = false := box_frozen hh
      have hset : Own (.sl .u8) (wr.setCell ⟨g, j, none⟩ (.int .u8 (((k + j : Nat) : Int) % 256))) B [.slice (some ⟨g, 0, none⟩) n cap] (mkTo .u8 d k (j + 1)) F := by
        have h1 := mkTo_set .u8 d k j _ hxd
        rw [cntTo_bytes d j (by have := HL.out; omega)] at h1
        rw [← h1]
        refine hclose _ [.int .u8 (((k + j : Nat) : Int) % 256)] _ ⟨⟨?_, ?_⟩, rfl⟩ ?_ ?_
        · show [_] = [Value.int .u8 ((((k + j) % 256 : Nat)) : Int)]
          simp
        · show isByte ((((k + j) % 256 : Nat)) : Int)
          unfold isByte; omega
        · rw [box_set _ hh, set_toArray1]; rfl
        · intro y _ hy _; exact box_other _ hy
      have ht2 : Touch w (wr.setCell ⟨g, j, none⟩ (.int .u8 (((k + j : Nat) : Int) % 256))) F := ht.trans (Touch.set wr g j _ hgF)
      have HH : Hid (_ ∧ _) := ⟨hset, ht2⟩
      clear hh hx hcur hclose hset ht2 hfF hgF hBg hnf hgf ho ht hxd
      go_wp2
      go_roundw
      case rel => exact ⟨j + 1, by omega, by congr 1, by go_num, HH.out.1, HH.out.2⟩
      case measure => simp [intOf]; omega
    · have e : j = n := by omega
      subst e
      have hfin : Own (.sl .u8) wr B [.slice a j cap] (Sh.mk (.sl .u8) d k) F := (congrArg (fun z => Own (.sl .u8) wr B [.slice a j cap] z F) (mkTo_all .u8 d k j (Nat.le_of_eq HL.out))).mp ho.out
      have HH : Hid (Own (.sl .u8) wr B [.slice a j cap] (Sh.mk (.sl .u8) d k) F) := hfin
      clear hfin ho
      go_wp2
      go_ret
      exact ⟨rfl, HH.out, ht⟩

set_option maxRecDepth 100000 in
set_option maxHeartbeats 1000000 in
theorem heldByteS_own (a : Option Addr) (n cap B k : Nat) (d : List Int) (F : List Nat) (w : World) (ho : Own (.sl .u8) w B [.slice a n cap] (Sh.mk (.sl .u8) d k) F) (hk : k + Sh.cnt (.sl .u8) d ≤ 1000000000000) :
    Calls Tryz.prog 103 #[.slice a n cap, .int .i64 k] w fun e w' => e = .returned (.int .i64 ((k + Sh.cnt (.sl .u8) d : Nat) : Int)) ∧ Below w.heap.size w w' := by
  obtain ⟨hl0, hm, hg⟩ := own_len ho
  have hl : List.length (α := Int) d = n := by rw [← hl0]; exact (mkRow_length _ _ _ _).symm
  rw [cnt_bytes] at hk ⊢
  have HR : Hid (Reads (.sl .u8) w [.slice a n cap] (Sh.mk (.sl .u8) d k)) := ho.reads
  have HL : Hid (d.length = n) := hl
  rw [hl] at hk ⊢
  clear ho hl hl0 hg
  unfold maxLen at hm
  go_enter Tryz.func103, Tryz.ntmps103
  go_wp2
  go_loop [1, 5] (fun m i => ∃ j : Nat, j ≤ n ∧ m = .int .i64 ((k + j : Nat) : Int) ∧ i = .int .i64 j) (fun _ i => n - (intOf i).toNat)
  case atStart => exact ⟨0, Nat.zero_le _, by simp, rfl⟩
  case round =>
    obtain ⟨j, hj, rfl, rfl⟩ := hrel
    by_cases hlt : j < n
    · obtain ⟨b, off, c, x, rfl, hb, hx, hrx, hcell⟩ := reads_elem HR.out j hlt
      have hxd : Sh.at .u8 d j = some (d[j]'(by have := HL.out; omega)) := List.getElem?_eq_getElem _
      have hx2 := mk_at .u8 d k j _ hxd
      rw [cntTo_bytes d j (by have := HL.out; omega)] at hx2
      have hxe := Option.some.inj (hx.symm.trans hx2)
      obtain ⟨rfl, _⟩ := hrx
      have hc0 : w.cell? ⟨b, off + j, none⟩ = some (.int .u8 (((k + j : Nat) : Int) % 256)) := by
        have := hcell 0 (by decide)
        simp only [Sh.size_u8, Nat.mul_one, Nat.add_zero] at this
        rw [this, hxe]
        show some (Value.int .u8 ((((k + j) % 256 : Nat)) : Int)) = _
        simp
      have hne : ((((k + j : Nat) : Int) % 256) != (((k + j : Nat) : Int) % 256)) = false := by simp
      clear hx hcell hxd hx2 hxe
      go_wp2
      go_round
      case rel => exact ⟨j + 1, by omega, by congr 1, by go_num⟩
      case measure => simp [intOf]; omega
    · have e : j = n := by omega
      subst e
      go_wp2
      go_ret
      exact ⟨rfl, Below.refl _ _⟩

end Go.Proofs.YtkaegbhmeonjfaaGreat

/- VB: Slices as one value: what a value is that holds a slice; the helpers of the exact laws for slices of bytes in these words. -/
namespace Go.Proofs.YtkaegbhmeonjfaaGreat
open Go.RowKit
set_option linter.unusedVariables false
set_option maxRecDepth 100000

theorem own_val {e : Sh} {w : World} {B : Nat} {v : Value} {d : List e.D} {F : List Nat} (h : Own (.sl e) w B [v] d F) : ∃ a c, v = .slice a d.length c ∧ d.length ≤ c ∧ c ≤ maxLen ∧ (a = none → c = 0) := by
  rcases h with ⟨h1, h2, _⟩ | ⟨g, cp, t, cur, Cs, Fs, h1, _, _, h2, h3, _⟩
  · simp only [List.cons.injEq, and_true] at h1
    have h2' : d.length = 0 := h2
    exact ⟨none, 0, by rw [h2', h1], by omega, Nat.zero_le _, fun _ => rfl⟩
  · simp only [List.cons.injEq, and_true] at h1
    exact ⟨_, cp, h1, h2, h3, fun h => by cases h⟩

theorem reads_val {e : Sh} {w : World} {v : Value} {d : List e.D} (h : Reads (.sl e) w [v] d) : ∃ a c, v = .slice a d.length c ∧ d.length ≤ c ∧ c ≤ maxLen := by
  obtain ⟨ad, cp, h1, h2, h3, _⟩ := h
  simp only [List.cons.injEq, and_true] at h1
  exact ⟨ad, cp, h1, h2, h3⟩

theorem reads_mk {w : World} {a : Option Addr} {n cap : Nat} {zs : List Int} (h : Rd w a zs) (hl : zs.length = n) (hc : n ≤ cap) (hm : cap ≤ maxLen) : Reads (.sl .u8) w [.slice a n cap] zs := by
  refine ⟨a, cap, by subst hl; rfl, ?_, hm, ?_⟩
  · show zs.length ≤ cap; omega
  · rcases h.2 with h0 | ⟨b, off, h1, h2, h3⟩
    · left; show zs.length = 0; rw [h0]; rfl
    · right
      refine ⟨b, off, h1, h2, fun i x hx => ?_⟩
      have hx' : zs[i]? = some x := hx
      have hi : i < zs.length := (List.getElem?_eq_some_iff.1 hx').1
      refine ⟨[.int .u8 x], rfl, fun j hj => ?_, rfl, ?_⟩
      · have hj0 : j = 0 := by have : j < 1 := hj; omega
        subst hj0
        have h5 : w.cell? ⟨b, off + i, none⟩ = some (.int .u8 x) := by rw [h3 i hi, hx']; rfl
        simpa [Sh.size_u8] using h5
      · have := h.1 i
        rw [hx'] at this
        exact this

/-- A slice of bytes that came in. -/
theorem reads_row {w : World} {a : Option Addr} {len cap : Nat} {zs : List Int}
    (h : (a = none ∧ len = 0 ∧ cap = 0 ∧ zs = []) ∨
      ∃ x, a = some x ∧ len ≤ cap ∧ cap ≤ maxLen ∧ zs.length = cap ∧ (∀ i, i < zs.length → w.cell? (x.add i) = some (.int .u8 (zs.getD i 0))) ∧ ∀ n ∈ zs, (Lit.int .u8 n).wf = true) : Reads (.sl .u8) w [.slice a len cap] (zs.take len) := by
  have h1 := rd_of h
  rcases h with ⟨_, rfl, rfl, _⟩ | ⟨x, _, h2, h3, _⟩
  · exact reads_mk h1.1 h1.2.1 (Nat.le_refl _) (Nat.zero_le _)
  · exact reads_mk h1.1 h1.2.1 h2 h3

/-- A row of bytes that the call owns, in the words of shapes. -/
theorem own_row {w : World} {B n : Nat} {v : Value} {d : List Int} (hl : d.length = n) (hb : ∀ i : Nat, 0 ≤ d[i]?.getD 0 ∧ d[i]?.getD 0 ≤ 255) (h : w.ownsRow B 5 1 v n (d.map (Value.int .u8))) : ∃ F, Own (.sl .u8) w B [v] d F ∧ F.Nodup := by
  rcases h.2 with ⟨h1, h2⟩ | ⟨g, cap, cur, hv, _⟩
  · refine ⟨[], .inl ⟨by rw [h1], ?_, rfl⟩, by simp⟩
    show d.length = 0; omega
  · subst hv
    exact ⟨[g], own_bytes hl hb h, by simp⟩

theorem toByteS_v (v : Value) (d : List Int) (w : World) (hr : Reads (.sl .u8) w [v] d) (hs : d.length ≤ 1048576) :
    Calls Tryz.prog 64 #[v] w fun e w' => ∃ v' F, e = .returned v' ∧ Own (.sl .u8) w' w.heap.size [v'] d F ∧ F.Nodup ∧ Below w.heap.size w w' := by
  obtain ⟨a, c, rfl, _, _⟩ := reads_val hr
  have e : Sh.sz (.sl .u8) d = d.length := by show List.length d + (List.map (fun _ => 0) d).sum = d.length; rw [sum_zero]; rfl
  refine (toByteS_own a _ c d w hr (by omega)).mono ?_
  rintro e w' ⟨g, F, rfl, ho, hn, hb⟩
  exact ⟨_, F, rfl, ho, hn, hb⟩

theorem eqByteS_v (v1 v2 : Value) (d : List Int) (w : World) (h1 : Reads (.sl .u8) w [v1] d) (h2 : Reads (.sl .u8) w [v2] d) (hs : d.length ≤ 2097152) :
    Calls Tryz.prog 69 #[v1, v2] w fun e w' => e = .returned (.bool true) ∧ Below w.heap.size w w' := by
  obtain ⟨a, c, rfl, _, _⟩ := reads_val h1
  obtain ⟨b, c2, rfl, _, _⟩ := reads_val h2
  obtain ⟨hl, hrd1, hc1, hc2⟩ := reads_bytes h1
  obtain ⟨_, hrd2, _, _⟩ := reads_bytes h2
  exact eqByteS_true a b _ c c2 d w rfl hrd1 hrd2 hs

theorem markByteS_v (v : Value) (B : Nat) (k : Int) (kn : Nat) (d : List Int) (F : List Nat) (w : World) (hkn : k = kn) (ho : Own (.sl .u8) w B [v] d F) (hnd : F.Nodup) (hk0 : 1 ≤ kn) (hk : kn + Sh.cnt (.sl .u8) d ≤ 1000000000000) :
    Calls Tryz.prog 70 #[v, .int .i64 k] w fun e w' => e = .returned (.int .i64 ((kn + Sh.cnt (.sl .u8) d : Nat) : Int)) ∧ Own (.sl .u8) w' B [v] (Sh.mk (.sl .u8) d kn) F ∧ Touch w w' F := by
  obtain ⟨a, c, rfl, _, _⟩ := own_val ho
  subst hkn
  exact markByteS_own a _ c B kn d F w ho hnd hk

theorem heldByteS_v (v : Value) (B : Nat) (k : Int) (kn : Nat) (d : List Int) (F : List Nat) (w : World) (hkn : k = kn) (ho : Own (.sl .u8) w B [v] (Sh.mk (.sl .u8) d kn) F) (hnd : F.Nodup) (hk0 : 1 ≤ kn) (hk : kn + Sh.cnt (.sl .u8) d ≤ 1000000000000) :
    Calls Tryz.prog 103 #[v, .int .i64 k] w fun e w' => e = .returned (.int .i64 ((kn + Sh.cnt (.sl .u8) d : Nat) : Int)) ∧ Below w.heap.size w w' := by
  obtain ⟨a, c, rfl, _, _⟩ := own_val ho
  subst hkn
  exact heldByteS_own a _ c B kn d F w ho hk

theorem cnt_byteS (d : List Int) : Sh.cnt (.sl .u8) d = d.length := cnt_bytes d

end Go.Proofs.YtkaegbhmeonjfaaGreat

/- FlatG: Rows of flat data of the call's own, in the words of 'Own'; cells of a new block; what is behind a slice of the call's own (for every shape). -/
namespace Go.Proofs.YtkaegbhmeonjfaaGreat
open Go.RowKit
set_option linter.unusedVariables false
set_option maxRecDepth 100000

theorem flatMap_flatten {α : Type} (cf : α → List Value) (l : List α) : (l.map cf).flatten = l.flatMap cf := by
  rw [List.flatMap_def]

theorem nils_flatten {α : Type} (l : List α) : (l.map fun _ => ([] : List Nat)).flatten = [] := by
  induction l with
  | nil => rfl
  | cons a l ih => simp [ih]

/-- A row of flat data. -/
theorem own_flat (e : Sh) (cf : e.D → List Value) {w : World} {B g n cap : Nat} {t : TypeId} {l : List e.D} (hl : l.length = n) (hcf : ∀ x ∈ l, Own e w B (cf x) x [])
    (h : w.ownsRow B t e.size (.slice (some ⟨g, 0, none⟩) n cap) n (l.flatMap cf)) : Own (.sl e) w B [.slice (some ⟨g, 0, none⟩) n cap] l [g] := by
  rcases h.2 with ⟨h1, _⟩ | ⟨g', cap', cur, hv, hg, hh, h1, h2, h3, h4⟩
  · simp at h1
  · simp only [Value.slice.injEq, Option.some.injEq, Addr.mk.injEq, and_true, true_and] at hv
    obtain ⟨rfl, rfl⟩ := hv
    refine .inr ⟨g, cap, t, cur, l.map cf, l.map (fun _ => []), ?_, hg, hh, ?_, h2, h3, ?_, ?_, ?_, ?_, ?_⟩
    · show _ = [Value.slice _ l.length cap]; rw [hl]
    · show l.length ≤ cap; omega
    · show cur.toList.take (l.length * e.size) = _
      rw [hl, h4, flatMap_flatten]
    · show (l.map _).length = l.length; simp
    · show (l.map _).length = l.length; simp
    · rw [nils_flatten]
    · intro i c x f hc hx hf
      have hx' : l[i]? = some x := hx
      rw [List.getElem?_map, hx'] at hc hf
      obtain rfl : cf x = c := Option.some.inj hc
      obtain rfl : [] = f := Option.some.inj hf
      exact hcf x (List.mem_of_getElem? hx')

theorem cells_new (w : World) (cs : List Value) (t : TypeId) : ∀ j u, cs[j]? = some u → (w.alloc (.cells cs.toArray t)).cell? ((⟨w.heap.size, 0, none⟩ : Addr).add j) = some u := by
  intro j u h
  have e : (⟨w.heap.size, 0, none⟩ : Addr).add j = ⟨w.heap.size, j, none⟩ := by cases j <;> simp [Addr.add]
  rw [e]
  exact box_cell (heap_alloc_new w _) (by simpa using h)

theorem cells_new' (w : World) (cs : List Value) (t : TypeId) (b : Nat) (hb : w.heap.size = b) : ∀ j u, cs[j]? = some u → (w.alloc (.cells cs.toArray t)).cell? ((⟨b, 0, none⟩ : Addr).add j) = some u := by
  subst hb; exact cells_new w cs t

theorem own_nil {e : Sh} {w : World} {B : Nat} {n c : Nat} {d : List e.D} {F : List Nat} (h : Own (.sl e) w B [.slice none n c] d F) : n = 0 ∧ c = 0 ∧ d = [] := by
  rcases h with ⟨h1, h2, _⟩ | ⟨g, cp, t, cur, Cs, Fs, h1, _⟩
  · simp only [List.cons.injEq, Value.slice.injEq, and_true, true_and] at h1
    exact ⟨h1.1, h1.2, List.eq_nil_of_length_eq_zero h2⟩
  · simp at h1

theorem own_block {e : Sh} {w : World} {B : Nat} {ad : Addr} {n c : Nat} {d : List e.D} {F : List Nat} (h : Own (.sl e) w B [.slice (some ad) n c] d F) : ∃ g, ad = ⟨g, 0, none⟩ ∧ B ≤ g ∧ g < w.heap.size ∧ g ∈ F := by
  rcases h with ⟨h1, h2, _⟩ | ⟨g, cp, t, cur, Cs, Fs, h1, h2, h3, _, _, _, _, _, _, h4, _⟩
  · simp at h1
  · simp only [List.cons.injEq, Value.slice.injEq, Option.some.injEq, and_true] at h1
    exact ⟨g, h1.1, h2, lt_heap h3, by rw [h4]; exact List.mem_cons_self⟩

/-- An element of a slice of the call's own. -/
theorem own_get {e : Sh} {w : World} {B : Nat} {a : Option Addr} {n cap : Nat} {d : List e.D} {F : List Nat} (h : Own (.sl e) w B [.slice a n cap] d F) (k : Nat) (hk : k < n) :
    ∃ g c x f, a = some ⟨g, 0, none⟩ ∧ g < w.heap.size ∧ e.at d k = some x ∧ Own e w B c x f ∧ (∀ y ∈ f, y ∈ F) ∧ ∀ j, j < e.size → w.cell? ⟨g, k * e.size + j, none⟩ = c[j]? := by
  rcases h with ⟨h1, h2, _⟩ | ⟨g, cp, t, cur, Cs, Fs, h1, hB, hh, hl, hm, hcs, h4, h5, h6, hFF, he⟩
  · simp only [List.cons.injEq, Value.slice.injEq, and_true] at h1
    omega
  · simp only [List.cons.injEq, Value.slice.injEq, and_true] at h1
    obtain ⟨rfl, hn, rfl⟩ := h1
    have hi : k < List.length d := by omega
    have hC : Cs[k]? = some Cs[k] := List.getElem?_eq_getElem (by omega)
    have hF : Fs[k]? = some Fs[k] := List.getElem?_eq_getElem (by omega)
    have hx : d[k]? = some d[k] := List.getElem?_eq_getElem hi
    have ho := he k _ _ _ hC hx hF
    have hall : ∀ (i : Nat) (c : List Value), Cs[i]? = some c → c.length = e.size := by
      intro i c hc
      have hil : i < Cs.length := (List.getElem?_eq_some_iff.1 hc).1
      have hid : i < List.length d := by omega
      exact e.ow_length (he i c (List.get d ⟨i, hid⟩) Fs[i] hc (List.getElem?_eq_getElem hid) (List.getElem?_eq_getElem (by omega)))
    refine ⟨g, Cs[k], d[k], Fs[k], rfl, lt_heap hh, hx, ho, fun y hy => by rw [hFF]; exact List.mem_cons_of_mem _ (List.mem_flatten.2 ⟨Fs[k], List.getElem_mem _, hy⟩), fun j hj => ?_⟩
    have hf := flatten_get hall hC hj
    have hlt : k * e.size + j < List.length d * e.size := by
      have : (k + 1) * e.size ≤ List.length d * e.size := Nat.mul_le_mul_right _ hi
      rw [Nat.add_mul] at this; omega
    rw [← h4, List.getElem?_take_of_lt hlt] at hf
    rw [← hf]
    simp [World.cell?, hh]

/-- The cells of a flat row, one behind the other. -/
theorem reads_flat (e : Sh) (cf : e.D → List Value) (h0 : 0 < e.size) (hcf : ∀ (w : World) (c : List Value) (x : e.D), Reads e w c x → c = cf x) {w : World} {ad : Addr} {n cap : Nat} {l : List e.D} (h : Reads (.sl e) w [.slice (some ad) n cap] l) :
    ∀ (j : Nat) (u : Value), (l.flatMap cf)[j]? = some u → w.cell? (ad.add j) = some u := by
  intro j u hu
  obtain ⟨a, cp, e1, hl, hm, h1⟩ := h
  simp only [List.cons.injEq, Value.slice.injEq, and_true] at e1
  obtain ⟨rfl, hn, rfl⟩ := e1
  rcases h1 with h1 | ⟨b, off, ha, hlt, hx⟩
  · have : l = [] := List.eq_nil_of_length_eq_zero h1
    subst this; simp at hu
  · obtain rfl : ad = ⟨b, off, none⟩ := Option.some.inj ha
    have hlen : ∀ x ∈ l, (cf x).length = e.size := by
      intro x hxm
      obtain ⟨i, hi, rfl⟩ := List.mem_iff_getElem.1 hxm
      obtain ⟨c, hc, _, hr⟩ := hx i l[i] (List.getElem?_eq_getElem hi)
      rw [← hcf _ _ _ hr, hc]
    rw [← flatMap_flatten] at hu
    have hall : ∀ (k : Nat) (d : List Value), (l.map cf)[k]? = some d → d.length = e.size := by
      intro k d hk
      rw [List.getElem?_map] at hk
      cases hlk : l[k]? with
      | none => rw [hlk] at hk; cases hk
      | some x =>
        rw [hlk] at hk
        obtain rfl : cf x = d := Option.some.inj hk
        exact hlen x (List.mem_of_getElem? hlk)
    have hj : j < l.length * e.size := by
      have h2 := (List.getElem?_eq_some_iff.1 hu).1
      rw [List.length_flatten] at h2
      have h3 : (l.map cf).map List.length = (l.map cf).map fun _ => e.size := List.map_congr_left fun d hd => by
        obtain ⟨x, hxm, rfl⟩ := List.mem_map.1 hd
        exact hlen x hxm
      rw [h3] at h2
      have h4 : ((l.map cf).map fun _ => e.size).sum = l.length * e.size := by rw [List.map_map]; clear h2 h3; induction l with
        | nil => simp
        | cons a t _ => simp [Function.comp_def, List.map_const', Nat.add_mul, Nat.add_comm]
      rw [h4] at h2
      exact h2
    have hdiv : j / e.size < l.length := (Nat.div_lt_iff_lt_mul h0).2 hj
    have hmod : j % e.size < e.size := Nat.mod_lt _ h0
    obtain ⟨c, hc, hcell, hr⟩ := hx (j / e.size) l[j / e.size] (List.getElem?_eq_getElem hdiv)
    have h5 : (l.map cf)[j / e.size]? = some c := by rw [List.getElem?_map, List.getElem?_eq_getElem hdiv, hcf _ _ _ hr]; rfl
    have h6 := flatten_get hall h5 hmod
    have h7 : j / e.size * e.size + j % e.size = j := Nat.div_add_mod' j e.size
    rw [h7, hu] at h6
    have h8 := hcell _ hmod
    rw [h7] at h8
    have e2 : (⟨b, off, none⟩ : Addr).add j = ⟨b, off + j, none⟩ := by cases j <;> simp [Addr.add]
    rw [e2, h8, ← h6]

end Go.Proofs.YtkaegbhmeonjfaaGreat

/- Flat: Rows of flat data (links, turns, ints) of the call's own, in the words of 'Own'; cells of a new block. -/
namespace Go.Proofs.YtkaegbhmeonjfaaGreat
open Go.RowKit
set_option linter.unusedVariables false
set_option maxRecDepth 100000

/-- The cells of a list of links. -/
def cellsL (l : List LinkD) : List Value := l.flatMap fun x => [.string x.1, .int .i64 x.2.1]

theorem cellsL_snoc (l : List LinkD) (x : LinkD) : cellsL (l ++ [x]) = cellsL l ++ [.string x.1, .int .i64 x.2.1] := by simp [cellsL]

def SmallS (l : List LinkD) : Prop := ∀ x ∈ l, x.1.size ≤ maxLen

theorem own_links {w : World} {B g n cap : Nat} {t : TypeId} {l : List LinkD} (hl : l.length = n) (hs : SmallS l) (h : w.ownsRow B t 2 (.slice (some ⟨g, 0, none⟩) n cap) n (cellsL l)) :
    Own (.sl shLink) w B [.slice (some ⟨g, 0, none⟩) n cap] l [g] :=
  own_flat shLink (fun x => [.string x.1, .int .i64 x.2.1]) hl (fun x hx => own_Link (d := x) (hs x hx)) h

theorem reads_small {w : World} {a : Option Addr} {n cap : Nat} {d : List LinkD} (h : Reads (.sl shLink) w [.slice a n cap] d) : SmallS d := by
  intro x hx
  obtain ⟨i, hi, rfl⟩ := List.mem_iff_getElem.1 hx
  have hl := (reads_len h).1
  have hl' : List.length (α := LinkD) d = n := hl
  obtain ⟨b, off, c, y, _, _, hy, hr, _⟩ := reads_elem h i (by omega)
  obtain ⟨_, hh⟩ := open_Link hr
  have : (d : List LinkD)[i]? = some y := hy
  rw [List.getElem?_eq_getElem hi] at this
  obtain rfl := Option.some.inj this
  exact hh

theorem own_ints' {w : World} {B g n cap : Nat} {t : TypeId} {l : List Int} (hl : l.length = n) (h : w.ownsRow B t 1 (.slice (some ⟨g, 0, none⟩) n cap) n (l.map (Value.int .i64))) :
    Own (.sl .int) w B [.slice (some ⟨g, 0, none⟩) n cap] l [g] := by
  refine own_flat .int (fun x => [.int .i64 x]) (t := t) hl (fun x hx => ⟨rfl, rfl⟩) ?_
  have e : (l.flatMap fun x => [Value.int .i64 x]) = l.map (Value.int .i64) := by rw [← flatMap_flatten]; exact flatten_single _ _
  exact e.symm ▸ h

end Go.Proofs.YtkaegbhmeonjfaaGreat
