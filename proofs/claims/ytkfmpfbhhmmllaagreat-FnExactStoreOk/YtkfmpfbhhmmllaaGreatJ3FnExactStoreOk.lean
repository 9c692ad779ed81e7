/-
  Joined: Nm, NameS, Dir, VB, FlatG, Flat, DirS, TurnS.
-/
import Derived.Test.YtkfmpfbhhmmllaaGreatJ0FnExactStoreOk
import Derived.Test.YtkfmpfbhhmmllaaGreatJ2FnExactStoreOk
import Derived.Deep.AppendLies
import Derived.Test.YtkfmpfbhhmmllaaGreatJ1FnExactStoreOk
/- Nm: NameOk, the model's and the program's. -/
namespace Go.Proofs.YtkfmpfbhhmmllaaGreat
open Go.RowKit
set_option linter.unusedVariables false

/-- The first k bytes are from a to z. -/
def azTo (s : ByteArray) (k : Nat) : Prop := ∀ i, i < k → ∀ h : i < s.size, 97 ≤ (s[i]'h).toNat ∧ (s[i]'h).toNat ≤ 122

/-- A name. -/
def isName (s : ByteArray) : Prop := 1 ≤ s.size ∧ s.size ≤ 12 ∧ azTo s s.size

theorem azTo_succ {s : ByteArray} {k : Nat} (h : azTo s k) (hk : k < s.size) (h1 : 97 ≤ (s[k]'hk).toNat) (h2 : (s[k]'hk).toNat ≤ 122) : azTo s (k + 1) := by
  intro i hi hs
  by_cases e : i = k
  · subst e; exact ⟨h1, h2⟩
  · exact h i (by omega) hs

open Classical in
set_option maxHeartbeats 1000000 in
theorem specName_any (s : ByteArray) (w : World) (hs : s.size ≤ maxLen) :
    Calls Tryz.prog 47 #[.string s] w fun e w' => e = .returned (.bool (decide (isName s))) ∧ w' = w := by
  unfold maxLen at hs
  by_cases h1 : s.size < 1
  · have e : decide (isName s) = false := decide_eq_false (fun h => by have := h.1; omega)
    have h1' : (s.size : Int) < 1 := by omega
    rw [e]
    go_enter Tryz.func47, Tryz.ntmps47
    go_wp2
    go_ret
    exact ⟨rfl, rfl⟩
  · by_cases h2 : 12 < s.size
    · have e : decide (isName s) = false := decide_eq_false (fun h => by have := h.2.1; omega)
      have h1' : ¬ (s.size : Int) < 1 := by omega
      have h2' : (12 : Int) < (s.size : Int) := by omega
      rw [e]
      go_enter Tryz.func47, Tryz.ntmps47
      go_wp2
      go_ret
      exact ⟨rfl, rfl⟩
    · have h1' : ¬ (s.size : Int) < 1 := by omega
      have h2' : ¬ (12 : Int) < (s.size : Int) := by omega
      have d1 : decide ((s.size : Int) < 1) = false := decide_eq_false h1'
      have d2 : decide ((12 : Int) < (s.size : Int)) = false := decide_eq_false h2'
      have d3 : decide (12 < s.size) = false := decide_eq_false h2
      have d4 : decide (s.size < 1) = false := decide_eq_false h1
      go_enter Tryz.func47, Tryz.ntmps47
      go_wp2
      go_loop [3] (fun i => ∃ k : Nat, k ≤ s.size ∧ i = .int .i64 k ∧ Hid (azTo s k)) (fun i => s.size - (intOf i).toNat)
      case atStart => exact ⟨0, Nat.zero_le _, rfl, fun i hi => by omega⟩
      case round =>
        obtain ⟨k, hk, rfl, haz⟩ := hrel
        by_cases hlt : k < s.size
        · have hlt' : (k : Int) < (s.size : Int) := by omega
          by_cases b1 : (s[k]'hlt).toNat < 97
          · have E : Hid (decide (isName s) = false) := decide_eq_false (fun h => by have := (h.2.2 k hlt hlt).1; omega)
            have b1' : ((s[k]'hlt).toNat : Int) < 97 := by omega
            go_wp2
            go_ret
            exact ⟨by rw [E.out]; rfl, rfl⟩
          · have b1' : ¬ ((s[k]'hlt).toNat : Int) < 97 := by omega
            by_cases b2 : 122 < (s[k]'hlt).toNat
            · have E : Hid (decide (isName s) = false) := decide_eq_false (fun h => by have := (h.2.2 k hlt hlt).2; omega)
              have b2' : (122 : Int) < ((s[k]'hlt).toNat : Int) := by omega
              go_wp2
              go_ret
              exact ⟨by rw [E.out]; rfl, rfl⟩
            · have b2' : ¬ (122 : Int) < ((s[k]'hlt).toNat : Int) := by omega
              have HN : Hid (azTo s (k + 1)) := azTo_succ haz.out hlt (by omega) (by omega)
              go_wp2
              go_round
              case rel => exact ⟨k + 1, by omega, by go_num, HN⟩
              case measure => simp [intOf]; omega
        · have E : Hid (decide (isName s) = true) := decide_eq_true ⟨by omega, by omega, fun i hi hs' => haz.out i (by omega) hs'⟩
          go_wp2
          go_ret
          exact ⟨by rw [E.out]; rfl, rfl⟩

open Classical in
set_option maxHeartbeats 1000000 in
theorem implName_any (s : ByteArray) (w : World) (hs : s.size ≤ maxLen) :
    Calls Tryz.prog 90 #[.string s] w fun e w' => e = .returned (.bool (decide (isName s))) ∧ w' = w := by
  unfold maxLen at hs
  by_cases h1 : s.size < 1
  · have e : decide (isName s) = false := decide_eq_false (fun h => by have := h.1; omega)
    have h1' : (s.size : Int) < 1 := by omega
    rw [e]
    go_enter Tryz.func90, Tryz.ntmps90
    go_wp2
    go_ret
    exact ⟨rfl, rfl⟩
  · by_cases h2 : 12 < s.size
    · have e : decide (isName s) = false := decide_eq_false (fun h => by have := h.2.1; omega)
      have h1' : ¬ (s.size : Int) < 1 := by omega
      have h2' : (12 : Int) < (s.size : Int) := by omega
      rw [e]
      go_enter Tryz.func90, Tryz.ntmps90
      go_wp2
      go_ret
      exact ⟨rfl, rfl⟩
    · have h1' : ¬ (s.size : Int) < 1 := by omega
      have h2' : ¬ (12 : Int) < (s.size : Int) := by omega
      have d1 : decide ((s.size : Int) < 1) = false := decide_eq_false h1'
      have d2 : decide ((12 : Int) < (s.size : Int)) = false := decide_eq_false h2'
      have d3 : decide (12 < s.size) = false := decide_eq_false h2
      have d4 : decide (s.size < 1) = false := decide_eq_false h1
      go_enter Tryz.func90, Tryz.ntmps90
      go_wp2
      go_loop [14] (fun i => ∃ k : Nat, k ≤ s.size ∧ i = .int .i64 k ∧ Hid (azTo s k)) (fun i => s.size - (intOf i).toNat)
      case atStart => exact ⟨0, Nat.zero_le _, rfl, fun i hi => by omega⟩
      case round =>
        obtain ⟨k, hk, rfl, haz⟩ := hrel
        by_cases hlt : k < s.size
        · have hlt' : (k : Int) < (s.size : Int) := by omega
          by_cases b1 : (s[k]'hlt).toNat < 97
          · have E : Hid (decide (isName s) = false) := decide_eq_false (fun h => by have := (h.2.2 k hlt hlt).1; omega)
            have b1' : ((s[k]'hlt).toNat : Int) < 97 := by omega
            go_wp2
            go_ret
            exact ⟨by rw [E.out]; rfl, rfl⟩
          · have b1' : ¬ ((s[k]'hlt).toNat : Int) < 97 := by omega
            by_cases b2 : 122 < (s[k]'hlt).toNat
            · have E : Hid (decide (isName s) = false) := decide_eq_false (fun h => by have := (h.2.2 k hlt hlt).2; omega)
              have b2' : (122 : Int) < ((s[k]'hlt).toNat : Int) := by omega
              go_wp2
              go_ret
              exact ⟨by rw [E.out]; rfl, rfl⟩
            · have b2' : ¬ (122 : Int) < ((s[k]'hlt).toNat : Int) := by omega
              have HN : Hid (azTo s (k + 1)) := azTo_succ haz.out hlt (by omega) (by omega)
              go_wp2
              go_round
              case rel => exact ⟨k + 1, by omega, by go_num, HN⟩
              case measure => simp [intOf]; omega
        · have E : Hid (decide (isName s) = true) := decide_eq_true ⟨by omega, by omega, fun i hi hs' => haz.out i (by omega) hs'⟩
          go_wp2
          go_ret
          exact ⟨by rw [E.out]; rfl, rfl⟩

/-- The word of NameOk. -/
def nameB (s : ByteArray) : Bool := decide (1 ≤ s.size) && decide (s.size ≤ 12) && (List.range s.size).all fun i => if h : i < s.size then decide (97 ≤ (s[i]'h).toNat) && decide ((s[i]'h).toNat ≤ 122) else true

theorem nameB_iff (s : ByteArray) : nameB s = true ↔ isName s := by
  unfold nameB isName azTo
  simp only [Bool.and_eq_true, decide_eq_true_eq, List.all_eq_true, List.mem_range]
  constructor
  · rintro ⟨⟨h1, h2⟩, h3⟩
    refine ⟨h1, h2, fun i hi h => ?_⟩
    have := h3 i hi
    rw [dif_pos h] at this
    simpa using this
  · rintro ⟨h1, h2, h3⟩
    refine ⟨⟨h1, h2⟩, fun i hi => ?_⟩
    rw [dif_pos hi]
    simpa using h3 i hi hi
theorem nameB_not (s : ByteArray) : nameB s = false ↔ ¬ isName s := by rw [← nameB_iff]; simp
theorem nameB_dec (s : ByteArray) : @decide (isName s) (Classical.propDecidable _) = nameB s := by
  rw [Bool.eq_iff_iff, nameB_iff]; simp

theorem specNameB (s : ByteArray) (w : World) (hs : s.size ≤ maxLen) :
    Calls Tryz.prog 47 #[.string s] w fun e w' => e = .returned (.bool (nameB s)) ∧ w' = w := by
  rw [← nameB_dec]; exact specName_any s w hs
theorem implNameB (s : ByteArray) (w : World) (hs : s.size ≤ maxLen) :
    Calls Tryz.prog 90 #[.string s] w fun e w' => e = .returned (.bool (nameB s)) ∧ w' = w := by
  rw [← nameB_dec]; exact implName_any s w hs

end Go.Proofs.YtkfmpfbhhmmllaaGreat

/- NameS: l03Find, the model's. -/
namespace Go.Proofs.YtkfmpfbhhmmllaaGreat
open Go.RowKit
set_option linter.unusedVariables false

theorem at_some' {e : Sh} {d : List e.D} {i : Nat} {x : e.D} (h : e.at d i = some x) : ∃ hi : i < d.length, d[i] = x := by
  have hk : i < d.length := by
    rcases Nat.lt_or_ge i d.length with h' | h'
    · exact h'
    · rw [show e.at d i = none from List.getElem?_eq_none h'] at h; cases h
  refine ⟨hk, ?_⟩
  have : d[i]? = some x := h
  rw [List.getElem?_eq_getElem hk] at this
  exact Option.some.inj this

abbrev LinkD := ByteArray × Int × Unit

/-- The Id that a name is linked to. -/
def findL : List LinkD → ByteArray → Int
  | [], _ => 0
  | x :: l, s => if x.1 = s then x.2.1 else findL l s

theorem findL_drop (l : List LinkD) (s : ByteArray) (k : Nat) (h : ∀ i (hi : i < l.length), i < k → l[i].1 ≠ s) : findL l s = findL (l.drop k) s := by
  induction k generalizing l with
  | zero => simp
  | succ k ih =>
    cases l with
    | nil => simp
    | cons x l =>
      have h0 := h 0 (by simp) (by omega)
      simp at h0
      rw [List.drop_succ_cons, ← ih l (fun i hi hk => by have := h (i + 1) (by simp; omega) (by omega); simpa using this)]
      simp [findL, h0]

theorem str_neq {a b : ByteArray} (h : ¬ a = b) : (a.toList == b.toList) = false := by
  rw [beq_eq_false_iff_ne]
  intro e
  apply h
  rw [ByteArray.toList_eq, ByteArray.toList_eq] at e
  exact ByteArray.ext (Array.toList_inj.1 e)

set_option maxRecDepth 100000 in
set_option maxHeartbeats 1000000 in
theorem specFind_ok (a : Option Addr) (n cap : Nat) (d : List LinkD) (s : ByteArray) (w : World) (hr : Reads (.sl shLink) w [.slice a n cap] d) :
    Calls Tryz.prog 54 #[.slice a n cap, .string s] w fun e w' => e = .returned (.int .i64 (findL d s)) ∧ Below w.heap.size w w' := by
  obtain ⟨hl0, hc1, hc2⟩ := reads_len hr
  have hl : List.length (α := LinkD) d = n := hl0
  unfold maxLen at hc2
  have HR : Hid (Reads (.sl shLink) w [.slice a n cap] d) := hr
  have HL : Hid (List.length (α := LinkD) d = n) := hl
  clear hr hl hl0
  go_enter Tryz.func54, Tryz.ntmps54
  go_wp2
  go_loopw [9] (fun i wr => ∃ k : Nat, k ≤ n ∧ i = .int .i64 k ∧ Hid (∀ i (hi : i < List.length (α := LinkD) d), i < k → (d[i] : LinkD).1 ≠ s) ∧ Below w.heap.size w wr) (fun i _ => n - (intOf i).toNat)
  case atStart => exact ⟨0, Nat.zero_le _, rfl, fun i _ hi => by omega, Below.refl _ _⟩
  case round =>
    obtain ⟨k, hk, rfl, hno, hbel⟩ := hrel
    have hfd := findL_drop d s k hno.out
    by_cases hlt : k < n
    · obtain ⟨b, off, c, x, rfl, hb, hx, hrx, hcell⟩ := reads_elem HR.out k hlt
      obtain ⟨rfl, _⟩ := open_Link hrx
      obtain ⟨hkd, hxe⟩ := at_some' hx
      obtain ⟨y0, ey0⟩ : ∃ y : ByteArray, y = x.1 := ⟨_, rfl⟩
      obtain ⟨y1, ey1⟩ : ∃ y : Int, y = x.2.1 := ⟨_, rfl⟩
      have g0 : wr.cell? ⟨b, off + k * 2, none⟩ = some (.string y0) := by rw [ey0]; exact (hbel.cell (p := ⟨b, off + (k * 2 + 0), none⟩) hb).trans (hcell 0 (by decide))
      have g1 : wr.cell? ⟨b, off + k * 2 + 1, none⟩ = some (.int .i64 y1) := by rw [ey1]; exact (hbel.cell (p := ⟨b, off + (k * 2 + 1), none⟩) hb).trans (hcell 1 (by decide))
      have hbs := hbel.size
      have bA : Below w.heap.size w (wr.alloc (.cells #[.string y0, .int .i64 y1] 85)) := hbel.alloc hbs _
      have hd : List.drop (α := LinkD) k d = (y0, y1, ()) :: List.drop (α := LinkD) (k + 1) d := by
        have h1 := List.drop_eq_getElem_cons (l := (show List LinkD from d)) (i := k) hkd
        rw [ey0, ey1]
        have h2 : (show List LinkD from d)[k] = (x.1, x.2.1, ()) := hxe
        exact h1.trans (congrArg (fun z : LinkD => z :: List.drop (α := LinkD) (k + 1) d) h2)
      rw [hd] at hfd
      by_cases hs : y0 = s
      · have E : Hid (findL d s = y1) := by show _ = _; rw [hfd]; simp [findL, hs]
        subst hs
        have hq : (y0.toList == y0.toList) = true := by simp
        clear hcell hrx hx hxe ey0 ey1 hd hfd hno
        go_wp2
        go_ret
        exact ⟨by rw [E.out]; rfl, bA⟩
      · have hq := str_neq hs
        have HN : Hid (∀ i (hi : i < List.length (α := LinkD) d), i < k + 1 → (d[i] : LinkD).1 ≠ s) := by
          intro i hi hik
          by_cases e : i = k
          · subst e
            have h2 : (show List LinkD from d)[i].1 = y0 := by rw [ey0]; exact congrArg Prod.fst hxe
            intro e2
            exact hs (h2.symm.trans e2)
          · exact hno.out i hi (by omega)
        clear hcell hrx hx hxe ey0 ey1 hd hfd hno hs
        go_wp2
        go_roundw
        case rel => exact ⟨k + 1, by omega, by go_num, HN, bA⟩
        case measure => simp [intOf]; omega
    · have E : Hid (findL d s = 0) := by
        show _ = _
        rw [hfd, List.drop_eq_nil_of_le (by have := HL.out; omega)]
        rfl
      clear hfd hno
      go_wp2
      go_ret
      exact ⟨by rw [E.out]; rfl, hbel⟩

end Go.Proofs.YtkfmpfbhhmmllaaGreat

/- Dir: Directories as lists, in plain terms: what the model does to them (l..L), what the program does to its map (..I), and that the two tests of a disk are one. -/
namespace Go.Proofs.YtkfmpfbhhmmllaaGreat
set_option linter.unusedVariables false

abbrev TurnD := Int × ByteArray × ByteArray × Int × Unit
abbrev NodeD := Int × List Int × List Int × Unit

def ltS (a b : ByteArray) : Bool := Go.Op.bytesLess a.toList b.toList

theorem bytesLess_irrefl : ∀ a : List UInt8, Go.Op.bytesLess a a = false
  | [] => rfl
  | a :: x => by simp [Go.Op.bytesLess, bytesLess_irrefl x]

theorem bytesLess_trans : ∀ {a b c : List UInt8}, Go.Op.bytesLess a b = true → Go.Op.bytesLess b c = true → Go.Op.bytesLess a c = true
  | _, [], _, h, _ => by cases ‹List UInt8› <;> simp [Go.Op.bytesLess] at h
  | _, _ :: _, [], _, h => by simp [Go.Op.bytesLess] at h
  | [], _ :: _, _ :: _, _, _ => rfl
  | a :: x, b :: y, c :: z, h1, h2 => by
    simp only [Go.Op.bytesLess, Bool.or_eq_true, decide_eq_true_eq, Bool.and_eq_true, beq_iff_eq] at *
    rcases h1 with h1 | ⟨rfl, h1⟩
    · rcases h2 with h2 | ⟨rfl, h2⟩
      · exact .inl (UInt8.lt_trans h1 h2)
      · exact .inl h1
    · rcases h2 with h2 | ⟨rfl, h2⟩
      · exact .inl h2
      · exact .inr ⟨rfl, bytesLess_trans h1 h2⟩

theorem bytesLess_total : ∀ {a b : List UInt8}, Go.Op.bytesLess a b = false → Go.Op.bytesLess b a = false → a = b
  | [], [], _, _ => rfl
  | [], _ :: _, h, _ => by simp [Go.Op.bytesLess] at h
  | _ :: _, [], _, h => by simp [Go.Op.bytesLess] at h
  | a :: x, b :: y, h1, h2 => by
    simp only [Go.Op.bytesLess, Bool.or_eq_false_iff, decide_eq_false_iff_not, Bool.and_eq_false_iff, beq_eq_false_iff_ne] at *
    have e : a = b := UInt8.le_antisymm (UInt8.not_lt.1 h2.1) (UInt8.not_lt.1 h1.1)
    subst e
    have h3 : Go.Op.bytesLess x y = false := by rcases h1.2 with h | h; exact absurd rfl h; exact h
    have h4 : Go.Op.bytesLess y x = false := by rcases h2.2 with h | h; exact absurd rfl h; exact h
    rw [bytesLess_total h3 h4]

theorem toList_inj {a b : ByteArray} (h : a.toList = b.toList) : a = b := by
  rw [ByteArray.toList_eq, ByteArray.toList_eq] at h
  exact ByteArray.ext (Array.toList_inj.1 h)

theorem ltS_irrefl (a : ByteArray) : ltS a a = false := bytesLess_irrefl _
theorem ltS_trans {a b c : ByteArray} (h1 : ltS a b = true) (h2 : ltS b c = true) : ltS a c = true := bytesLess_trans h1 h2
theorem ltS_total {a b : ByteArray} (h1 : ltS a b = false) (h2 : ltS b a = false) : a = b := toList_inj (bytesLess_total h1 h2)
theorem ltS_ne {a b : ByteArray} (h : ltS a b = true) : a ≠ b := fun e => by rw [e, ltS_irrefl] at h; cases h

/-- A name is linked. -/
def hasL (l : List LinkD) (s : ByteArray) : Bool := l.any fun x => decide (x.1 = s)
/-- A name is taken away. -/
def lessL (l : List LinkD) (s : ByteArray) : List LinkD := l.filter fun x => decide (x.1 ≠ s)
/-- A name is linked, ahead of the first greater one. -/
def withL : List LinkD → ByteArray → Int → List LinkD
  | [], s, id => [(s, id, ())]
  | x :: l, s, id => if ltS s x.1 then (s, id, ()) :: x :: l else x :: withL l s id

def turnL (l : List LinkD) (t : TurnD) : List LinkD :=
  if t.1 = 1 then withL l t.2.1 t.2.2.2.1
  else if t.1 = 5 then withL (lessL (lessL l t.2.1) t.2.2.1) t.2.2.1 (findL l t.2.1)
  else lessL l t.2.1

def noText : ByteArray := ByteArray.empty

def turnOkL (l : List LinkD) (t : TurnD) : Prop :=
  isName t.2.1 ∧ ((t.1 = 1 ∧ t.2.2.1 = noText ∧ 0 < t.2.2.2.1 ∧ ¬ 0 < findL l t.2.1) ∨
    (t.1 = 5 ∧ isName t.2.2.1 ∧ t.2.2.1 ≠ t.2.1 ∧ t.2.2.2.1 = 0 ∧ 0 < findL l t.2.1) ∨ (t.1 = 6 ∧ t.2.2.1 = noText ∧ t.2.2.2.1 = 0 ∧ 0 < findL l t.2.1))

def turnsOkL : List LinkD → List TurnD → Prop
  | _, [] => True
  | l, t :: ts => turnOkL l t ∧ turnsOkL (turnL l t) ts

def idsL (kept : List LinkD) (turns : List TurnD) : List Int := kept.map (fun x => x.2.1) ++ (turns.filter fun t => decide (t.1 = 1)).map fun t => t.2.2.2.1

-- the program's
def turnI (l : List LinkD) (t : TurnD) : List LinkD :=
  if t.1 = 1 then (t.2.1, t.2.2.2.1, ()) :: l
  else if t.1 = 5 then lessL ((t.2.2.1, findL l t.2.1, ()) :: l) t.2.1
  else if t.1 = 6 then lessL l t.2.1
  else l

def turnOkI (t : TurnD) : Prop :=
  (t.1 = 1 ∧ isName t.2.1 ∧ t.2.2.1 = noText) ∨ (t.1 = 5 ∧ isName t.2.1 ∧ isName t.2.2.1 ∧ t.2.2.2.1 = 0) ∨ (t.1 = 6 ∧ isName t.2.1 ∧ t.2.2.1 = noText ∧ t.2.2.2.1 = 0)

def turnFitsI (l : List LinkD) (t : TurnD) : Prop :=
  if t.1 = 1 then hasL l t.2.1 = false else if t.1 = 5 then hasL l t.2.1 = true ∧ t.2.2.1 ≠ t.2.1 else hasL l t.2.1 = true

def turnsOkI : List LinkD → List TurnD → Prop
  | _, [] => True
  | l, t :: ts => (turnOkI t ∧ turnFitsI l t) ∧ turnsOkI (turnI l t) ts

def Alike (l m : List LinkD) : Prop := ∀ s, hasL l s = hasL m s ∧ findL l s = findL m s

theorem Alike.refl (l : List LinkD) : Alike l l := fun s => ⟨rfl, rfl⟩
theorem Alike.symm {l m : List LinkD} (h : Alike l m) : Alike m l := fun s => ⟨(h s).1.symm, (h s).2.symm⟩
theorem Alike.trans {l m k : List LinkD} (h : Alike l m) (h' : Alike m k) : Alike l k := fun s => ⟨(h s).1.trans (h' s).1, (h s).2.trans (h' s).2⟩

def Pos (l : List LinkD) : Prop := ∀ x ∈ l, 0 < x.2.1

theorem hasL_nil (s : ByteArray) : hasL [] s = false := rfl
theorem hasL_cons (x : LinkD) (l : List LinkD) (s : ByteArray) : hasL (x :: l) s = (decide (x.1 = s) || hasL l s) := rfl
theorem findL_cons (x : LinkD) (l : List LinkD) (s : ByteArray) : findL (x :: l) s = if x.1 = s then x.2.1 else findL l s := rfl

theorem findL_none {l : List LinkD} {s : ByteArray} (h : hasL l s = false) : findL l s = 0 := by
  induction l with
  | nil => rfl
  | cons x l ih =>
    rw [hasL_cons, Bool.or_eq_false_iff] at h
    rw [findL_cons, if_neg (by simpa using h.1), ih h.2]

theorem findL_pos {l : List LinkD} (hp : Pos l) (s : ByteArray) : hasL l s = true ↔ 0 < findL l s := by
  induction l with
  | nil => simp [hasL, findL]
  | cons x l ih =>
    rw [hasL_cons, findL_cons]
    by_cases e : x.1 = s
    · simp [e, hp x List.mem_cons_self]
    · simp [e, ih (fun y hy => hp y (List.mem_cons_of_mem _ hy))]

theorem hasL_less (l : List LinkD) (s t : ByteArray) : hasL (lessL l s) t = (decide (t ≠ s) && hasL l t) := by
  induction l with
  | nil => simp [hasL, lessL]
  | cons x l ih =>
    rw [hasL_cons]
    unfold lessL at *
    by_cases e : x.1 = s
    · rw [List.filter_cons_of_neg (by simp [e]), ih]
      by_cases e2 : t = s
      · simp [e2]
      · have : ¬ x.1 = t := fun h => e2 (h.symm.trans e)
        simp [this]
    · rw [List.filter_cons_of_pos (by simp [e]), hasL_cons, ih]
      by_cases e2 : x.1 = t
      · have : t ≠ s := fun h => e (e2.trans h)
        simp [e2, this]
      · simp [e2]

theorem findL_less (l : List LinkD) (s t : ByteArray) : findL (lessL l s) t = if t = s then 0 else findL l t := by
  induction l with
  | nil => simp [findL, lessL]
  | cons x l ih =>
    rw [findL_cons]
    unfold lessL at *
    by_cases e : x.1 = s
    · rw [List.filter_cons_of_neg (by simp [e]), ih]
      by_cases e2 : t = s
      · simp [e2]
      · have : ¬ x.1 = t := fun h => e2 (h.symm.trans e)
        simp [this]
    · rw [List.filter_cons_of_pos (by simp [e]), findL_cons, ih]
      by_cases e2 : x.1 = t
      · have : t ≠ s := fun h => e (e2.trans h)
        simp [e2, this]
      · simp [e2]

theorem hasL_with (l : List LinkD) (s t : ByteArray) (id : Int) : hasL (withL l s id) t = (decide (s = t) || hasL l t) := by
  induction l with
  | nil => simp [hasL, withL]
  | cons x l ih =>
    unfold withL
    split
    · rw [hasL_cons]
    · rw [hasL_cons, ih, hasL_cons]
      cases decide (x.1 = t) <;> simp

theorem findL_with (l : List LinkD) (s t : ByteArray) (id : Int) (h : hasL l s = false) : findL (withL l s id) t = if s = t then id else findL l t := by
  induction l with
  | nil => simp [findL, withL]
  | cons x l ih =>
    rw [hasL_cons, Bool.or_eq_false_iff] at h
    have hx : ¬ x.1 = s := by simpa using h.1
    unfold withL
    split
    · rw [findL_cons]
    · rw [findL_cons, ih h.2, findL_cons]
      by_cases e : x.1 = t
      · have : ¬ s = t := fun e2 => hx (e.trans e2.symm)
        simp [e, this]
      · simp [e]

theorem Pos.less {l : List LinkD} (h : Pos l) (s : ByteArray) : Pos (lessL l s) := fun x hx => h x (List.mem_filter.1 hx).1
theorem mem_with {l : List LinkD} {s : ByteArray} {id : Int} {x : LinkD} : x ∈ withL l s id → x = (s, id, ()) ∨ x ∈ l := by
  induction l with
  | nil => intro h; simp [withL] at h; exact .inl h
  | cons y l ih =>
    intro h
    unfold withL at h
    split at h
    · rcases List.mem_cons.1 h with h | h
      · exact .inl h
      · exact .inr h
    · rcases List.mem_cons.1 h with h | h
      · exact .inr (h ▸ List.mem_cons_self)
      · exact (ih h).imp (fun h => h) (List.mem_cons_of_mem _)
theorem Pos.with {l : List LinkD} (h : Pos l) (s : ByteArray) {id : Int} (hi : 0 < id) : Pos (withL l s id) := fun x hx => by
  rcases mem_with hx with rfl | h'
  · exact hi
  · exact h x h'

/-- A turn that fits, on both sides. -/
theorem turn_alike {l m : List LinkD} {t : TurnD} (ha : Alike l m) (hp : Pos l) (h : turnOkL l t) : Alike (turnL l t) (turnI m t) ∧ Pos (turnL l t) := by
  obtain ⟨hn, h | h | h⟩ := h
  · obtain ⟨k, _, hid, hf⟩ := h
    have hnot : hasL l t.2.1 = false := by
      cases e : hasL l t.2.1
      · rfl
      · exact absurd ((findL_pos hp _).1 e) hf
    unfold turnL turnI
    rw [if_pos k, if_pos k]
    refine ⟨fun s => ⟨?_, ?_⟩, hp.with _ hid⟩
    · rw [hasL_with, hasL_cons, (ha s).1]
    · rw [findL_with _ _ _ _ hnot, findL_cons, (ha s).2]
  · obtain ⟨k, _, hne, _, hf⟩ := h
    unfold turnL turnI
    rw [if_neg (by omega), if_pos k, if_neg (by omega), if_pos k]
    have hnot : hasL (lessL (lessL l t.2.1) t.2.2.1) t.2.2.1 = false := by rw [hasL_less]; simp
    refine ⟨fun s => ⟨?_, ?_⟩, ((hp.less _).less _).with _ hf⟩
    · rw [hasL_with, hasL_less, hasL_less, hasL_less, hasL_cons, (ha s).1]
      by_cases e1 : t.2.2.1 = s
      · have : s ≠ t.2.1 := fun e => hne (e1.trans e)
        simp [e1, this]
      · have e2 : ¬ s = t.2.2.1 := fun e => e1 e.symm
        simp [e1, e2]
    · rw [findL_with _ _ _ _ hnot, findL_less, findL_less, findL_less, findL_cons, (ha s).2, (ha t.2.1).2]
      by_cases e1 : t.2.2.1 = s
      · have : ¬ s = t.2.1 := fun e => hne (e1.trans e)
        simp [e1, this]
      · have e2 : ¬ s = t.2.2.1 := fun e => e1 e.symm
        simp [e1, e2]
  · obtain ⟨k, _, _, hf⟩ := h
    unfold turnL turnI
    rw [if_neg (by omega), if_neg (by omega), if_neg (by omega), if_neg (by omega), if_pos k]
    exact ⟨fun s => ⟨by rw [hasL_less, hasL_less, (ha s).1], by rw [findL_less, findL_less, (ha s).2]⟩, hp.less _⟩

theorem turnOk_iff {l m : List LinkD} {t : TurnD} (ha : Alike l m) (hp : Pos l) : turnOkL l t ↔ (turnOkI t ∧ turnFitsI m t) ∧ (t.1 = 1 → 0 < t.2.2.2.1) := by
  have hh : hasL m t.2.1 = true ↔ 0 < findL l t.2.1 := by rw [← (ha t.2.1).1]; exact findL_pos hp _
  have hh' : hasL m t.2.1 = false ↔ ¬ 0 < findL l t.2.1 := by rw [← hh]; simp
  constructor
  · rintro ⟨hn, h | h | h⟩
    · obtain ⟨k, h1, h2, h3⟩ := h
      exact ⟨⟨.inl ⟨k, hn, h1⟩, by unfold turnFitsI; rw [if_pos k]; exact hh'.2 h3⟩, fun _ => h2⟩
    · obtain ⟨k, h1, h2, h3, h4⟩ := h
      exact ⟨⟨.inr (.inl ⟨k, hn, h1, h3⟩), by unfold turnFitsI; rw [if_neg (by omega), if_pos k]; exact ⟨hh.2 h4, h2⟩⟩, fun e => by omega⟩
    · obtain ⟨k, h1, h2, h3⟩ := h
      exact ⟨⟨.inr (.inr ⟨k, hn, h1, h2⟩), by unfold turnFitsI; rw [if_neg (by omega), if_neg (by omega)]; exact hh.2 h3⟩, fun e => by omega⟩
  · rintro ⟨⟨h | h | h, hf⟩, hid⟩
    · obtain ⟨k, hn, h1⟩ := h
      unfold turnFitsI at hf; rw [if_pos k] at hf
      exact ⟨hn, .inl ⟨k, h1, hid k, hh'.1 hf⟩⟩
    · obtain ⟨k, hn, h1, h2⟩ := h
      unfold turnFitsI at hf; rw [if_neg (by omega), if_pos k] at hf
      exact ⟨hn, .inr (.inl ⟨k, h1, hf.2, h2, hh.1 hf.1⟩)⟩
    · obtain ⟨k, hn, h1, h2⟩ := h
      unfold turnFitsI at hf; rw [if_neg (by omega), if_neg (by omega)] at hf
      exact ⟨hn, .inr (.inr ⟨k, h1, h2, hh.1 hf⟩)⟩

theorem turnsOk_iff : ∀ {ts : List TurnD} {l m : List LinkD}, Alike l m → Pos l → (turnsOkL l ts ↔ turnsOkI m ts ∧ ∀ t ∈ ts, t.1 = 1 → 0 < t.2.2.2.1)
  | [], _, _, _, _ => by simp [turnsOkL, turnsOkI]
  | t :: ts, l, m, ha, hp => by
    unfold turnsOkL turnsOkI
    constructor
    · rintro ⟨h1, h2⟩
      have h3 := turn_alike ha hp h1
      have h4 := (turnOk_iff ha hp).1 h1
      have h5 := (turnsOk_iff h3.1 h3.2).1 h2
      exact ⟨⟨h4.1, h5.1⟩, fun x hx => by rcases List.mem_cons.1 hx with rfl | h; exact h4.2; exact h5.2 x h⟩
    · rintro ⟨⟨h1, h2⟩, h3⟩
      have h4 := (turnOk_iff ha hp).2 ⟨h1, h3 t List.mem_cons_self⟩
      have h5 := turn_alike ha hp h4
      exact ⟨h4, (turnsOk_iff h5.1 h5.2).2 ⟨h2, fun x hx => h3 x (List.mem_cons_of_mem _ hx)⟩⟩

end Go.Proofs.YtkfmpfbhhmmllaaGreat

/- VB: Slices as one value: what a value is that holds a slice; the helpers of the exact laws for slices of bytes in these words. -/
namespace Go.Proofs.YtkfmpfbhhmmllaaGreat
open Go.RowKit
set_option linter.unusedVariables false

theorem own_val {e : Sh} {w : World} {B : Nat} {v : Value} {d : List e.D} {F : List Nat} (h : Own (.sl e) w B [v] d F) : ∃ a c, v = .slice a d.length c ∧ d.length ≤ c ∧ c ≤ maxLen ∧ (a = none → c = 0) := by
  rcases h with ⟨h1, h2, _⟩ | ⟨g, cp, t, cur, Cs, Fs, h1, _, _, h2, h3, _⟩
  · simp only [List.cons.injEq, and_true] at h1
    have h2' : d.length = 0 := h2
    exact ⟨none, 0, by rw [h2', h1], by omega, Nat.zero_le _, fun _ => rfl⟩
  · simp only [List.cons.injEq, and_true] at h1
    exact ⟨_, cp, h1, h2, h3, fun h => by cases h⟩

theorem reads_val {e : Sh} {w : World} {v : Value} {d : List e.D} (h : Reads (.sl e) w [v] d) : ∃ a c, v = .slice a d.length c ∧ d.length ≤ c ∧ c ≤ maxLen := by
  obtain ⟨ad, cp, h1, h2, h3, _⟩ := h
  simp only [List.cons.injEq, and_true] at h1
  exact ⟨ad, cp, h1, h2, h3⟩

theorem reads_mk {w : World} {a : Option Addr} {n cap : Nat} {zs : List Int} (h : Rd w a zs) (hl : zs.length = n) (hc : n ≤ cap) (hm : cap ≤ maxLen) : Reads (.sl .u8) w [.slice a n cap] zs := by
  refine ⟨a, cap, by subst hl; rfl, ?_, hm, ?_⟩
  · show zs.length ≤ cap; omega
  · rcases h.2 with h0 | ⟨b, off, h1, h2, h3⟩
    · left; show zs.length = 0; rw [h0]; rfl
    · right
      refine ⟨b, off, h1, h2, fun i x hx => ?_⟩
      have hx' : zs[i]? = some x := hx
      have hi : i < zs.length := (List.getElem?_eq_some_iff.1 hx').1
      refine ⟨[.int .u8 x], rfl, fun j hj => ?_, rfl, ?_⟩
      · have hj0 : j = 0 := by have : j < 1 := hj; omega
        subst hj0
        have h5 : w.cell? ⟨b, off + i, none⟩ = some (.int .u8 x) := by rw [h3 i hi, hx']; rfl
        simpa [Sh.size_u8] using h5
      · have := h.1 i
        rw [hx'] at this
        exact this

/-- A slice of bytes that came in. -/
theorem reads_row {w : World} {a : Option Addr} {len cap : Nat} {zs : List Int}
    (h : (a = none ∧ len = 0 ∧ cap = 0 ∧ zs = []) ∨
      ∃ x, a = some x ∧ len ≤ cap ∧ cap ≤ maxLen ∧ zs.length = cap ∧ (∀ i, i < zs.length → w.cell? (x.add i) = some (.int .u8 (zs.getD i 0))) ∧ ∀ n ∈ zs, (Lit.int .u8 n).wf = true) : Reads (.sl .u8) w [.slice a len cap] (zs.take len) := by
  have h1 := rd_of h
  rcases h with ⟨_, rfl, rfl, _⟩ | ⟨x, _, h2, h3, _⟩
  · exact reads_mk h1.1 h1.2.1 (Nat.le_refl _) (Nat.zero_le _)
  · exact reads_mk h1.1 h1.2.1 h2 h3

/-- A row of bytes that the call owns, in the words of shapes. -/
theorem own_row {w : World} {B n : Nat} {v : Value} {d : List Int} (hl : d.length = n) (hb : ∀ i : Nat, 0 ≤ d[i]?.getD 0 ∧ d[i]?.getD 0 ≤ 255) (h : w.ownsRow B 5 1 v n (d.map (Value.int .u8))) : ∃ F, Own (.sl .u8) w B [v] d F ∧ F.Nodup := by
  rcases h.2 with ⟨h1, h2⟩ | ⟨g, cap, cur, hv, _⟩
  · refine ⟨[], .inl ⟨by rw [h1], ?_, rfl⟩, by simp⟩
    show d.length = 0; omega
  · subst hv
    exact ⟨[g], own_bytes hl hb h, by simp⟩

theorem toByteS_v (v : Value) (d : List Int) (w : World) (hr : Reads (.sl .u8) w [v] d) (hs : d.length ≤ 1048576) :
    Calls Tryz.prog 106 #[v] w fun e w' => ∃ v' F, e = .returned v' ∧ Own (.sl .u8) w' w.heap.size [v'] d F ∧ F.Nodup ∧ Below w.heap.size w w' := by
  obtain ⟨a, c, rfl, _, _⟩ := reads_val hr
  have e : Sh.sz (.sl .u8) d = d.length := by show List.length d + (List.map (fun _ => 0) d).sum = d.length; rw [sum_zero]; rfl
  refine (toByteS_own a _ c d w hr (by omega)).mono ?_
  rintro e w' ⟨g, F, rfl, ho, hn, hb⟩
  exact ⟨_, F, rfl, ho, hn, hb⟩

theorem eqByteS_v (v1 v2 : Value) (d : List Int) (w : World) (h1 : Reads (.sl .u8) w [v1] d) (h2 : Reads (.sl .u8) w [v2] d) (hs : d.length ≤ 2097152) :
    Calls Tryz.prog 108 #[v1, v2] w fun e w' => e = .returned (.bool true) ∧ Below w.heap.size w w' := by
  obtain ⟨a, c, rfl, _, _⟩ := reads_val h1
  obtain ⟨b, c2, rfl, _, _⟩ := reads_val h2
  obtain ⟨hl, hrd1, hc1, hc2⟩ := reads_bytes h1
  obtain ⟨_, hrd2, _, _⟩ := reads_bytes h2
  exact eqByteS_true a b _ c c2 d w rfl hrd1 hrd2 hs

theorem markByteS_v (v : Value) (B : Nat) (k : Int) (kn : Nat) (d : List Int) (F : List Nat) (w : World) (hkn : k = kn) (ho : Own (.sl .u8) w B [v] d F) (hnd : F.Nodup) (hk0 : 1 ≤ kn) (hk : kn + Sh.cnt (.sl .u8) d ≤ 1000000000000) :
    Calls Tryz.prog 82 #[v, .int .i64 k] w fun e w' => e = .returned (.int .i64 ((kn + Sh.cnt (.sl .u8) d : Nat) : Int)) ∧ Own (.sl .u8) w' B [v] (Sh.mk (.sl .u8) d kn) F ∧ Touch w w' F := by
  obtain ⟨a, c, rfl, _, _⟩ := own_val ho
  subst hkn
  exact markByteS_own a _ c B kn d F w ho hnd hk

theorem cnt_byteS (d : List Int) : Sh.cnt (.sl .u8) d = d.length := cnt_bytes d

end Go.Proofs.YtkfmpfbhhmmllaaGreat

/- FlatG: Rows of flat data of the call's own, in the words of 'Own'; cells of a new block; what is behind a slice of the call's own (for every shape). -/
namespace Go.Proofs.YtkfmpfbhhmmllaaGreat
open Go.RowKit
set_option linter.unusedVariables false

theorem flatMap_flatten {α : Type} (cf : α → List Value) (l : List α) : (l.map cf).flatten = l.flatMap cf := by
  rw [List.flatMap_def]

theorem nils_flatten {α : Type} (l : List α) : (l.map fun _ => ([] : List Nat)).flatten = [] := by
  induction l with
  | nil => rfl
  | cons a l ih => simp [ih]

/-- A row of flat data. -/
theorem own_flat (e : Sh) (cf : e.D → List Value) {w : World} {B g n cap : Nat} {t : TypeId} {l : List e.D} (hl : l.length = n) (hcf : ∀ x ∈ l, Own e w B (cf x) x [])
    (h : w.ownsRow B t e.size (.slice (some ⟨g, 0, none⟩) n cap) n (l.flatMap cf)) : Own (.sl e) w B [.slice (some ⟨g, 0, none⟩) n cap] l [g] := by
  rcases h.2 with ⟨h1, _⟩ | ⟨g', cap', cur, hv, hg, hh, h1, h2, h3, h4⟩
  · simp at h1
  · simp only [Value.slice.injEq, Option.some.injEq, Addr.mk.injEq, and_true, true_and] at hv
    obtain ⟨rfl, rfl⟩ := hv
    refine .inr ⟨g, cap, t, cur, l.map cf, l.map (fun _ => []), ?_, hg, hh, ?_, h2, h3, ?_, ?_, ?_, ?_, ?_⟩
    · show _ = [Value.slice _ l.length cap]; rw [hl]
    · show l.length ≤ cap; omega
    · show cur.toList.take (l.length * e.size) = _
      rw [hl, h4, flatMap_flatten]
    · show (l.map _).length = l.length; simp
    · show (l.map _).length = l.length; simp
    · rw [nils_flatten]
    · intro i c x f hc hx hf
      have hx' : l[i]? = some x := hx
      rw [List.getElem?_map, hx'] at hc hf
      obtain rfl : cf x = c := Option.some.inj hc
      obtain rfl : [] = f := Option.some.inj hf
      exact hcf x (List.mem_of_getElem? hx')

theorem cells_new (w : World) (cs : List Value) (t : TypeId) : ∀ j u, cs[j]? = some u → (w.alloc (.cells cs.toArray t)).cell? ((⟨w.heap.size, 0, none⟩ : Addr).add j) = some u := by
  intro j u h
  have e : (⟨w.heap.size, 0, none⟩ : Addr).add j = ⟨w.heap.size, j, none⟩ := by cases j <;> simp [Addr.add]
  rw [e]
  exact box_cell (heap_alloc_new w _) (by simpa using h)

theorem cells_new' (w : World) (cs : List Value) (t : TypeId) (b : Nat) (hb : w.heap.size = b) : ∀ j u, cs[j]? = some u → (w.alloc (.cells cs.toArray t)).cell? ((⟨b, 0, none⟩ : Addr).add j) = some u := by
  subst hb; exact cells_new w cs t

theorem own_nil {e : Sh} {w : World} {B : Nat} {n c : Nat} {d : List e.D} {F : List Nat} (h : Own (.sl e) w B [.slice none n c] d F) : n = 0 ∧ c = 0 ∧ d = [] := by
  rcases h with ⟨h1, h2, _⟩ | ⟨g, cp, t, cur, Cs, Fs, h1, _⟩
  · simp only [List.cons.injEq, Value.slice.injEq, and_true, true_and] at h1
    exact ⟨h1.1, h1.2, List.eq_nil_of_length_eq_zero h2⟩
  · simp at h1

theorem own_block {e : Sh} {w : World} {B : Nat} {ad : Addr} {n c : Nat} {d : List e.D} {F : List Nat} (h : Own (.sl e) w B [.slice (some ad) n c] d F) : ∃ g, ad = ⟨g, 0, none⟩ ∧ B ≤ g ∧ g < w.heap.size ∧ g ∈ F := by
  rcases h with ⟨h1, h2, _⟩ | ⟨g, cp, t, cur, Cs, Fs, h1, h2, h3, _, _, _, _, _, _, h4, _⟩
  · simp at h1
  · simp only [List.cons.injEq, Value.slice.injEq, Option.some.injEq, and_true] at h1
    exact ⟨g, h1.1, h2, lt_heap h3, by rw [h4]; exact List.mem_cons_self⟩

/-- An element of a slice of the call's own. -/
theorem own_get {e : Sh} {w : World} {B : Nat} {a : Option Addr} {n cap : Nat} {d : List e.D} {F : List Nat} (h : Own (.sl e) w B [.slice a n cap] d F) (k : Nat) (hk : k < n) :
    ∃ g c x f, a = some ⟨g, 0, none⟩ ∧ g < w.heap.size ∧ e.at d k = some x ∧ Own e w B c x f ∧ (∀ y ∈ f, y ∈ F) ∧ ∀ j, j < e.size → w.cell? ⟨g, k * e.size + j, none⟩ = c[j]? := by
  rcases h with ⟨h1, h2, _⟩ | ⟨g, cp, t, cur, Cs, Fs, h1, hB, hh, hl, hm, hcs, h4, h5, h6, hFF, he⟩
  · simp only [List.cons.injEq, Value.slice.injEq, and_true] at h1
    omega
  · simp only [List.cons.injEq, Value.slice.injEq, and_true] at h1
    obtain ⟨rfl, hn, rfl⟩ := h1
    have hi : k < List.length d := by omega
    have hC : Cs[k]? = some Cs[k] := List.getElem?_eq_getElem (by omega)
    have hF : Fs[k]? = some Fs[k] := List.getElem?_eq_getElem (by omega)
    have hx : d[k]? = some d[k] := List.getElem?_eq_getElem hi
    have ho := he k _ _ _ hC hx hF
    have hall : ∀ (i : Nat) (c : List Value), Cs[i]? = some c → c.length = e.size := by
      intro i c hc
      have hil : i < Cs.length := (List.getElem?_eq_some_iff.1 hc).1
      have hid : i < List.length d := by omega
      exact e.ow_length (he i c (List.get d ⟨i, hid⟩) Fs[i] hc (List.getElem?_eq_getElem hid) (List.getElem?_eq_getElem (by omega)))
    refine ⟨g, Cs[k], d[k], Fs[k], rfl, lt_heap hh, hx, ho, fun y hy => by rw [hFF]; exact List.mem_cons_of_mem _ (List.mem_flatten.2 ⟨Fs[k], List.getElem_mem _, hy⟩), fun j hj => ?_⟩
    have hf := flatten_get hall hC hj
    have hlt : k * e.size + j < List.length d * e.size := by
      have : (k + 1) * e.size ≤ List.length d * e.size := Nat.mul_le_mul_right _ hi
      rw [Nat.add_mul] at this; omega
    rw [← h4, List.getElem?_take_of_lt hlt] at hf
    rw [← hf]
    simp [World.cell?, hh]

/-- The cells of a flat row, one behind the other. -/
theorem reads_flat (e : Sh) (cf : e.D → List Value) (h0 : 0 < e.size) (hcf : ∀ (w : World) (c : List Value) (x : e.D), Reads e w c x → c = cf x) {w : World} {ad : Addr} {n cap : Nat} {l : List e.D} (h : Reads (.sl e) w [.slice (some ad) n cap] l) :
    ∀ (j : Nat) (u : Value), (l.flatMap cf)[j]? = some u → w.cell? (ad.add j) = some u := by
  intro j u hu
  obtain ⟨a, cp, e1, hl, hm, h1⟩ := h
  simp only [List.cons.injEq, Value.slice.injEq, and_true] at e1
  obtain ⟨rfl, hn, rfl⟩ := e1
  rcases h1 with h1 | ⟨b, off, ha, hlt, hx⟩
  · have : l = [] := List.eq_nil_of_length_eq_zero h1
    subst this; simp at hu
  · obtain rfl : ad = ⟨b, off, none⟩ := Option.some.inj ha
    have hlen : ∀ x ∈ l, (cf x).length = e.size := by
      intro x hxm
      obtain ⟨i, hi, rfl⟩ := List.mem_iff_getElem.1 hxm
      obtain ⟨c, hc, _, hr⟩ := hx i l[i] (List.getElem?_eq_getElem hi)
      rw [← hcf _ _ _ hr, hc]
    rw [← flatMap_flatten] at hu
    have hall : ∀ (k : Nat) (d : List Value), (l.map cf)[k]? = some d → d.length = e.size := by
      intro k d hk
      rw [List.getElem?_map] at hk
      cases hlk : l[k]? with
      | none => rw [hlk] at hk; cases hk
      | some x =>
        rw [hlk] at hk
        obtain rfl : cf x = d := Option.some.inj hk
        exact hlen x (List.mem_of_getElem? hlk)
    have hj : j < l.length * e.size := by
      have h2 := (List.getElem?_eq_some_iff.1 hu).1
      rw [List.length_flatten] at h2
      have h3 : (l.map cf).map List.length = (l.map cf).map fun _ => e.size := List.map_congr_left fun d hd => by
        obtain ⟨x, hxm, rfl⟩ := List.mem_map.1 hd
        exact hlen x hxm
      rw [h3] at h2
      have h4 : ((l.map cf).map fun _ => e.size).sum = l.length * e.size := by rw [List.map_map]; clear h2 h3; induction l with
        | nil => simp
        | cons a t _ => simp [Function.comp_def, List.map_const', Nat.add_mul, Nat.add_comm]
      rw [h4] at h2
      exact h2
    have hdiv : j / e.size < l.length := (Nat.div_lt_iff_lt_mul h0).2 hj
    have hmod : j % e.size < e.size := Nat.mod_lt _ h0
    obtain ⟨c, hc, hcell, hr⟩ := hx (j / e.size) l[j / e.size] (List.getElem?_eq_getElem hdiv)
    have h5 : (l.map cf)[j / e.size]? = some c := by rw [List.getElem?_map, List.getElem?_eq_getElem hdiv, hcf _ _ _ hr]; rfl
    have h6 := flatten_get hall h5 hmod
    have h7 : j / e.size * e.size + j % e.size = j := Nat.div_add_mod' j e.size
    rw [h7, hu] at h6
    have h8 := hcell _ hmod
    rw [h7] at h8
    have e2 : (⟨b, off, none⟩ : Addr).add j = ⟨b, off + j, none⟩ := by cases j <;> simp [Addr.add]
    rw [e2, h8, ← h6]

end Go.Proofs.YtkfmpfbhhmmllaaGreat

/- Flat: Rows of flat data (links, turns, ints) of the call's own, in the words of 'Own'; cells of a new block. -/
namespace Go.Proofs.YtkfmpfbhhmmllaaGreat
open Go.RowKit
set_option linter.unusedVariables false

/-- The cells of a list of links. -/
def cellsL (l : List LinkD) : List Value := l.flatMap fun x => [.string x.1, .int .i64 x.2.1]

theorem cellsL_snoc (l : List LinkD) (x : LinkD) : cellsL (l ++ [x]) = cellsL l ++ [.string x.1, .int .i64 x.2.1] := by simp [cellsL]

def SmallS (l : List LinkD) : Prop := ∀ x ∈ l, x.1.size ≤ maxLen

theorem own_links {w : World} {B g n cap : Nat} {t : TypeId} {l : List LinkD} (hl : l.length = n) (hs : SmallS l) (h : w.ownsRow B t 2 (.slice (some ⟨g, 0, none⟩) n cap) n (cellsL l)) :
    Own (.sl shLink) w B [.slice (some ⟨g, 0, none⟩) n cap] l [g] :=
  own_flat shLink (fun x => [.string x.1, .int .i64 x.2.1]) hl (fun x hx => own_Link (d := x) (hs x hx)) h

theorem reads_small {w : World} {a : Option Addr} {n cap : Nat} {d : List LinkD} (h : Reads (.sl shLink) w [.slice a n cap] d) : SmallS d := by
  intro x hx
  obtain ⟨i, hi, rfl⟩ := List.mem_iff_getElem.1 hx
  have hl := (reads_len h).1
  have hl' : List.length (α := LinkD) d = n := hl
  obtain ⟨b, off, c, y, _, _, hy, hr, _⟩ := reads_elem h i (by omega)
  obtain ⟨_, hh⟩ := open_Link hr
  have : (d : List LinkD)[i]? = some y := hy
  rw [List.getElem?_eq_getElem hi] at this
  obtain rfl := Option.some.inj this
  exact hh

theorem own_ints' {w : World} {B g n cap : Nat} {t : TypeId} {l : List Int} (hl : l.length = n) (h : w.ownsRow B t 1 (.slice (some ⟨g, 0, none⟩) n cap) n (l.map (Value.int .i64))) :
    Own (.sl .int) w B [.slice (some ⟨g, 0, none⟩) n cap] l [g] := by
  refine own_flat .int (fun x => [.int .i64 x]) (t := t) hl (fun x hx => ⟨rfl, rfl⟩) ?_
  have e : (l.flatMap fun x => [Value.int .i64 x]) = l.map (Value.int .i64) := by rw [← flatMap_flatten]; exact flatten_single _ _
  exact e.symm ▸ h

end Go.Proofs.YtkfmpfbhhmmllaaGreat

/- DirS: l03Less, l03With, l03HasInt of the model. -/
namespace Go.Proofs.YtkfmpfbhhmmllaaGreat
open Go.RowKit
set_option linter.unusedVariables false

theorem lessL_take (d : List LinkD) (s : ByteArray) (k : Nat) (hk : k < d.length) (x : LinkD) (hx : d[k] = x) :
    lessL (d.take (k + 1)) s = if x.1 = s then lessL (d.take k) s else lessL (d.take k) s ++ [x] := by
  unfold lessL
  rw [List.take_succ_eq_append_getElem hk, hx, List.filter_append]
  by_cases h : x.1 = s <;> simp [h]

theorem lessL_small {l : List LinkD} (h : SmallS l) (s : ByteArray) : SmallS (lessL l s) := fun x hx => h x (List.mem_filter.1 hx).1
theorem lessL_len (l : List LinkD) (s : ByteArray) : (lessL l s).length ≤ l.length := List.length_filter_le _ _

set_option maxRecDepth 100000 in
set_option maxHeartbeats 1000000 in
theorem specLess_ok (a : Option Addr) (n cap : Nat) (d : List LinkD) (s : ByteArray) (w : World) (hr : Reads (.sl shLink) w [.slice a n cap] d) (hn : n ≤ 2000000) :
    Calls Tryz.prog 84 #[.slice a n cap, .string s] w fun e w' => ∃ g c, e = .returned (.slice (some ⟨g, 0, none⟩) (lessL d s).length c) ∧
      Own (.sl shLink) w' w.heap.size [.slice (some ⟨g, 0, none⟩) (lessL d s).length c] (lessL d s) [g] ∧ Below w.heap.size w w' := by
  obtain ⟨hl0, hc1, hc2⟩ := reads_len hr
  have hl : List.length (α := LinkD) d = n := hl0
  have hsm := reads_small hr
  obtain ⟨i0, hi, hz0, hz1, hz2⟩ := info_parts infoLink
  unfold maxLen at hc2
  have HR : Hid (Reads (.sl shLink) w [.slice a n cap] d) := hr
  have HL : Hid (List.length (α := LinkD) d = n ∧ SmallS d) := ⟨hl, hsm⟩
  have hown0 := World.ownsRow_lit (base := w.heap.size) (e := 85) (size := 2) w #[] 0 (Nat.le_refl _) (Nat.zero_le _) rfl
  clear hr hl hl0 hsm
  go_enter Tryz.func84, Tryz.ntmps84
  go_wp2
  go_loopw [5, 11] (fun v i wr => ∃ (k g c m : Nat) (xs : List LinkD), k ≤ n ∧ v = .slice (some ⟨g, 0, none⟩) m c ∧ i = .int .i64 k ∧ wr.ownsRow w.heap.size 85 2 (.slice (some ⟨g, 0, none⟩) m c) m (cellsL xs) ∧ Below w.heap.size w wr ∧
      Hid (xs = lessL (List.take (α := LinkD) k d) s ∧ xs.length = m) ∧ m ≤ k) (fun _ i _ => n - (intOf i).toNat)
  case atStart => exact ⟨0, _, 0, 0, [], Nat.zero_le _, rfl, rfl, hown0, (Below.refl _ _).alloc (Nat.le_refl _) _, ⟨by simp [lessL], rfl⟩, Nat.le_refl _⟩
  case round =>
    obtain ⟨k, g, c, m, xs, hk, rfl, rfl, hown, hbel, hx0, hxl⟩ := hrel
    have hbs := hbel.size
    have hg := hown.lt g rfl
    by_cases hlt : k < n
    · obtain ⟨b, off, cc, x, rfl, hb, hx, hrx, hcell⟩ := reads_elem HR.out k hlt
      obtain ⟨rfl, _⟩ := open_Link hrx
      obtain ⟨hkd, hxe⟩ := at_some' hx
      have hst := lessL_take d s k hkd x hxe
      obtain ⟨y0, ey0⟩ : ∃ y : ByteArray, y = x.1 := ⟨_, rfl⟩
      obtain ⟨y1, ey1⟩ : ∃ y : Int, y = x.2.1 := ⟨_, rfl⟩
      have g0 : wr.cell? ⟨b, off + k * 2, none⟩ = some (.string y0) := by rw [ey0]; exact (hbel.cell (p := ⟨b, off + (k * 2 + 0), none⟩) hb).trans (hcell 0 (by decide))
      have g1 : wr.cell? ⟨b, off + k * 2 + 1, none⟩ = some (.int .i64 y1) := by rw [ey1]; exact (hbel.cell (p := ⟨b, off + (k * 2 + 1), none⟩) hb).trans (hcell 1 (by decide))
      have bA : Below w.heap.size w (wr.alloc (.cells #[.string y0, .int .i64 y1] 85)) := hbel.alloc hbs _
      have oA : (wr.alloc (.cells #[.string y0, .int .i64 y1] 85)).ownsRow w.heap.size 85 2 (.slice (some ⟨g, 0, none⟩) m c) m (cellsL xs) := hown.alloc _
      rw [← ey0] at hst
      by_cases hs : y0 = s
      · rw [if_pos hs] at hst
        have HX : Hid (xs = lessL (List.take (α := LinkD) (k + 1) d) s ∧ xs.length = m) := ⟨by rw [hst]; exact hx0.out.1, hx0.out.2⟩
        subst hs
        have hq : (y0.toList != y0.toList) = false := by simp
        clear hcell hrx hx hxe ey0 ey1 hst hx0 hown
        go_wp2
        go_roundw
        case rel => exact ⟨k + 1, g, c, m, xs, by omega, rfl, by go_num, oA, bA, HX, by omega⟩
        case measure => simp [intOf]; omega
      · rw [if_neg hs] at hst
        have HX : Hid (xs ++ [(y0, y1, ())] = lessL (List.take (α := LinkD) (k + 1) d) s ∧ (xs ++ [((y0, y1, ()) : LinkD)]).length = m + 1) :=
          ⟨by rw [hst, hx0.out.1, ey0, ey1]; rfl, by rw [List.length_append, hx0.out.2]; rfl⟩
        have hq := str_neq hs
        clear hcell hrx hx hxe ey0 ey1 hst hx0 hown hs
        go_wp2_with (at_builtin; refine wpList_append_lies _ rfl _ _ 33 rfl w.heap.size 85 i0 (.agg #[.string ByteArray.empty, .int .i64 0]) 2 24 Tryz.underlying33 hi hz0 hz1 hz2 rfl (by decide) _ m _ rfl (oA.alloc _) ⟨_, 0, none⟩ 1 _ [.string y0, .int .i64 y1] rfl rfl ?c1 ?c2 (by omega) ?c3 ?c4 ?c5 _ rfl ?_)
        case c1 => exact cells_new' _ _ _ _ (by simp)
        case c2 => intro u hu; simp at hu; rcases hu with rfl | rfl <;> rfl
        case c3 => unfold maxLen; omega
        case c4 => omega
        case c5 => simp; omega
        intro gg cap1 w3 hown3 hgrow3 _ _
        have bB := bA.alloc (o := .cells #[.string y0, .int .i64 y1] 85) bA.size
        have hbel3 : Below w.heap.size w w3 := bB.grown hgrow3 bB.size (fun y h => by cases h; exact hg.1)
        rw [← cellsL_snoc xs (y0, y1, ())] at hown3
        clear hgrow3 oA bA bB g0 g1
        go_wp2
        go_roundw
        case rel => exact ⟨k + 1, gg, cap1, m + 1, xs ++ [(y0, y1, ())], by omega, rfl, by go_num, hown3, hbel3, HX, by omega⟩
        case measure => simp [intOf]; omega
    · have e : k = n := by omega
      have HE : Hid (xs = lessL d s ∧ xs.length = m) := by
        have h1 := hx0.out.1
        have h2 : List.take (α := LinkD) k d = d := List.take_of_length_le (by have := HL.out.1; omega)
        rw [h2] at h1
        exact ⟨h1, hx0.out.2⟩
      clear hx0
      go_wp2
      go_ret
      refine ⟨g, c, ?_, ?_, hbel⟩
      · rw [← HE.out.1, HE.out.2]; rfl
      · rw [← HE.out.1, HE.out.2]
        exact own_links HE.out.2 (by rw [HE.out.1]; exact lessL_small HL.out.2 s) hown

theorem ltS_gt {x s : ByteArray} (h : ltS s x = true) : Go.Op.bytesLess x.toList s.toList = false ∧ (x.toList == s.toList) = false := by
  refine ⟨?_, ?_⟩
  · cases e : Go.Op.bytesLess x.toList s.toList
    · rfl
    · have := bytesLess_trans h e; rw [bytesLess_irrefl] at this; cases this
  · exact str_neq fun e => ltS_ne h e.symm

theorem ltS_not {x s : ByteArray} (h : ltS s x = false) : Go.Op.bytesLess x.toList s.toList = true ∨ x = s := by
  cases e : Go.Op.bytesLess x.toList s.toList
  · exact .inr (ltS_total e h)
  · exact .inl rfl

/-- What the loop of l03With still owes. -/
def owes (b : Bool) (l : List LinkD) (s : ByteArray) (id : Int) : List LinkD := if b then l else withL l s id

theorem drop_at {d : List LinkD} {k : Nat} (hk : k < d.length) {x : LinkD} (hx : d[k] = x) : d.drop k = x :: d.drop (k + 1) := by
  rw [List.drop_eq_getElem_cons hk, hx]

theorem withL_len (l : List LinkD) (s : ByteArray) (id : Int) : (withL l s id).length = l.length + 1 := by
  induction l with
  | nil => rfl
  | cons x l ih => unfold withL; split <;> simp [ih]
theorem withL_small {l : List LinkD} (h : SmallS l) {s : ByteArray} (hs : s.size ≤ maxLen) (id : Int) : SmallS (withL l s id) := fun x hx => by
  rcases mem_with hx with rfl | h'
  · exact hs
  · exact h x h'

set_option maxRecDepth 100000 in
set_option maxHeartbeats 2000000 in
theorem specWith_ok (a : Option Addr) (n cap : Nat) (d : List LinkD) (s : ByteArray) (id : Int) (w : World) (hr : Reads (.sl shLink) w [.slice a n cap] d) (hs : s.size ≤ maxLen) (hn : n ≤ 2000000) :
    Calls Tryz.prog 83 #[.slice a n cap, .string s, .int .i64 id] w fun e w' => ∃ g c, e = .returned (.slice (some ⟨g, 0, none⟩) (withL d s id).length c) ∧
      Own (.sl shLink) w' w.heap.size [.slice (some ⟨g, 0, none⟩) (withL d s id).length c] (withL d s id) [g] ∧ Below w.heap.size w w' := by
  obtain ⟨hl0, hc1, hc2⟩ := reads_len hr
  have hl : List.length (α := LinkD) d = n := hl0
  have hsm := reads_small hr
  obtain ⟨i0, hi, hz0, hz1, hz2⟩ := info_parts infoLink
  unfold maxLen at hc2
  have HR : Hid (Reads (.sl shLink) w [.slice a n cap] d) := hr
  have HL : Hid (List.length (α := LinkD) d = n ∧ SmallS d ∧ s.size ≤ maxLen) := ⟨hl, hsm, hs⟩
  have hown0 := World.ownsRow_lit (base := w.heap.size) (e := 85) (size := 2) w #[] 0 (Nat.le_refl _) (Nat.zero_le _) rfl
  clear hr hl hl0 hsm hs
  go_enter Tryz.func83, Tryz.ntmps83
  go_wp2
  go_loopw [7, 8, 14] (fun v dn i wr => ∃ (k g c m : Nat) (b : Bool) (xs : List LinkD), k ≤ n ∧ v = .slice (some ⟨g, 0, none⟩) m c ∧ dn = .bool b ∧ i = .int .i64 k ∧ wr.ownsRow w.heap.size 85 2 (.slice (some ⟨g, 0, none⟩) m c) m (cellsL xs) ∧ Below w.heap.size w wr ∧
      Hid (xs ++ owes b (List.drop (α := LinkD) k d) s id = withL d s id ∧ xs.length = m) ∧ m ≤ k + 1 ∧ Hid (b = false → m ≤ k)) (fun _ _ i _ => n - (intOf i).toNat)
  case atStart => exact ⟨0, _, 0, 0, false, [], Nat.zero_le _, rfl, rfl, rfl, hown0, (Below.refl _ _).alloc (Nat.le_refl _) _, ⟨by simp [owes], rfl⟩, by omega, fun _ => Nat.le_refl _⟩
  case round =>
    obtain ⟨k, g, c, m, bb, xs, hk, rfl, rfl, rfl, hown, hbel, hx0, hxl, hxm⟩ := hrel
    have hbs := hbel.size
    have hg := hown.lt g rfl
    by_cases hlt : k < n
    · obtain ⟨b, off, cc, x, rfl, hb, hx, hrx, hcell⟩ := reads_elem HR.out k hlt
      obtain ⟨rfl, _⟩ := open_Link hrx
      obtain ⟨hkd, hxe⟩ := at_some' hx
      have hst := drop_at (d := d) hkd hxe
      obtain ⟨y0, ey0⟩ : ∃ y : ByteArray, y = x.1 := ⟨_, rfl⟩
      obtain ⟨y1, ey1⟩ : ∃ y : Int, y = x.2.1 := ⟨_, rfl⟩
      have g0 : wr.cell? ⟨b, off + k * 2, none⟩ = some (.string y0) := by rw [ey0]; exact (hbel.cell (p := ⟨b, off + (k * 2 + 0), none⟩) hb).trans (hcell 0 (by decide))
      have g1 : wr.cell? ⟨b, off + k * 2 + 1, none⟩ = some (.int .i64 y1) := by rw [ey1]; exact (hbel.cell (p := ⟨b, off + (k * 2 + 1), none⟩) hb).trans (hcell 1 (by decide))
      have bA : Below w.heap.size w (wr.alloc (.cells #[.string y0, .int .i64 y1] 85)) := hbel.alloc hbs _
      have oA : (wr.alloc (.cells #[.string y0, .int .i64 y1] 85)).ownsRow w.heap.size 85 2 (.slice (some ⟨g, 0, none⟩) m c) m (cellsL xs) := hown.alloc _
      have hxv : x = (y0, y1, ()) := by rw [ey0, ey1]; rfl
      rw [hxv] at hst
      clear hxv
      have H0 : Hid (List.drop (α := LinkD) k d = (y0, y1, ()) :: List.drop (α := LinkD) (k + 1) d) := hst
      clear hcell hrx hx hxe ey0 ey1 hst hown
      -- the plain step: x is appended
      have plain : Hid (owes bb (List.drop (α := LinkD) k d) s id = (y0, y1, ()) :: owes bb (List.drop (α := LinkD) (k + 1) d) s id → xs ++ [(y0, y1, ())] ++ owes bb (List.drop (α := LinkD) (k + 1) d) s id = withL d s id ∧ (xs ++ [((y0, y1, ()) : LinkD)]).length = m + 1) := fun h => by
        refine ⟨?_, by rw [List.length_append, hx0.out.2]; rfl⟩
        rw [← hx0.out.1, h]; simp
      cases bb with
      | true =>
        have HX := plain.out (by rw [H0.out]; rfl)
        have HX' : Hid (xs ++ [(y0, y1, ())] ++ owes true (List.drop (α := LinkD) (k + 1) d) s id = withL d s id ∧ (xs ++ [((y0, y1, ()) : LinkD)]).length = m + 1) := HX
        clear HX plain hx0 hxm
        go_wp2_with (at_builtin; refine wpList_append_lies _ rfl _ _ 33 rfl w.heap.size 85 i0 (.agg #[.string ByteArray.empty, .int .i64 0]) 2 24 Tryz.underlying33 hi hz0 hz1 hz2 rfl (by decide) _ m _ rfl (oA.alloc _) ⟨_, 0, none⟩ 1 _ [.string y0, .int .i64 y1] rfl rfl ?c1 ?c2 (by omega) ?c3 ?c4 ?c5 _ rfl ?_)
        case c1 => exact cells_new' _ _ _ _ (by simp)
        case c2 => intro u hu; simp at hu; rcases hu with rfl | rfl <;> rfl
        case c3 => unfold maxLen; omega
        case c4 => omega
        case c5 => simp; omega
        intro gg cap1 w3 hown3 hgrow3 _ _
        have bB := bA.alloc (o := .cells #[.string y0, .int .i64 y1] 85) bA.size
        have hbel3 : Below w.heap.size w w3 := bB.grown hgrow3 bB.size (fun y h => by cases h; exact hg.1)
        rw [← cellsL_snoc xs (y0, y1, ())] at hown3
        clear hgrow3 oA bA bB g0 g1
        go_wp2
        go_roundw
        case rel => exact ⟨k + 1, gg, cap1, m + 1, true, xs ++ [(y0, y1, ())], by omega, rfl, rfl, by go_num, hown3, hbel3, HX', by omega, fun h => by cases h⟩
        case measure => simp [intOf]; omega
      | false =>
        have hmk := hxm.out rfl
        cases hq : ltS s y0 with
        | true =>
          obtain ⟨q1, q2⟩ := ltS_gt hq
          have HX : Hid (xs ++ [(s, id, ())] ++ [(y0, y1, ())] ++ owes true (List.drop (α := LinkD) (k + 1) d) s id = withL d s id ∧ (xs ++ [(s, id, ())] ++ [((y0, y1, ()) : LinkD)]).length = m + 1 + 1) := by
            refine ⟨?_, by rw [List.length_append, List.length_append, hx0.out.2]; rfl⟩
            rw [← hx0.out.1, H0.out]
            have e : owes false ((y0, y1, ()) :: List.drop (α := LinkD) (k + 1) d) s id = (s, id, ()) :: (y0, y1, ()) :: List.drop (α := LinkD) (k + 1) d := by
              show withL _ s id = _
              unfold withL
              rw [if_pos hq]
            rw [e]
            simp [owes]
          clear plain hx0 hxm hq
          go_wp2_with (at_builtin; refine wpList_append_lies _ rfl _ _ 33 rfl w.heap.size 85 i0 (.agg #[.string ByteArray.empty, .int .i64 0]) 2 24 Tryz.underlying33 hi hz0 hz1 hz2 rfl (by decide) _ m _ rfl (oA.alloc _) ⟨_, 0, none⟩ 1 _ [.string s, .int .i64 id] rfl rfl ?c1 ?c2 (by omega) ?c3 ?c4 ?c5 _ rfl ?_)
          case c1 => exact cells_new' _ _ _ _ (by simp)
          case c2 => intro u hu; simp at hu; rcases hu with rfl | rfl <;> rfl
          case c3 => unfold maxLen; omega
          case c4 => omega
          case c5 => simp; omega
          intro gg cap1 w3 hown3 hgrow3 hloc3 hlt3
          have bB := bA.alloc (o := .cells #[.string s, .int .i64 id] 85) bA.size
          have hbel3 : Below w.heap.size w w3 := bB.grown hgrow3 bB.size (fun y h => by cases h; exact hg.1)
          rw [← cellsL_snoc xs (s, id, ())] at hown3
          have hs3 := hgrow3.size
          simp at hs3
          have hbx := heap_alloc_new wr (.cells #[.string y0, .int .i64 y1] 85)
          have hbx2 : ((wr.alloc (.cells #[.string y0, .int .i64 y1] 85)).alloc (.cells #[.string s, .int .i64 id] 85)).heap[wr.heap.size]? = some (.cells #[.string y0, .int .i64 y1] 85 (0, 0)) := by rw [heap_alloc_old _ _ (by simp)]; exact hbx
          have k0 : w3.cell? ⟨wr.heap.size, 0, none⟩ = some (.string y0) := hgrow3.cell (box_cell hbx2 rfl) (by simp [Value.ownBlock]; omega)
          have k1 : w3.cell? ⟨wr.heap.size, 1, none⟩ = some (.int .i64 y1) := hgrow3.cell (box_cell hbx2 rfl) (by simp [Value.ownBlock]; omega)
          have hg3 := hown3.lt gg rfl
          have hbs3 := hbel3.size
          clear hgrow3 oA bA bB g0 g1 hbx hbx2 hloc3
          go_wp2_with (at_builtin; refine wpList_append_lies _ rfl _ _ 33 rfl w.heap.size 85 i0 (.agg #[.string ByteArray.empty, .int .i64 0]) 2 24 Tryz.underlying33 hi hz0 hz1 hz2 rfl (by decide) _ (m + 1) _ rfl (hown3.alloc _) ⟨_, 0, none⟩ 1 _ [.string y0, .int .i64 y1] rfl rfl ?c1 ?c2 (by omega) ?c3 ?c4 ?c5 _ rfl ?_)
          case c1 => exact cells_new' _ _ _ _ (by simp)
          case c2 => intro u hu; simp at hu; rcases hu with rfl | rfl <;> rfl
          case c3 => unfold maxLen; omega
          case c4 => omega
          case c5 => simp; omega
          intro gg5 cap5 w5 hown5 hgrow5 _ _
          have bC := hbel3.alloc (o := .cells #[.string y0, .int .i64 y1] 85) hbel3.size
          have hbel5 : Below w.heap.size w w5 := bC.grown hgrow5 bC.size (fun y h => by cases h; exact hg3.1)
          rw [← cellsL_snoc (xs ++ [(s, id, ())]) (y0, y1, ())] at hown5
          clear hgrow5 bC hown3 k0 k1
          go_wp2
          go_roundw
          case rel => exact ⟨k + 1, gg5, cap5, m + 1 + 1, true, xs ++ [(s, id, ())] ++ [(y0, y1, ())], by omega, rfl, rfl, by go_num, hown5, hbel5, HX, by omega, fun h => by cases h⟩
          case measure => simp [intOf]; omega
        | false =>
          have HX := plain.out (by
            rw [H0.out]
            show withL _ s id = _
            conv => lhs; unfold withL
            rw [if_neg (by rw [hq]; simp)]
            rfl)
          have HX' : Hid (xs ++ [(y0, y1, ())] ++ owes false (List.drop (α := LinkD) (k + 1) d) s id = withL d s id ∧ (xs ++ [((y0, y1, ()) : LinkD)]).length = m + 1) := HX
          clear HX plain hx0 hxm
          rcases ltS_not hq with q | rfl
          · clear hq
            go_wp2_with (at_builtin; refine wpList_append_lies _ rfl _ _ 33 rfl w.heap.size 85 i0 (.agg #[.string ByteArray.empty, .int .i64 0]) 2 24 Tryz.underlying33 hi hz0 hz1 hz2 rfl (by decide) _ m _ rfl (oA.alloc _) ⟨_, 0, none⟩ 1 _ [.string y0, .int .i64 y1] rfl rfl ?c1 ?c2 (by omega) ?c3 ?c4 ?c5 _ rfl ?_)
            case c1 => exact cells_new' _ _ _ _ (by simp)
            case c2 => intro u hu; simp at hu; rcases hu with rfl | rfl <;> rfl
            case c3 => unfold maxLen; omega
            case c4 => omega
            case c5 => simp; omega
            intro gg cap1 w3 hown3 hgrow3 _ _
            have bB := bA.alloc (o := .cells #[.string y0, .int .i64 y1] 85) bA.size
            have hbel3 : Below w.heap.size w w3 := bB.grown hgrow3 bB.size (fun y h => by cases h; exact hg.1)
            rw [← cellsL_snoc xs (y0, y1, ())] at hown3
            clear hgrow3 oA bA bB g0 g1
            go_wp2
            go_roundw
            case rel => exact ⟨k + 1, gg, cap1, m + 1, false, xs ++ [(y0, y1, ())], by omega, rfl, rfl, by go_num, hown3, hbel3, HX', by omega, fun _ => by show m + 1 ≤ k + 1; omega⟩
            case measure => simp [intOf]; omega
          · have q1 := bytesLess_irrefl y0.toList
            have q2 : (y0.toList == y0.toList) = true := by simp
            clear hq
            go_wp2_with (at_builtin; refine wpList_append_lies _ rfl _ _ 33 rfl w.heap.size 85 i0 (.agg #[.string ByteArray.empty, .int .i64 0]) 2 24 Tryz.underlying33 hi hz0 hz1 hz2 rfl (by decide) _ m _ rfl (oA.alloc _) ⟨_, 0, none⟩ 1 _ [.string y0, .int .i64 y1] rfl rfl ?c1 ?c2 (by omega) ?c3 ?c4 ?c5 _ rfl ?_)
            case c1 => exact cells_new' _ _ _ _ (by simp)
            case c2 => intro u hu; simp at hu; rcases hu with rfl | rfl <;> rfl
            case c3 => unfold maxLen; omega
            case c4 => omega
            case c5 => simp; omega
            intro gg cap1 w3 hown3 hgrow3 _ _
            have bB := bA.alloc (o := .cells #[.string y0, .int .i64 y1] 85) bA.size
            have hbel3 : Below w.heap.size w w3 := bB.grown hgrow3 bB.size (fun y h => by cases h; exact hg.1)
            rw [← cellsL_snoc xs (y0, y1, ())] at hown3
            clear hgrow3 oA bA bB g0 g1
            go_wp2
            go_roundw
            case rel => exact ⟨k + 1, gg, cap1, m + 1, false, xs ++ [(y0, y1, ())], by omega, rfl, rfl, by go_num, hown3, hbel3, HX', by omega, fun _ => by show m + 1 ≤ k + 1; omega⟩
            case measure => simp [intOf]; omega
    · have e : k = n := by omega
      have hd : List.drop (α := LinkD) k d = [] := List.drop_eq_nil_of_le (by have := HL.out.1; omega)
      cases bb with
      | true =>
        have HE : Hid (xs = withL d s id ∧ xs.length = m) := by
          have h1 := hx0.out.1
          rw [hd] at h1
          have h2 : xs = withL d s id := by simpa [owes] using h1
          exact ⟨h2, hx0.out.2⟩
        clear hx0 hd hxm
        go_wp2
        go_ret
        refine ⟨g, c, ?_, ?_, hbel⟩
        · rw [← HE.out.1, HE.out.2]; rfl
        · rw [← HE.out.1, HE.out.2]
          exact own_links HE.out.2 (by rw [HE.out.1]; exact withL_small HL.out.2.1 HL.out.2.2 id) hown
      | false =>
        have hmk := hxm.out rfl
        have HE : Hid (xs ++ [(s, id, ())] = withL d s id ∧ (xs ++ [((s, id, ()) : LinkD)]).length = m + 1) := by
          have h1 := hx0.out.1
          rw [hd] at h1
          exact ⟨h1, by rw [List.length_append, hx0.out.2]; rfl⟩
        clear hx0 hd hxm
        go_wp2_with (at_builtin; refine wpList_append_lies _ rfl _ _ 33 rfl w.heap.size 85 i0 (.agg #[.string ByteArray.empty, .int .i64 0]) 2 24 Tryz.underlying33 hi hz0 hz1 hz2 rfl (by decide) _ m _ rfl (hown.alloc _) ⟨_, 0, none⟩ 1 _ [.string s, .int .i64 id] rfl rfl ?c1 ?c2 (by omega) ?c3 ?c4 ?c5 _ rfl ?_)
        case c1 => exact cells_new' _ _ _ _ (by simp)
        case c2 => intro u hu; simp at hu; rcases hu with rfl | rfl <;> rfl
        case c3 => unfold maxLen; omega
        case c4 => omega
        case c5 => simp; omega
        intro gg cap1 w3 hown3 hgrow3 _ _
        have bB := hbel.alloc (o := .cells #[.string s, .int .i64 id] 85) hbel.size
        have hbel3 : Below w.heap.size w w3 := bB.grown hgrow3 bB.size (fun y h => by cases h; exact hg.1)
        rw [← cellsL_snoc xs (s, id, ())] at hown3
        clear hgrow3 bB
        go_wp2
        go_ret
        refine ⟨gg, cap1, ?_, ?_, hbel3⟩
        · rw [← HE.out.1, HE.out.2]; rfl
        · rw [← HE.out.1, HE.out.2]
          exact own_links HE.out.2 (by rw [HE.out.1]; exact withL_small HL.out.2.1 HL.out.2.2 id) hown3

/-- A number is on a list. -/
def hasN (l : List Int) (x : Int) : Bool := l.contains x

theorem hasInt_drop (l : List Int) (x : Int) (k : Nat) (h : ∀ i (hi : i < l.length), i < k → l[i] ≠ x) : hasN l x = hasN (l.drop k) x := by
  induction k generalizing l with
  | zero => simp
  | succ k ih =>
    cases l with
    | nil => simp
    | cons y l =>
      have h0 := h 0 (by simp) (by omega)
      simp at h0
      rw [List.drop_succ_cons, ← ih l (fun i hi hk => by have := h (i + 1) (by simp; omega) (by omega); simpa using this)]
      simp [hasN, Ne.symm h0]

set_option maxHeartbeats 1000000 in
theorem specHasInt_ok (a : Option Addr) (n cap : Nat) (d : List Int) (x : Int) (w : World) (hr : Reads (.sl .int) w [.slice a n cap] d) :
    Calls Tryz.prog 49 #[.slice a n cap, .int .i64 x] w fun e w' => e = .returned (.bool (hasN d x)) ∧ w' = w := by
  obtain ⟨hl0, hc1, hc2⟩ := reads_len hr
  have hl : List.length (α := Int) d = n := hl0
  unfold maxLen at hc2
  have HR : Hid (Reads (.sl .int) w [.slice a n cap] d) := hr
  have HL : Hid (List.length (α := Int) d = n) := hl
  clear hr hl hl0
  go_enter Tryz.func49, Tryz.ntmps49
  go_wp2
  go_loop [9] (fun i => ∃ k : Nat, k ≤ n ∧ i = .int .i64 k ∧ Hid (∀ i (hi : i < List.length (α := Int) d), i < k → (d[i] : Int) ≠ x)) (fun i => n - (intOf i).toNat)
  case atStart => exact ⟨0, Nat.zero_le _, rfl, fun i _ hi => by omega⟩
  case round =>
    obtain ⟨k, hk, rfl, hno⟩ := hrel
    have hfd := hasInt_drop d x k hno.out
    by_cases hlt : k < n
    · obtain ⟨b, off, c, y, rfl, hb, hy, hry, hcell⟩ := reads_elem HR.out k hlt
      obtain ⟨hkd, hye⟩ := at_some' hy
      obtain ⟨z, hz⟩ : ∃ z : Int, z = y := ⟨_, rfl⟩
      have hyc : c = [.int .i64 z] := by rw [hz]; exact hry
      subst hyc
      have g0 : w.cell? ⟨b, off + k, none⟩ = some (.int .i64 z) := by have := hcell 0 (by decide); simpa [Sh.size_int] using this
      have hd : List.drop (α := Int) k d = z :: List.drop (α := Int) (k + 1) d := by
        have h1 := List.drop_eq_getElem_cons (l := (show List Int from d)) (i := k) hkd
        have h2 : (show List Int from d)[k] = z := hye.trans hz.symm
        rw [h2] at h1; exact h1
      rw [hd] at hfd
      by_cases hs : z = x
      · have E : Hid (hasN d x = true) := by show _ = _; rw [hfd]; simp [hasN, hs]
        have hq : (z == x) = true := by simp [hs]
        clear hcell hry hy hye hz hd hfd hno hs
        go_wp2
        go_ret
        exact ⟨by rw [E.out]; rfl, rfl⟩
      · have hq : (z == x) = false := by simp [hs]
        have HN : Hid (∀ i (hi : i < List.length (α := Int) d), i < k + 1 → (d[i] : Int) ≠ x) := by
          intro i hi hik
          by_cases e : i = k
          · subst e
            have h2 : (show List Int from d)[i] = z := hye.trans hz.symm
            exact fun e2 => hs (h2.symm.trans e2)
          · exact hno.out i hi (by omega)
        clear hcell hry hy hye hz hd hfd hno hs
        go_wp2
        go_round
        case rel => exact ⟨k + 1, by omega, by go_num, HN⟩
        case measure => simp [intOf]; omega
    · have E : Hid (hasN d x = false) := by
        show _ = _
        rw [hfd, List.drop_eq_nil_of_le (by have := HL.out; omega)]
        rfl
      clear hfd hno
      go_wp2
      go_ret
      exact ⟨by rw [E.out]; rfl, rfl⟩

end Go.Proofs.YtkfmpfbhhmmllaaGreat

/- TurnS: l03TurnOk, l03Turn of the model. -/
namespace Go.Proofs.YtkfmpfbhhmmllaaGreat
open Go.RowKit
set_option linter.unusedVariables false

/-- The word of l03TurnOk. -/
def turnB (l : List LinkD) (t : TurnD) : Bool :=
  nameB t.2.1 && (if t.1 = 1 then t.2.2.1.toList.isEmpty && decide (0 < t.2.2.2.1) && !decide (0 < findL l t.2.1) else if t.1 = 5 then nameB t.2.2.1 && !(t.2.2.1.toList == t.2.1.toList) && decide (t.2.2.2.1 = 0) && decide (0 < findL l t.2.1) else if t.1 = 6 then t.2.2.1.toList.isEmpty && decide (t.2.2.2.1 = 0) && decide (0 < findL l t.2.1) else false)

theorem noText_list : noText.toList = [] := by rw [ByteArray.toList_eq]; rfl

theorem empty_iff (s : ByteArray) : s.toList = [] ↔ s = noText :=
  ⟨fun h => toList_inj (h.trans noText_list.symm), fun h => by rw [h, noText_list]⟩

theorem turnB_iff (l : List LinkD) (t : TurnD) : turnB l t = true ↔ turnOkL l t := by
  obtain ⟨k, x1, x2, x3, u⟩ := t
  have hne : ((x2.toList == x1.toList) = false) ↔ x2 ≠ x1 := ⟨fun h e => by subst e; simp at h, fun h => str_neq h⟩
  unfold turnB turnOkL
  by_cases k1 : k = 1
  · subst k1; simp [nameB_iff, empty_iff, and_assoc]
  · by_cases k5 : k = 5
    · subst k5
      simp [nameB_iff, hne, and_assoc]
    · by_cases k6 : k = 6
      · subst k6; simp [nameB_iff, empty_iff, and_assoc]
      · simp [k1, k5, k6]
theorem turnB_true {l : List LinkD} {t : TurnD} (h : turnOkL l t) : turnB l t = true := (turnB_iff l t).2 h
theorem turnB_false {l : List LinkD} {t : TurnD} (h : ¬ turnOkL l t) : turnB l t = false := by
  cases e : turnB l t
  · rfl
  · exact absurd ((turnB_iff l t).1 e) h

theorem turnB_eq (l : List LinkD) (k : Int) (x1 x2 : ByteArray) (x3 f : Int) (hf : findL l x1 = f) : turnB l (k, x1, x2, x3, ()) =
    (nameB x1 && (if k = 1 then x2.toList.isEmpty && decide (0 < x3) && !decide (0 < f) else if k = 5 then nameB x2 && !(x2.toList == x1.toList) && decide (x3 = 0) && decide (0 < f) else if k = 6 then x2.toList.isEmpty && decide (x3 = 0) && decide (0 < f) else false)) := by
  subst hf; rfl

set_option maxRecDepth 100000 in
set_option maxHeartbeats 2000000 in
theorem specTurnOk1 (a : Option Addr) (n cap : Nat) (l : List LinkD) (x1 x2 : ByteArray) (x3 : Int) (w : World) (hr : Reads (.sl shLink) w [.slice a n cap] l) (h1 : x1.size ≤ maxLen) (h2 : x2.size ≤ maxLen) :
    Calls Tryz.prog 50 #[.slice a n cap, .agg #[.int .i64 1, .string x1, .string x2, .int .i64 x3]] w fun e w' => e = .returned (.bool (turnB l (1, x1, x2, x3, ()))) ∧ Below w.heap.size w w' := by
  obtain ⟨f, hf⟩ : ∃ f, findL l x1 = f := ⟨_, rfl⟩
  have E : Hid (turnB l (1, x1, x2, x3, ()) = _) := turnB_eq l 1 x1 x2 x3 f hf
  have qF : Hid (∀ w', Below w.heap.size w w' → Calls Tryz.prog 54 #[.slice a n cap, .string x1] w' fun e w'' => e = .returned (.int .i64 f) ∧ Below w'.heap.size w' w'') := fun w' hb => by
    have := specFind_ok a n cap l x1 w' (hr.later hb); rw [hf] at this; exact this
  have bA : Below w.heap.size w (w.alloc (.cells #[.int .i64 1, .string x1, .string x2, .int .i64 x3] 90)) := (Below.refl _ _).alloc (Nat.le_refl _) _
  obtain ⟨W, hW⟩ : ∃ W, W = w.alloc (.cells #[.int .i64 1, .string x1, .string x2, .int .i64 x3] 90) := ⟨_, rfl⟩
  have hbx : W.heap[w.heap.size]? = some (.cells #[.int .i64 1, .string x1, .string x2, .int .i64 x3] 90 (0, 0)) := by rw [hW]; exact heap_alloc_new w _
  have zW : W.heap.size = w.heap.size + 1 := by rw [hW]; simp
  have HW : Hid (W = w.alloc (.cells #[.int .i64 1, .string x1, .string x2, .int .i64 x3] 90)) := hW
  rw [← hW] at bA
  have HB : Hid (∀ w', Below W.heap.size W w' → w'.cell? ⟨w.heap.size, 0, none⟩ = some (.int .i64 1) ∧ w'.cell? ⟨w.heap.size, 1, none⟩ = some (.string x1) ∧ w'.cell? ⟨w.heap.size, 2, none⟩ = some (.string x2) ∧ w'.cell? ⟨w.heap.size, 3, none⟩ = some (.int .i64 x3)) := fun w' h => by
    have i := (h.block _ (by omega)).trans hbx
    exact ⟨box_cell i rfl, box_cell i rfl, box_cell i rfl, box_cell i rfl⟩
  clear hW hbx hf hr
  go_enter Tryz.func50, Tryz.ntmps50
  go_wp2_with fail
  rw [← HW.out]
  refine (specNameB _ _ h1).mono ?_
  rintro e w1 ⟨rfl, rfl⟩
  cases hN : nameB x1 with
  | false =>
    have EE : Hid (turnB l (1, x1, x2, x3, ()) = false) := by show _ = _; rw [E.out, hN]; rfl
    clear E
    go_wp2
    go_ret
    exact ⟨by rw [EE.out]; rfl, bA⟩
  | true =>
    obtain ⟨c0, c1, c2, c3⟩ := HB.out w1 (Below.refl _ _)
    go_wp2_with fail
    refine (qF.out _ bA).mono ?_
    rintro e w2 ⟨rfl, hb2⟩
    have b2 := bA.trans (hb2.mono bA.size)
    obtain ⟨d0, d1, d2, d3⟩ := HB.out w2 hb2
    clear c0 c1 c2 c3 hb2
    go_wp2_with (go_at_call 47; refine (specNameB _ _ h2).mono ?_; rintro e w9 ⟨rfl, rfl⟩)
    all_goals (go_ret; refine ⟨?_, b2⟩)
    all_goals (rw [E.out]; clear E; show Ending.returned (Value.bool _) = Ending.returned (Value.bool _))
    all_goals (first | (simp_all; done) | (simp_all; omega))

set_option maxRecDepth 100000 in
set_option maxHeartbeats 2000000 in
theorem specTurnOk5 (a : Option Addr) (n cap : Nat) (l : List LinkD) (x1 x2 : ByteArray) (x3 : Int) (w : World) (hr : Reads (.sl shLink) w [.slice a n cap] l) (h1 : x1.size ≤ maxLen) (h2 : x2.size ≤ maxLen) :
    Calls Tryz.prog 50 #[.slice a n cap, .agg #[.int .i64 5, .string x1, .string x2, .int .i64 x3]] w fun e w' => e = .returned (.bool (turnB l (5, x1, x2, x3, ()))) ∧ Below w.heap.size w w' := by
  obtain ⟨f, hf⟩ : ∃ f, findL l x1 = f := ⟨_, rfl⟩
  have E : Hid (turnB l (5, x1, x2, x3, ()) = _) := turnB_eq l 5 x1 x2 x3 f hf
  have qF : Hid (∀ w', Below w.heap.size w w' → Calls Tryz.prog 54 #[.slice a n cap, .string x1] w' fun e w'' => e = .returned (.int .i64 f) ∧ Below w'.heap.size w' w'') := fun w' hb => by
    have := specFind_ok a n cap l x1 w' (hr.later hb); rw [hf] at this; exact this
  have bA : Below w.heap.size w (w.alloc (.cells #[.int .i64 5, .string x1, .string x2, .int .i64 x3] 90)) := (Below.refl _ _).alloc (Nat.le_refl _) _
  obtain ⟨W, hW⟩ : ∃ W, W = w.alloc (.cells #[.int .i64 5, .string x1, .string x2, .int .i64 x3] 90) := ⟨_, rfl⟩
  have hbx : W.heap[w.heap.size]? = some (.cells #[.int .i64 5, .string x1, .string x2, .int .i64 x3] 90 (0, 0)) := by rw [hW]; exact heap_alloc_new w _
  have zW : W.heap.size = w.heap.size + 1 := by rw [hW]; simp
  have HW : Hid (W = w.alloc (.cells #[.int .i64 5, .string x1, .string x2, .int .i64 x3] 90)) := hW
  rw [← hW] at bA
  have HB : Hid (∀ w', Below W.heap.size W w' → w'.cell? ⟨w.heap.size, 0, none⟩ = some (.int .i64 5) ∧ w'.cell? ⟨w.heap.size, 1, none⟩ = some (.string x1) ∧ w'.cell? ⟨w.heap.size, 2, none⟩ = some (.string x2) ∧ w'.cell? ⟨w.heap.size, 3, none⟩ = some (.int .i64 x3)) := fun w' h => by
    have i := (h.block _ (by omega)).trans hbx
    exact ⟨box_cell i rfl, box_cell i rfl, box_cell i rfl, box_cell i rfl⟩
  clear hW hbx hf hr
  go_enter Tryz.func50, Tryz.ntmps50
  go_wp2_with fail
  rw [← HW.out]
  refine (specNameB _ _ h1).mono ?_
  rintro e w1 ⟨rfl, rfl⟩
  cases hN : nameB x1 with
  | false =>
    have EE : Hid (turnB l (5, x1, x2, x3, ()) = false) := by show _ = _; rw [E.out, hN]; rfl
    clear E
    go_wp2
    go_ret
    exact ⟨by rw [EE.out]; rfl, bA⟩
  | true =>
    obtain ⟨c0, c1, c2, c3⟩ := HB.out w1 (Below.refl _ _)
    go_wp2_with fail
    refine (qF.out _ bA).mono ?_
    rintro e w2 ⟨rfl, hb2⟩
    have b2 := bA.trans (hb2.mono bA.size)
    obtain ⟨d0, d1, d2, d3⟩ := HB.out w2 hb2
    clear c0 c1 c2 c3 hb2
    go_wp2_with (go_at_call 47; refine (specNameB _ _ h2).mono ?_; rintro e w9 ⟨rfl, rfl⟩)
    all_goals (go_ret; refine ⟨?_, b2⟩)
    all_goals (rw [E.out]; clear E; show Ending.returned (Value.bool _) = Ending.returned (Value.bool _))
    all_goals (first | (simp_all; done) | (simp_all; omega))

set_option maxRecDepth 100000 in
set_option maxHeartbeats 2000000 in
theorem specTurnOk6 (a : Option Addr) (n cap : Nat) (l : List LinkD) (x1 x2 : ByteArray) (x3 : Int) (w : World) (hr : Reads (.sl shLink) w [.slice a n cap] l) (h1 : x1.size ≤ maxLen) (h2 : x2.size ≤ maxLen) :
    Calls Tryz.prog 50 #[.slice a n cap, .agg #[.int .i64 6, .string x1, .string x2, .int .i64 x3]] w fun e w' => e = .returned (.bool (turnB l (6, x1, x2, x3, ()))) ∧ Below w.heap.size w w' := by
  obtain ⟨f, hf⟩ : ∃ f, findL l x1 = f := ⟨_, rfl⟩
  have E : Hid (turnB l (6, x1, x2, x3, ()) = _) := turnB_eq l 6 x1 x2 x3 f hf
  have qF : Hid (∀ w', Below w.heap.size w w' → Calls Tryz.prog 54 #[.slice a n cap, .string x1] w' fun e w'' => e = .returned (.int .i64 f) ∧ Below w'.heap.size w' w'') := fun w' hb => by
    have := specFind_ok a n cap l x1 w' (hr.later hb); rw [hf] at this; exact this
  have bA : Below w.heap.size w (w.alloc (.cells #[.int .i64 6, .string x1, .string x2, .int .i64 x3] 90)) := (Below.refl _ _).alloc (Nat.le_refl _) _
  obtain ⟨W, hW⟩ : ∃ W, W = w.alloc (.cells #[.int .i64 6, .string x1, .string x2, .int .i64 x3] 90) := ⟨_, rfl⟩
  have hbx : W.heap[w.heap.size]? = some (.cells #[.int .i64 6, .string x1, .string x2, .int .i64 x3] 90 (0, 0)) := by rw [hW]; exact heap_alloc_new w _
  have zW : W.heap.size = w.heap.size + 1 := by rw [hW]; simp
  have HW : Hid (W = w.alloc (.cells #[.int .i64 6, .string x1, .string x2, .int .i64 x3] 90)) := hW
  rw [← hW] at bA
  have HB : Hid (∀ w', Below W.heap.size W w' → w'.cell? ⟨w.heap.size, 0, none⟩ = some (.int .i64 6) ∧ w'.cell? ⟨w.heap.size, 1, none⟩ = some (.string x1) ∧ w'.cell? ⟨w.heap.size, 2, none⟩ = some (.string x2) ∧ w'.cell? ⟨w.heap.size, 3, none⟩ = some (.int .i64 x3)) := fun w' h => by
    have i := (h.block _ (by omega)).trans hbx
    exact ⟨box_cell i rfl, box_cell i rfl, box_cell i rfl, box_cell i rfl⟩
  clear hW hbx hf hr
  go_enter Tryz.func50, Tryz.ntmps50
  go_wp2_with fail
  rw [← HW.out]
  refine (specNameB _ _ h1).mono ?_
  rintro e w1 ⟨rfl, rfl⟩
  cases hN : nameB x1 with
  | false =>
    have EE : Hid (turnB l (6, x1, x2, x3, ()) = false) := by show _ = _; rw [E.out, hN]; rfl
    clear E
    go_wp2
    go_ret
    exact ⟨by rw [EE.out]; rfl, bA⟩
  | true =>
    obtain ⟨c0, c1, c2, c3⟩ := HB.out w1 (Below.refl _ _)
    go_wp2_with fail
    refine (qF.out _ bA).mono ?_
    rintro e w2 ⟨rfl, hb2⟩
    have b2 := bA.trans (hb2.mono bA.size)
    obtain ⟨d0, d1, d2, d3⟩ := HB.out w2 hb2
    clear c0 c1 c2 c3 hb2
    go_wp2_with (go_at_call 47; refine (specNameB _ _ h2).mono ?_; rintro e w9 ⟨rfl, rfl⟩)
    all_goals (go_ret; refine ⟨?_, b2⟩)
    all_goals (rw [E.out]; clear E; show Ending.returned (Value.bool _) = Ending.returned (Value.bool _))
    all_goals (first | (simp_all; done) | (simp_all; omega))

set_option maxRecDepth 100000 in
set_option maxHeartbeats 2000000 in
theorem specTurnOkN (k : Int) (a : Option Addr) (n cap : Nat) (l : List LinkD) (x1 x2 : ByteArray) (x3 : Int) (w : World) (hr : Reads (.sl shLink) w [.slice a n cap] l) (h1 : x1.size ≤ maxLen) (h2 : x2.size ≤ maxLen) (k1 : k ≠ 1) (k5 : k ≠ 5) (k6 : k ≠ 6) :
    Calls Tryz.prog 50 #[.slice a n cap, .agg #[.int .i64 k, .string x1, .string x2, .int .i64 x3]] w fun e w' => e = .returned (.bool (turnB l (k, x1, x2, x3, ()))) ∧ Below w.heap.size w w' := by
  obtain ⟨f, hf⟩ : ∃ f, findL l x1 = f := ⟨_, rfl⟩
  have E : Hid (turnB l (k, x1, x2, x3, ()) = _) := turnB_eq l k x1 x2 x3 f hf
  have qF : Hid (∀ w', Below w.heap.size w w' → Calls Tryz.prog 54 #[.slice a n cap, .string x1] w' fun e w'' => e = .returned (.int .i64 f) ∧ Below w'.heap.size w' w'') := fun w' hb => by
    have := specFind_ok a n cap l x1 w' (hr.later hb); rw [hf] at this; exact this
  have bA : Below w.heap.size w (w.alloc (.cells #[.int .i64 k, .string x1, .string x2, .int .i64 x3] 90)) := (Below.refl _ _).alloc (Nat.le_refl _) _
  obtain ⟨W, hW⟩ : ∃ W, W = w.alloc (.cells #[.int .i64 k, .string x1, .string x2, .int .i64 x3] 90) := ⟨_, rfl⟩
  have hbx : W.heap[w.heap.size]? = some (.cells #[.int .i64 k, .string x1, .string x2, .int .i64 x3] 90 (0, 0)) := by rw [hW]; exact heap_alloc_new w _
  have zW : W.heap.size = w.heap.size + 1 := by rw [hW]; simp
  have HW : Hid (W = w.alloc (.cells #[.int .i64 k, .string x1, .string x2, .int .i64 x3] 90)) := hW
  rw [← hW] at bA
  have HB : Hid (∀ w', Below W.heap.size W w' → w'.cell? ⟨w.heap.size, 0, none⟩ = some (.int .i64 k) ∧ w'.cell? ⟨w.heap.size, 1, none⟩ = some (.string x1) ∧ w'.cell? ⟨w.heap.size, 2, none⟩ = some (.string x2) ∧ w'.cell? ⟨w.heap.size, 3, none⟩ = some (.int .i64 x3)) := fun w' h => by
    have i := (h.block _ (by omega)).trans hbx
    exact ⟨box_cell i rfl, box_cell i rfl, box_cell i rfl, box_cell i rfl⟩
  clear hW hbx hf hr
  have q1 : (k == 1) = false := by simp [k1]
  have q5 : (k == 5) = false := by simp [k5]
  have q6 : (k == 6) = false := by simp [k6]
  go_enter Tryz.func50, Tryz.ntmps50
  go_wp2_with fail
  rw [← HW.out]
  refine (specNameB _ _ h1).mono ?_
  rintro e w1 ⟨rfl, rfl⟩
  cases hN : nameB x1 with
  | false =>
    have EE : Hid (turnB l (k, x1, x2, x3, ()) = false) := by show _ = _; rw [E.out, hN]; rfl
    clear E
    go_wp2
    go_ret
    exact ⟨by rw [EE.out]; rfl, bA⟩
  | true =>
    obtain ⟨c0, c1, c2, c3⟩ := HB.out w1 (Below.refl _ _)
    go_wp2_with fail
    refine (qF.out _ bA).mono ?_
    rintro e w2 ⟨rfl, hb2⟩
    have b2 := bA.trans (hb2.mono bA.size)
    obtain ⟨d0, d1, d2, d3⟩ := HB.out w2 hb2
    clear c0 c1 c2 c3 hb2
    go_wp2_with (go_at_call 47; refine (specNameB _ _ h2).mono ?_; rintro e w9 ⟨rfl, rfl⟩)
    all_goals (go_ret; refine ⟨?_, b2⟩)
    all_goals (rw [E.out]; clear E; show Ending.returned (Value.bool _) = Ending.returned (Value.bool _))
    all_goals (first | (simp_all; done) | (simp_all; omega))

theorem specTurnOk_any (a : Option Addr) (n cap : Nat) (l : List LinkD) (k : Int) (x1 x2 : ByteArray) (x3 : Int) (w : World) (hr : Reads (.sl shLink) w [.slice a n cap] l) (h1 : x1.size ≤ maxLen) (h2 : x2.size ≤ maxLen) :
    Calls Tryz.prog 50 #[.slice a n cap, .agg #[.int .i64 k, .string x1, .string x2, .int .i64 x3]] w fun e w' => e = .returned (.bool (turnB l (k, x1, x2, x3, ()))) ∧ Below w.heap.size w w' := by
  by_cases k1 : k = 1
  · subst k1; exact specTurnOk1 a n cap l x1 x2 x3 w hr h1 h2
  by_cases k5 : k = 5
  · subst k5; exact specTurnOk5 a n cap l x1 x2 x3 w hr h1 h2
  by_cases k6 : k = 6
  · subst k6; exact specTurnOk6 a n cap l x1 x2 x3 w hr h1 h2
  exact specTurnOkN k a n cap l x1 x2 x3 w hr h1 h2 k1 k5 k6

set_option maxRecDepth 100000 in
set_option maxHeartbeats 2000000 in
theorem specTurn1 (a : Option Addr) (n cap : Nat) (l : List LinkD) (x1 x2 : ByteArray) (x3 : Int) (w : World) (hr : Reads (.sl shLink) w [.slice a n cap] l) (h1 : x1.size ≤ maxLen) (h2 : x2.size ≤ maxLen) (hn : n ≤ 1000000) :
    Calls Tryz.prog 51 #[.slice a n cap, .agg #[.int .i64 1, .string x1, .string x2, .int .i64 x3]] w fun e w' => ∃ g c, e = .returned (.slice (some ⟨g, 0, none⟩) (withL l x1 x3).length c) ∧ Own (.sl shLink) w' w.heap.size [.slice (some ⟨g, 0, none⟩) (withL l x1 x3).length c] (withL l x1 x3) [g] ∧ Below w.heap.size w w' := by
  have hl : List.length (α := LinkD) l = n := (reads_len hr).1
  obtain ⟨f, hf⟩ : ∃ f, findL l x1 = f := ⟨_, rfl⟩
  have qW : Hid (∀ w', Below w.heap.size w w' → Calls Tryz.prog 83 #[.slice a n cap, .string x1, .int .i64 x3] w' fun e w'' => ∃ g c, e = .returned (.slice (some ⟨g, 0, none⟩) (withL l x1 x3).length c) ∧ Own (.sl shLink) w'' w'.heap.size [.slice (some ⟨g, 0, none⟩) (withL l x1 x3).length c] (withL l x1 x3) [g] ∧ Below w'.heap.size w' w'') :=
    fun w' hb => specWith_ok a n cap l x1 x3 w' (hr.later hb) h1 (by omega)
  have qF : Hid (∀ w', Below w.heap.size w w' → Calls Tryz.prog 54 #[.slice a n cap, .string x1] w' fun e w'' => e = .returned (.int .i64 f) ∧ Below w'.heap.size w' w'') := fun w' hb => by
    have := specFind_ok a n cap l x1 w' (hr.later hb); rw [hf] at this; exact this
  have qL : Hid (∀ w', Below w.heap.size w w' → Calls Tryz.prog 84 #[.slice a n cap, .string x1] w' fun e w'' => ∃ g c, e = .returned (.slice (some ⟨g, 0, none⟩) (lessL l x1).length c) ∧ Own (.sl shLink) w'' w'.heap.size [.slice (some ⟨g, 0, none⟩) (lessL l x1).length c] (lessL l x1) [g] ∧ Below w'.heap.size w' w'') :=
    fun w' hb => specLess_ok a n cap l x1 w' (hr.later hb) (by omega)
  have bA : Below w.heap.size w (w.alloc (.cells #[.int .i64 1, .string x1, .string x2, .int .i64 x3] 90)) := (Below.refl _ _).alloc (Nat.le_refl _) _
  obtain ⟨W, hW⟩ : ∃ W, W = w.alloc (.cells #[.int .i64 1, .string x1, .string x2, .int .i64 x3] 90) := ⟨_, rfl⟩
  have hbx : W.heap[w.heap.size]? = some (.cells #[.int .i64 1, .string x1, .string x2, .int .i64 x3] 90 (0, 0)) := by rw [hW]; exact heap_alloc_new w _
  have zW : W.heap.size = w.heap.size + 1 := by rw [hW]; simp
  have HW : Hid (W = w.alloc (.cells #[.int .i64 1, .string x1, .string x2, .int .i64 x3] 90)) := hW
  rw [← hW] at bA
  have HB : Hid (∀ w', Below W.heap.size W w' → w'.cell? ⟨w.heap.size, 0, none⟩ = some (.int .i64 1) ∧ w'.cell? ⟨w.heap.size, 1, none⟩ = some (.string x1) ∧ w'.cell? ⟨w.heap.size, 2, none⟩ = some (.string x2) ∧ w'.cell? ⟨w.heap.size, 3, none⟩ = some (.int .i64 x3)) := fun w' h => by
    have i := (h.block _ (by omega)).trans hbx
    exact ⟨box_cell i rfl, box_cell i rfl, box_cell i rfl, box_cell i rfl⟩
  have HF : Hid (findL l x1 = f ∧ List.length (α := LinkD) l = n) := ⟨hf, hl⟩
  clear hW hbx hf hr hl
  clear qF qL
  go_enter Tryz.func51, Tryz.ntmps51
  go_wp2_with fail
  rw [← HW.out]
  refine (qW.out _ bA).mono ?_
  rintro e w1 ⟨g, c, rfl, o1, hb1⟩
  have b1 := bA.trans (hb1.mono bA.size)
  have HO : Hid _ := o1
  clear hb1 o1
  go_wp2
  go_ret
  exact ⟨g, c, rfl, Own.base (s := .sl shLink) HO.out bA.size, b1⟩

set_option maxRecDepth 100000 in
set_option maxHeartbeats 2000000 in
theorem specTurnN (k : Int) (a : Option Addr) (n cap : Nat) (l : List LinkD) (x1 x2 : ByteArray) (x3 : Int) (w : World) (hr : Reads (.sl shLink) w [.slice a n cap] l) (h1 : x1.size ≤ maxLen) (h2 : x2.size ≤ maxLen) (hn : n ≤ 1000000) (k1 : k ≠ 1) (k5 : k ≠ 5) :
    Calls Tryz.prog 51 #[.slice a n cap, .agg #[.int .i64 k, .string x1, .string x2, .int .i64 x3]] w fun e w' => ∃ g c, e = .returned (.slice (some ⟨g, 0, none⟩) (lessL l x1).length c) ∧ Own (.sl shLink) w' w.heap.size [.slice (some ⟨g, 0, none⟩) (lessL l x1).length c] (lessL l x1) [g] ∧ Below w.heap.size w w' := by
  have hl : List.length (α := LinkD) l = n := (reads_len hr).1
  obtain ⟨f, hf⟩ : ∃ f, findL l x1 = f := ⟨_, rfl⟩
  have qW : Hid (∀ w', Below w.heap.size w w' → Calls Tryz.prog 83 #[.slice a n cap, .string x1, .int .i64 x3] w' fun e w'' => ∃ g c, e = .returned (.slice (some ⟨g, 0, none⟩) (withL l x1 x3).length c) ∧ Own (.sl shLink) w'' w'.heap.size [.slice (some ⟨g, 0, none⟩) (withL l x1 x3).length c] (withL l x1 x3) [g] ∧ Below w'.heap.size w' w'') :=
    fun w' hb => specWith_ok a n cap l x1 x3 w' (hr.later hb) h1 (by omega)
  have qF : Hid (∀ w', Below w.heap.size w w' → Calls Tryz.prog 54 #[.slice a n cap, .string x1] w' fun e w'' => e = .returned (.int .i64 f) ∧ Below w'.heap.size w' w'') := fun w' hb => by
    have := specFind_ok a n cap l x1 w' (hr.later hb); rw [hf] at this; exact this
  have qL : Hid (∀ w', Below w.heap.size w w' → Calls Tryz.prog 84 #[.slice a n cap, .string x1] w' fun e w'' => ∃ g c, e = .returned (.slice (some ⟨g, 0, none⟩) (lessL l x1).length c) ∧ Own (.sl shLink) w'' w'.heap.size [.slice (some ⟨g, 0, none⟩) (lessL l x1).length c] (lessL l x1) [g] ∧ Below w'.heap.size w' w'') :=
    fun w' hb => specLess_ok a n cap l x1 w' (hr.later hb) (by omega)
  have bA : Below w.heap.size w (w.alloc (.cells #[.int .i64 k, .string x1, .string x2, .int .i64 x3] 90)) := (Below.refl _ _).alloc (Nat.le_refl _) _
  obtain ⟨W, hW⟩ : ∃ W, W = w.alloc (.cells #[.int .i64 k, .string x1, .string x2, .int .i64 x3] 90) := ⟨_, rfl⟩
  have hbx : W.heap[w.heap.size]? = some (.cells #[.int .i64 k, .string x1, .string x2, .int .i64 x3] 90 (0, 0)) := by rw [hW]; exact heap_alloc_new w _
  have zW : W.heap.size = w.heap.size + 1 := by rw [hW]; simp
  have HW : Hid (W = w.alloc (.cells #[.int .i64 k, .string x1, .string x2, .int .i64 x3] 90)) := hW
  rw [← hW] at bA
  have HB : Hid (∀ w', Below W.heap.size W w' → w'.cell? ⟨w.heap.size, 0, none⟩ = some (.int .i64 k) ∧ w'.cell? ⟨w.heap.size, 1, none⟩ = some (.string x1) ∧ w'.cell? ⟨w.heap.size, 2, none⟩ = some (.string x2) ∧ w'.cell? ⟨w.heap.size, 3, none⟩ = some (.int .i64 x3)) := fun w' h => by
    have i := (h.block _ (by omega)).trans hbx
    exact ⟨box_cell i rfl, box_cell i rfl, box_cell i rfl, box_cell i rfl⟩
  have HF : Hid (findL l x1 = f ∧ List.length (α := LinkD) l = n) := ⟨hf, hl⟩
  clear hW hbx hf hr hl
  clear qW
  have q1 : (k == 1) = false := by simp [k1]
  have q5 : (k == 5) = false := by simp [k5]
  go_enter Tryz.func51, Tryz.ntmps51
  go_wp2_with fail
  rw [← HW.out]
  refine (qF.out _ bA).mono ?_
  rintro e w1 ⟨rfl, hb1⟩
  have b1 := bA.trans (hb1.mono bA.size)
  have z1 := hb1.size
  have H1 : Hid (Below W.heap.size W w1) := hb1
  obtain ⟨c0, c1, c2, c3⟩ := HB.out w1 hb1
  clear hb1
  go_wp2_with fail
  refine (qL.out _ b1).mono ?_
  rintro e w2 ⟨g, c, rfl, o2, hb2⟩
  have b2 := b1.trans (hb2.mono b1.size)
  obtain ⟨d0, d1, d2, d3⟩ := HB.out w2 (H1.out.trans (hb2.mono z1))
  have HO : Hid _ := o2
  clear hb2 o2 c0 c1 c2 c3
  go_wp2
  go_ret
  exact ⟨g, c, rfl, Own.base (s := .sl shLink) HO.out b1.size, b2⟩

set_option maxRecDepth 100000 in
set_option maxHeartbeats 2000000 in
theorem specTurn5 (a : Option Addr) (n cap : Nat) (l : List LinkD) (x1 x2 : ByteArray) (x3 : Int) (w : World) (hr : Reads (.sl shLink) w [.slice a n cap] l) (h1 : x1.size ≤ maxLen) (h2 : x2.size ≤ maxLen) (hn : n ≤ 1000000) :
    Calls Tryz.prog 51 #[.slice a n cap, .agg #[.int .i64 5, .string x1, .string x2, .int .i64 x3]] w fun e w' => ∃ g c, e = .returned (.slice (some ⟨g, 0, none⟩) (withL (lessL (lessL l x1) x2) x2 (findL l x1)).length c) ∧ Own (.sl shLink) w' w.heap.size [.slice (some ⟨g, 0, none⟩) (withL (lessL (lessL l x1) x2) x2 (findL l x1)).length c] (withL (lessL (lessL l x1) x2) x2 (findL l x1)) [g] ∧ Below w.heap.size w w' := by
  have hl : List.length (α := LinkD) l = n := (reads_len hr).1
  obtain ⟨f, hf⟩ : ∃ f, findL l x1 = f := ⟨_, rfl⟩
  have qW : Hid (∀ w', Below w.heap.size w w' → Calls Tryz.prog 83 #[.slice a n cap, .string x1, .int .i64 x3] w' fun e w'' => ∃ g c, e = .returned (.slice (some ⟨g, 0, none⟩) (withL l x1 x3).length c) ∧ Own (.sl shLink) w'' w'.heap.size [.slice (some ⟨g, 0, none⟩) (withL l x1 x3).length c] (withL l x1 x3) [g] ∧ Below w'.heap.size w' w'') :=
    fun w' hb => specWith_ok a n cap l x1 x3 w' (hr.later hb) h1 (by omega)
  have qF : Hid (∀ w', Below w.heap.size w w' → Calls Tryz.prog 54 #[.slice a n cap, .string x1] w' fun e w'' => e = .returned (.int .i64 f) ∧ Below w'.heap.size w' w'') := fun w' hb => by
    have := specFind_ok a n cap l x1 w' (hr.later hb); rw [hf] at this; exact this
  have qL : Hid (∀ w', Below w.heap.size w w' → Calls Tryz.prog 84 #[.slice a n cap, .string x1] w' fun e w'' => ∃ g c, e = .returned (.slice (some ⟨g, 0, none⟩) (lessL l x1).length c) ∧ Own (.sl shLink) w'' w'.heap.size [.slice (some ⟨g, 0, none⟩) (lessL l x1).length c] (lessL l x1) [g] ∧ Below w'.heap.size w' w'') :=
    fun w' hb => specLess_ok a n cap l x1 w' (hr.later hb) (by omega)
  have bA : Below w.heap.size w (w.alloc (.cells #[.int .i64 5, .string x1, .string x2, .int .i64 x3] 90)) := (Below.refl _ _).alloc (Nat.le_refl _) _
  obtain ⟨W, hW⟩ : ∃ W, W = w.alloc (.cells #[.int .i64 5, .string x1, .string x2, .int .i64 x3] 90) := ⟨_, rfl⟩
  have hbx : W.heap[w.heap.size]? = some (.cells #[.int .i64 5, .string x1, .string x2, .int .i64 x3] 90 (0, 0)) := by rw [hW]; exact heap_alloc_new w _
  have zW : W.heap.size = w.heap.size + 1 := by rw [hW]; simp
  have HW : Hid (W = w.alloc (.cells #[.int .i64 5, .string x1, .string x2, .int .i64 x3] 90)) := hW
  rw [← hW] at bA
  have HB : Hid (∀ w', Below W.heap.size W w' → w'.cell? ⟨w.heap.size, 0, none⟩ = some (.int .i64 5) ∧ w'.cell? ⟨w.heap.size, 1, none⟩ = some (.string x1) ∧ w'.cell? ⟨w.heap.size, 2, none⟩ = some (.string x2) ∧ w'.cell? ⟨w.heap.size, 3, none⟩ = some (.int .i64 x3)) := fun w' h => by
    have i := (h.block _ (by omega)).trans hbx
    exact ⟨box_cell i rfl, box_cell i rfl, box_cell i rfl, box_cell i rfl⟩
  have HF : Hid (findL l x1 = f ∧ List.length (α := LinkD) l = n) := ⟨hf, hl⟩
  clear hW hbx hf hr hl
  clear qW
  go_enter Tryz.func51, Tryz.ntmps51
  go_wp2_with fail
  rw [← HW.out]
  refine (qF.out _ bA).mono ?_
  rintro e w1 ⟨rfl, hb1⟩
  have b1 := bA.trans (hb1.mono bA.size)
  have z1 := hb1.size
  have H1 : Hid (Below W.heap.size W w1) := hb1
  obtain ⟨c0, c1, c2, c3⟩ := HB.out w1 hb1
  clear hb1
  go_wp2_with fail
  refine (qL.out _ b1).mono ?_
  rintro e w2 ⟨g, c, rfl, o2, hb2⟩
  have b2 := b1.trans (hb2.mono b1.size)
  have z2 := hb2.size
  obtain ⟨d0, d1, d2, d3⟩ := HB.out w2 (H1.out.trans (hb2.mono z1))
  obtain ⟨m, hm⟩ : ∃ m, m = (lessL l x1).length := ⟨_, rfl⟩
  have hmn : m ≤ n := by rw [hm, ← HF.out.2]; exact lessL_len _ _
  have q6 : Hid (∀ w', Below w2.heap.size w2 w' → Calls Tryz.prog 84 #[.slice (some ⟨g, 0, none⟩) m c, .string x2] w' fun e w'' => ∃ g6 c6, e = .returned (.slice (some ⟨g6, 0, none⟩) (lessL (lessL l x1) x2).length c6) ∧ Own (.sl shLink) w'' w'.heap.size [.slice (some ⟨g6, 0, none⟩) (lessL (lessL l x1) x2).length c6] (lessL (lessL l x1) x2) [g6] ∧ Below w'.heap.size w' w'') :=
    fun w' hb => by rw [hm]; exact specLess_ok _ _ c (lessL l x1) x2 w' (o2.later hb).reads (by omega)
  obtain ⟨p, hp⟩ : ∃ p, p = (lessL (lessL l x1) x2).length := ⟨_, rfl⟩
  have hpm : p ≤ m := by rw [hp, hm]; exact lessL_len _ _
  have q7 : Hid (∀ w' g6 c6, Reads (.sl shLink) w' [.slice (some ⟨g6, 0, none⟩) p c6] (lessL (lessL l x1) x2) → Calls Tryz.prog 83 #[.slice (some ⟨g6, 0, none⟩) p c6, .string x2, .int .i64 f] w' fun e w'' => ∃ g7 c7, e = .returned (.slice (some ⟨g7, 0, none⟩) (withL (lessL (lessL l x1) x2) x2 f).length c7) ∧ Own (.sl shLink) w'' w'.heap.size [.slice (some ⟨g7, 0, none⟩) (withL (lessL (lessL l x1) x2) x2 f).length c7] (withL (lessL (lessL l x1) x2) x2 f) [g7] ∧ Below w'.heap.size w' w'') :=
    fun w' g6 c6 hr6 => specWith_ok _ p c6 _ x2 f w' hr6 h2 (by omega)
  rw [← hm]
  rw [← hp] at q6
  have hbb : Below w2.heap.size w2 w2 := Below.refl _ _
  have zlt : w.heap.size < w2.heap.size := by omega
  clear hb2 o2 c0 c1 c2 c3 hm hp
  go_wp2_with fail
  go_region_held (fun w' => w'.cell? ⟨w.heap.size, 0, none⟩ = some (.int .i64 5) ∧ w'.cell? ⟨w.heap.size, 1, none⟩ = some (.string x1) ∧ w'.cell? ⟨w.heap.size, 2, none⟩ = some (.string x2) ∧ w'.cell? ⟨w.heap.size, 3, none⟩ = some (.int .i64 x3))
    (first | go_keep | (refine ⟨?_, ?_, ?_, ?_⟩ <;> first | (refine (hb7.cell ?_).trans ?_; (have h6 := hb6.size; simp at h6 ⊢; omega); assumption) | (refine (hb6.cell ?_).trans ?_; (simp; omega); assumption)))
    (first | ((go_at_call 84; refine (q6.out _ (Below.drew hbb)).mono ?_; rintro e w6 ⟨g6, c6, rfl, o6, hb6⟩; have z0 : w6.cell? ⟨w.heap.size, 0, none⟩ = some (.int .i64 5) := (hb6.cell (p := ⟨w.heap.size, 0, none⟩) (by simp; omega)).trans d0; have z1' : w6.cell? ⟨w.heap.size, 1, none⟩ = some (.string x1) := (hb6.cell (p := ⟨w.heap.size, 1, none⟩) (by simp; omega)).trans d1; have z2' : w6.cell? ⟨w.heap.size, 2, none⟩ = some (.string x2) := (hb6.cell (p := ⟨w.heap.size, 2, none⟩) (by simp; omega)).trans d2; have z3 : w6.cell? ⟨w.heap.size, 3, none⟩ = some (.int .i64 x3) := (hb6.cell (p := ⟨w.heap.size, 3, none⟩) (by simp; omega)).trans d3)) | ((go_at_call 83; refine (q7.out _ g6 c6 o6.reads).mono ?_; rintro e w7 ⟨g7, c7, rfl, o7, hb7⟩)))
  have b6 : Below w.heap.size w w6 := b2.drew.trans (hb6.mono b2.drew.size)
  have b7 : Below w.heap.size w w7 := b6.trans (hb7.mono b6.size)
  have HO : Hid _ := o7
  clear hb6 hb7 o6 o7
  go_wp2
  go_ret
  refine ⟨g7, c7, ?_, ?_, b7⟩
  · rw [HF.out.1]; rfl
  · rw [HF.out.1]; exact Own.base (s := .sl shLink) HO.out b6.size

theorem specTurn_any (a : Option Addr) (n cap : Nat) (l : List LinkD) (k : Int) (x1 x2 : ByteArray) (x3 : Int) (w : World) (hr : Reads (.sl shLink) w [.slice a n cap] l) (h1 : x1.size ≤ maxLen) (h2 : x2.size ≤ maxLen) (hn : n ≤ 1000000) :
    Calls Tryz.prog 51 #[.slice a n cap, .agg #[.int .i64 k, .string x1, .string x2, .int .i64 x3]] w fun e w' => ∃ g c, e = .returned (.slice (some ⟨g, 0, none⟩) (turnL l (k, x1, x2, x3, ())).length c) ∧ Own (.sl shLink) w' w.heap.size [.slice (some ⟨g, 0, none⟩) (turnL l (k, x1, x2, x3, ())).length c] (turnL l (k, x1, x2, x3, ())) [g] ∧ Below w.heap.size w w' := by
  by_cases k1 : k = 1
  · subst k1
    rw [show turnL l (1, x1, x2, x3, ()) = withL l x1 x3 from rfl]
    exact specTurn1 a n cap l x1 x2 x3 w hr h1 h2 hn
  by_cases k5 : k = 5
  · subst k5
    rw [show turnL l (5, x1, x2, x3, ()) = withL (lessL (lessL l x1) x2) x2 (findL l x1) from rfl]
    exact specTurn5 a n cap l x1 x2 x3 w hr h1 h2 hn
  rw [show turnL l (k, x1, x2, x3, ()) = lessL l x1 by unfold turnL; rw [if_neg k1, if_neg k5]]
  exact specTurnN k a n cap l x1 x2 x3 w hr h1 h2 hn k1 k5

end Go.Proofs.YtkfmpfbhhmmllaaGreat
