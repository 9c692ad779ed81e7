/-
  Joined: AppS, TyEntry, Ent, EnsP, EntC, ScP, LogP, ScT, ScU, Draw, DrawE, SameE, DrawB, Conv, MkNum.
-/
import Derived.Test.YtelbkamgcnmokaaJ0FnFlip
import Derived.Laws.AppendOwnNone
import Derived.Deep.AppendLies
import Derived.Lib.AppendStr
import Derived.Handy
import Derived.Deep.RegionHeld3
import Derived.Laws.BytesArg
import Derived.Lib.SliceRun
/- AppS: append where the source is nil or not, empty or not: one law for all, at a plain list of operations and at a step of a region that draws its order; append of a string. -/
namespace Go.Proofs.Ytelbkamgcnmokaa
open Go.RowKit
set_option linter.unusedVariables false

/-- What is appended: m elements, their cells 'news'. -/
def Src (w : World) (x : Value) (m : Nat) (news : List Value) : Prop :=
  (x = .slice none 0 0 ∧ m = 0 ∧ news = []) ∨ ∃ ad c, x = .slice (some ad) m c ∧ ∀ (j : Nat) (u : Value), news[j]? = some u → w.cell? (ad.add j) = some u

theorem wp_append_src {P : Program} {w : World} {o : Oper} {a : Act} {K : Act → World → Prop} {Q : Exit → Act → World → Prop} (s x : Operand) (t : TypeId)
    (ho : o.op = .call { callee := .builtin .append, args := #[s, x], argTypes := #[t, t] })
    (base : Nat) (e : TypeId) (i : TypeInfo) (z : Value) (size bytes : Nat) (ht : P.underlying t = some (.slice e)) (hi : P.info? e = some i) (hz : i.zero = some z)
    (hsize : i.size = size) (hby : i.bytes = bytes) (hzs : z.cells.size = size) (hsz : 0 < size)
    (v : Value) (n : Nat) (xs : List Value) (hs : a.eval s = v) (hown : w.ownsRow base e size v n xs)
    (xv : Value) (m : Nat) (news : List Value) (hx : a.eval x = xv) (hl : news.length = m * size) (hsrc : Src w xv m news) (h1 : ∀ u ∈ news, u.oneCell' = true)
    (h63 : n + m ≤ maxLen) (hbytes : (n + m) * bytes ≤ 140737488355328) (hbase : base ≤ w.heap.size)
    (h : ∀ v' w', w'.ownsRow base e size v' (n + m) (xs ++ news) → w.grownBy w' v.ownBlock → K (a.put o.dst v') w') : o.wp P a w K Q := by
  rcases hsrc with ⟨h2, rfl, rfl⟩ | ⟨ad, c, h2, h3⟩
  · have hrun := run_append_owned_none (P := P) (w := w) base t o.type e i size ht hi v n xs hown
    unfold Oper.wp execOp
    simp only [ho, resolve, invoke, builtin, Sem.run_bind, Sem.run_pure, Result.andThen_ok, List.map_toArray, List.map_cons, List.map_nil, hs, hx, h2, hrun]
    exact h v w (by simpa using hown) (World.grownBy.refl _ _)
  · exact wp_append_own w s x t ho base e i z size bytes ht hi hz hsize hby hzs hsz v n xs hs hown ad m c news (hx.trans h2) hl h3 h1 h63 hbytes hbase fun v' w' k1 k2 _ => h v' w' k1 k2

theorem wpList_append_src {P : Program} {w : World} {ops : Array Oper} {rest : List Oper} {o : Oper} {a : Act} {Q : Exit → Act → World → Prop} (hgd : o.guard = none) (s x : Operand) (t : TypeId)
    (ho : o.op = .call { callee := .builtin .append, args := #[s, x], argTypes := #[t, t] })
    (base : Nat) (e : TypeId) (i : TypeInfo) (z : Value) (size bytes : Nat) (ht : P.underlying t = some (.slice e)) (hi : P.info? e = some i) (hz : i.zero = some z)
    (hsize : i.size = size) (hby : i.bytes = bytes) (hzs : z.cells.size = size) (hsz : 0 < size)
    (v : Value) (n : Nat) (xs : List Value) (hs : a.eval s = v) (hown : w.ownsRow base e size v n xs)
    (xv : Value) (m : Nat) (news : List Value) (hx : a.eval x = xv) (hl : news.length = m * size) (hsrc : Src w xv m news) (h1 : ∀ u ∈ news, u.oneCell' = true)
    (h63 : n + m ≤ maxLen) (hbytes : (n + m) * bytes ≤ 140737488355328) (hbase : base ≤ w.heap.size)
    (h : ∀ v' w', w'.ownsRow base e size v' (n + m) (xs ++ news) → w.grownBy w' v.ownBlock → wpList P ops Q rest (a.put o.dst v') w') : wpList P ops Q (o :: rest) a w :=
  wpList_plain hgd fun _ hK => wp_append_src s x t ho base e i z size bytes ht hi hz hsize hby hzs hsz v n xs hs hown xv m news hx hl hsrc h1 h63 hbytes hbase fun v' w' h2 h3 => hK _ _ (h v' w' h2 h3)

theorem step_append_src {P : Program} {w : World} {ops : Array Oper} {o : Oper} {a : Act} {K : Act → World → Prop} {Q : Exit → Act → World → Prop} {E : Prop} (hgd : o.guard = none) (s x : Operand) (t : TypeId)
    (ho : o.op = .call { callee := .builtin .append, args := #[s, x], argTypes := #[t, t] })
    (base : Nat) (e : TypeId) (i : TypeInfo) (z : Value) (size bytes : Nat) (ht : P.underlying t = some (.slice e)) (hi : P.info? e = some i) (hz : i.zero = some z)
    (hsize : i.size = size) (hby : i.bytes = bytes) (hzs : z.cells.size = size) (hsz : 0 < size)
    (v : Value) (n : Nat) (xs : List Value) (hs : a.eval s = v) (hown : w.ownsRow base e size v n xs)
    (xv : Value) (m : Nat) (news : List Value) (hx : a.eval x = xv) (hl : news.length = m * size) (hsrc : Src w xv m news) (h1 : ∀ u ∈ news, u.oneCell' = true)
    (h63 : n + m ≤ maxLen) (hbytes : (n + m) * bytes ≤ 140737488355328) (hbase : base ≤ w.heap.size)
    (h : ∀ v' w', w'.ownsRow base e size v' (n + m) (xs ++ news) → w.grownBy w' v.ownBlock → K (a.put o.dst v') w') :
    if Region.wanted o (yielded ops a.tmps) = true then Oper.wp P o a w K Q else E := by
  have hw : Region.wanted o (yielded ops a.tmps) = true := by simp [Region.wanted, hgd]
  rw [if_pos hw]
  exact wp_append_src s x t ho base e i z size bytes ht hi hz hsize hby hzs hsz v n xs hs hown xv m news hx hl hsrc h1 h63 hbytes hbase h

/-- A string appended to an owned row of bytes, as a step of a region that draws its order. -/
theorem step_append_str {P : Program} {w : World} {ops : Array Oper} {o : Oper} {a : Act} {K : Act → World → Prop} {Q : Exit → Act → World → Prop} {E : Prop} (hgd : o.guard = none) (sl x : Operand) (t u : TypeId)
    (ho : o.op = .call { callee := .builtin .append, args := #[sl, x], argTypes := #[t, u] })
    (base : Nat) (e : TypeId) (i : TypeInfo) (ht : P.underlying t = some (.slice e)) (hu : P.underlying u = some .string) (hi : P.info? e = some i) (hz : i.zero = some (.int .u8 0))
    (hsize : i.size = 1) (hby : i.bytes = 1)
    (v : Value) (n : Nat) (xs : List Value) (hs : a.eval sl = v) (hown : w.ownsRow base e 1 v n xs) (s : ByteArray) (hx : a.eval x = .string s)
    (h63 : n + s.size ≤ maxLen) (hbytes : n + s.size ≤ 140737488355328) (hbase : base ≤ w.heap.size)
    (h : ∀ v' w', w'.ownsRow base e 1 v' (n + s.size) (xs ++ Lib.strCells s) → w.grownBy w' v.ownBlock → K (a.put o.dst v') w') :
    if Region.wanted o (yielded ops a.tmps) = true then Oper.wp P o a w K Q else E := by
  have hw : Region.wanted o (yielded ops a.tmps) = true := by simp [Region.wanted, hgd]
  rw [if_pos hw]
  obtain ⟨v', w', hr, h2, h3, h4⟩ := Lib.run_append_own_string (P := P) w base t u o.type e i ht hu hi hz hsize hby v n xs hown s h63 hbytes hbase
  unfold Oper.wp execOp
  simp only [ho, resolve, invoke, builtin, Sem.run_bind, Sem.run_pure, Result.andThen_ok, List.map_toArray, List.map_cons, List.map_nil, hs, hx, hr]
  exact h v' w' h2 h3

theorem src_own {w : World} {B n : Nat} {e : TypeId} {v : Value} {xs : List Value} (h : w.ownsRow B e 1 v n xs) : Src w v n xs := by
  rcases h.2 with ⟨h1, h2⟩ | ⟨g, cap, cur, hv, _⟩
  · refine .inl ⟨h1, h2, ?_⟩
    have := h.1
    rw [h2] at this
    exact List.eq_nil_of_length_eq_zero (by simpa using this)
  · subst hv
    exact .inr ⟨_, _, rfl, h.cells (g := g) rfl⟩

theorem src_later {w w' : World} {x : Value} {m : Nat} {news : List Value} (h : Src w x m news) (hb : Below w.heap.size w w') : Src w' x m news := by
  rcases h with h | ⟨ad, c, h1, h2⟩
  · exact .inl h
  · refine .inr ⟨ad, c, h1, fun j u hu => ?_⟩
    have h3 := h2 j u hu
    exact (hb.cell (World.block_lt_of_cell? w _ h3)).trans h3

/-- An owned row, said of an earlier size. -/
theorem own_lower {w : World} {B B' n : Nat} {e : TypeId} {size : Nat} {v : Value} {xs : List Value} (h : w.ownsRow B e size v n xs) (hb : B' ≤ B) : w.ownsRow B' e size v n xs := by
  refine ⟨h.1, ?_⟩
  rcases h.2 with h1 | ⟨g, cap, cur, hv, hg, r⟩
  · exact .inl h1
  · exact .inr ⟨g, cap, cur, hv, Nat.le_trans hb hg, r⟩
theorem own_base0 {w : World} {B n : Nat} {e : TypeId} {size : Nat} {v : Value} {xs : List Value} (h : w.ownsRow B e size v n xs) : w.ownsRow 0 e size v n xs := own_lower h (Nat.zero_le _)

theorem src_nil (w : World) : Src w (.slice none 0 0) 0 [] := .inl ⟨rfl, rfl, rfl⟩

end Go.Proofs.Ytelbkamgcnmokaa

/- TyEntry: The type Entry of the laws: its shape, and what szEntry, toEntry, eqEntry and those of its slices do. By program (tygen.py). -/
namespace Go.Proofs.Ytelbkamgcnmokaa
open Go.RowKit
set_option linter.unusedVariables false

def shEntry : Sh := Sh.ofL [.int, .str]

theorem open_Entry {w : World} {cs : List Value} {d : shEntry.D} (h : Reads shEntry w cs d) :
    cs = [.int .i64 (d.1), .string (d.2.1)] ∧ ByteArray.size d.2.1 ≤ maxLen := by
  obtain ⟨_, _, rfl, h0, _, _, rfl, h1, hE⟩ := h
  have e0 : _ = _ := h0
  obtain ⟨e1, l1⟩ := h1
  have eE : _ = _ := hE
  subst e0 e1 eE
  exact ⟨rfl, l1⟩

theorem own_Entry {w : World} {B : Nat} {d : shEntry.D} (l1 : ByteArray.size d.2.1 ≤ maxLen) :
    Own shEntry w B [.int .i64 (d.1), .string (d.2.1)] d ([]) := by
  exact ⟨[_], _, [], [], rfl, rfl, ⟨rfl, rfl⟩, ⟨[_], _, [], [], rfl, rfl, ⟨⟨rfl, l1⟩, rfl⟩, ⟨rfl, rfl⟩⟩⟩

theorem size_Entry : shEntry.size = 2 := rfl

theorem sz_Entry (d : shEntry.D) : shEntry.sz d = Sh.sz .str d.2.1 := by
  show 0 + (Sh.sz .str d.2.1 + (0)) = _
  omega

theorem infoEntry : (Try.prog.info? 28).map (fun i => (i.zero, i.size, i.bytes)) = some (some (.agg #[.int .i64 0, .string ByteArray.empty]), 2, 24) := by kernel_rfl

end Go.Proofs.Ytelbkamgcnmokaa

/- Ent: EntryOk, the model's and the program's: the number is from 1 to 1000000000, the text has 1 to 1000 bytes. -/
namespace Go.Proofs.Ytelbkamgcnmokaa
open Go.RowKit
set_option linter.unusedVariables false

def entB (x : Int) (n : Nat) : Bool := decide (1 ≤ x) && decide (x ≤ 1000000000) && decide (1 ≤ n) && decide (n ≤ 1000)

theorem entB_iff (x : Int) (n : Nat) : entB x n = true ↔ 1 ≤ x ∧ x ≤ 1000000000 ∧ 1 ≤ n ∧ n ≤ 1000 := by
  simp only [entB, Bool.and_eq_true, decide_eq_true_eq, and_assoc]

theorem seqOk_any (n : Int) (w : World) :
    Calls Try.prog 28 #[.int .i64 n] w fun e w' => e = .returned (.bool (decide (1 ≤ n) && decide (n ≤ 1000000000))) ∧ w' = w := by
  go_enter Try.func28, Try.ntmps28
  go_wp2
  all_goals (go_ret; refine ⟨?_, rfl⟩)
  all_goals (show Ending.returned (Value.bool _) = Ending.returned (Value.bool _))
  all_goals (congr 2; rw [Bool.eq_iff_iff]; simp_all <;> omega)

theorem textSizeOk_any (n : Int) (w : World) :
    Calls Try.prog 27 #[.int .i64 n] w fun e w' => e = .returned (.bool (decide (1 ≤ n) && decide (n ≤ 1000))) ∧ w' = w := by
  go_enter Try.func27, Try.ntmps27
  go_wp2
  all_goals (go_ret; refine ⟨?_, rfl⟩)
  all_goals (show Ending.returned (Value.bool _) = Ending.returned (Value.bool _))
  all_goals (congr 2; rw [Bool.eq_iff_iff]; simp_all <;> omega)

set_option maxRecDepth 100000 in
set_option maxHeartbeats 2000000 in
theorem implEnt_any (x0 : Int) (x1 : ByteArray) (w : World) (h1 : x1.size ≤ maxLen) :
    Calls Try.prog 20 #[.agg #[.int .i64 x0, .string x1]] w fun e w' => e = .returned (.bool (entB x0 x1.size)) ∧ Below w.heap.size w w' := by
  unfold maxLen at h1
  go_enter Try.func20, Try.ntmps20
  go_wp2_with (first | (go_at_call 28; refine (seqOk_any _ _).mono ?_; rintro e w9 ⟨rfl, rfl⟩) | (go_at_call 27; refine (textSizeOk_any _ _).mono ?_; rintro e w9 ⟨rfl, rfl⟩))
  all_goals (go_ret; refine ⟨?_, (Below.refl _ _).alloc (Nat.le_refl _) _⟩)
  all_goals (show Ending.returned (Value.bool _) = Ending.returned (Value.bool _))
  all_goals (congr 2; rw [Bool.eq_iff_iff, entB_iff]; simp_all <;> omega)

end Go.Proofs.Ytelbkamgcnmokaa

/- EnsP: Lists of entries: when they are right (plain facts). -/
namespace Go.Proofs.Ytelbkamgcnmokaa
open Go.RowKit
set_option linter.unusedVariables false

abbrev EntD := Int × ByteArray × Unit

/-- Whether an entry may follow a number. -/
def linkB (p : Option Int) (x : Int) : Bool := match p with | none => true | some q => decide (x = q + 1)

/-- Whether each is right and follows the one ahead of it, the first p. -/
def entsFrom : Option Int → List EntD → Bool
  | _, [] => true
  | p, x :: l => entB x.1 (ByteArray.size x.2.1) && linkB p x.1 && entsFrom (some x.1) l

def entsB (l : List EntD) : Bool := entsFrom none l

/-- The number of the last of the first k. -/
def prevN (l : List EntD) (k : Nat) : Option Int := if k = 0 then none else (l[k - 1]?).map (·.1)

theorem prevN_zero (l : List EntD) : prevN l 0 = none := rfl
theorem prevN_succ (l : List EntD) (j : Nat) (x : EntD) (h : l[j]? = some x) : prevN l (j + 1) = some x.1 := by simp [prevN, h]

theorem ents_step (l : List EntD) (k : Nat) (x : EntD) (h : l[k]? = some x) :
    entsFrom (prevN l k) (l.drop k) = (entB x.1 (ByteArray.size x.2.1) && linkB (prevN l k) x.1 && entsFrom (prevN l (k + 1)) (l.drop (k + 1))) := by
  have hk : k < l.length := (List.getElem?_eq_some_iff.1 h).1
  have hx : l[k] = x := (List.getElem?_eq_some_iff.1 h).2
  rw [List.drop_eq_getElem_cons hk, hx, prevN_succ l k x h]
  rfl

theorem ents_end (l : List EntD) (k : Nat) (h : l.length ≤ k) (p : Option Int) : entsFrom p (l.drop k) = true := by
  rw [List.drop_eq_nil_of_le h]; rfl

end Go.Proofs.Ytelbkamgcnmokaa

/- EntC: Rows of entries: their cells; a slice of the last ones. -/
namespace Go.Proofs.Ytelbkamgcnmokaa
open Go.RowKit
set_option linter.unusedVariables false

def cellsE (l : List EntD) : List Value := l.flatMap fun x => [.int .i64 x.1, .string x.2.1]

theorem cellsE_snoc (l : List EntD) (x : EntD) : cellsE (l ++ [x]) = cellsE l ++ [.int .i64 x.1, .string x.2.1] := by simp [cellsE]

theorem cellsE_len (l : List EntD) : (cellsE l).length = l.length * 2 := by
  unfold cellsE
  induction l with
  | nil => rfl
  | cons a l ih => rw [List.flatMap_cons, List.length_append, ih, List.length_cons]; simp; omega

theorem cellsE_one (l : List EntD) : ∀ u ∈ cellsE l, u.oneCell' = true := by
  intro u hu
  unfold cellsE at hu
  obtain ⟨x, _, hx⟩ := List.mem_flatMap.1 hu
  simp at hx
  rcases hx with rfl | rfl <;> rfl

theorem take_cellsE (d : List EntD) (k : Nat) (x : EntD) (h : d[k]? = some x) : cellsE (d.take (k + 1)) = cellsE (d.take k) ++ [.int .i64 x.1, .string x.2.1] := by
  have hk : k < d.length := (List.getElem?_eq_some_iff.1 h).1
  have hx : d[k] = x := (List.getElem?_eq_some_iff.1 h).2
  rw [List.take_succ_eq_append_getElem hk, hx, cellsE_snoc]

def SmallE (l : List EntD) : Prop := ∀ x ∈ l, ByteArray.size x.2.1 ≤ maxLen

theorem reads_smallE {w : World} {a : Option Addr} {n cap : Nat} {d : List EntD} (h : Reads (.sl shEntry) w [.slice a n cap] d) : SmallE d := by
  intro x hx
  obtain ⟨i, hi, rfl⟩ := List.mem_iff_getElem.1 hx
  have hl := (reads_len h).1
  have hl' : List.length (α := EntD) d = n := hl
  obtain ⟨b, off, c, y, _, _, hy, hr, _⟩ := reads_elem h i (by omega)
  obtain ⟨_, hh⟩ := open_Entry hr
  have : (d : List EntD)[i]? = some y := hy
  rw [List.getElem?_eq_getElem hi] at this
  obtain rfl := Option.some.inj this
  exact hh

/-- A row of entries that the call owns, nil or not. -/
theorem own_entsV {w : World} {B n : Nat} {v : Value} {t : TypeId} {l : List EntD} (hl : l.length = n) (hs : SmallE l) (h : w.ownsRow B t 2 v n (cellsE l)) : ∃ F, Own (.sl shEntry) w B [v] l F ∧ F.Nodup ∧ ∃ a c, v = .slice a n c := by
  rcases h.2 with ⟨h1, h2⟩ | ⟨g, cap, cur, hv, _⟩
  · refine ⟨[], .inl ⟨by rw [h1], ?_, rfl⟩, by simp, none, 0, by rw [h1, h2]⟩
    show l.length = 0; omega
  · subst hv
    exact ⟨[g], own_flat shEntry (fun x => [.int .i64 x.1, .string x.2.1]) hl (fun x hx => own_Entry (d := x) (hs x hx)) h, by simp, _, _, rfl⟩

theorem ents_src {w : World} {ad : Addr} {n cap : Nat} {l : List EntD} (h : Reads (.sl shEntry) w [.slice (some ad) n cap] l) : ∀ (j : Nat) (u : Value), (cellsE l)[j]? = some u → w.cell? (ad.add j) = some u :=
  reads_flat shEntry (fun x => [.int .i64 x.1, .string x.2.1]) (by decide) (fun w c x hr => (open_Entry hr).1) h

/-- The elements from k on. -/
theorem reads_drop {e : Sh} {w : World} {b off n c : Nat} {d : List e.D} (h : Reads (.sl e) w [.slice (some ⟨b, off, none⟩) n c] d) (k : Nat) (hk : k ≤ n) : Reads (.sl e) w [.slice (some ⟨b, off + k * e.size, none⟩) (n - k) (c - k)] (List.drop k d) := by
  obtain ⟨a, cp, e1, hl, hm, h0⟩ := h
  simp only [List.cons.injEq, Value.slice.injEq, and_true] at e1
  obtain ⟨rfl, hn, rfl⟩ := e1
  have hdl : (List.drop k d).length = n - k := by rw [List.length_drop]; omega
  refine ⟨some ⟨b, off + k * e.size, none⟩, c - k, ?_, ?_, by omega, ?_⟩
  · show _ = [Value.slice _ (List.drop k d).length _]; rw [hdl]
  · show (List.drop k d).length ≤ c - k; omega
  · rcases h0 with h0 | ⟨b', off', hb, hlt, hx⟩
    · left
      have h0' : d.length = 0 := h0
      show (List.drop k d).length = 0
      omega
    · simp only [Option.some.injEq, Addr.mk.injEq, and_true] at hb
      obtain ⟨rfl, rfl⟩ := hb
      refine .inr ⟨b, off + k * e.size, rfl, hlt, fun i x hi => ?_⟩
      have hi' : d[k + i]? = some x := by
        have : (List.drop k d)[i]? = some x := hi
        rwa [List.getElem?_drop] at this
      obtain ⟨cc, hc, hcell, hr⟩ := hx (k + i) x hi'
      refine ⟨cc, hc, fun j hj => ?_, hr⟩
      have := hcell j hj
      rw [Nat.add_mul] at this
      rw [← this]
      congr 2
      omega

/-- No elements: whatever the address. -/
theorem reads_none {e : Sh} (w : World) (a : Option Addr) (c : Nat) (hc : c ≤ maxLen) : Reads (.sl e) w [.slice a 0 c] ([] : List e.D) := ⟨a, c, rfl, Nat.zero_le _, hc, .inl rfl⟩

end Go.Proofs.Ytelbkamgcnmokaa

/- ScP: Scanning a log: what it answers (plain facts). -/
namespace Go.Proofs.Ytelbkamgcnmokaa
open Go.RowKit
set_option linter.unusedVariables false

/-- What reading says where the code is 0. -/
theorem fr_ok (zs : List Int) (hz : Byt zs) (p : Nat) (h : (frAns zs (p : Int)).2.2.2 = 0) :
    1 ≤ (frAns zs (p : Int)).1 ∧ (frAns zs (p : Int)).1 ≤ 1000000000 ∧ (frAns zs (p : Int)).2.1.size ≤ 1000 ∧ ∃ nx : Nat, (frAns zs (p : Int)).2.2.1 = (nx : Int) ∧ p + 11 ≤ nx ∧ nx ≤ zs.length := by
  unfold frAns at h ⊢
  have eP : ((p : Int)).toNat = p := by omega
  rw [eP] at h ⊢
  have hs := gnum2_bd zs hz p
  have hn := gnum4_bd zs hz (p + 2)
  split at h
  · simp at h
  rename_i h1
  rw [if_neg h1]
  split at h
  · simp at h
  rename_i h2
  rw [if_neg h2]
  split at h
  · simp at h
  rename_i h3
  rw [if_neg h3]
  split at h
  · simp at h
  rename_i h4
  rw [if_neg h4]
  split at h
  · simp at h
  rename_i h5
  rw [if_neg h5]
  split at h
  · rename_i h6
    rw [if_pos h6]
    refine ⟨by show 1 ≤ gnum zs (p + 2) 4; omega, by show gnum zs (p + 2) 4 ≤ _; omega, ?_, p + 10 + (gnum zs p 2).toNat, ?_, by omega, by omega⟩
    · show (strOfNums _).size ≤ 1000
      rw [strOfNums_size, cutL_len _ _ _ (by omega)]
      omega
    · show (p : Int) + 10 + gnum zs p 2 = _
      omega
  · simp at h

def lastNum (acc : List EntD) : Option Int := prevN acc acc.length

def recOf (zs : List Int) (p : Nat) : EntD := ((frAns zs (p : Int)).1, (frAns zs (p : Int)).2.1, ())

/-- Whether reading goes on at p. -/
def goesOn (zs : List Int) (acc : List EntD) (p : Nat) : Bool := decide ((frAns zs (p : Int)).2.2.2 = 0) && linkB (lastNum acc) (frAns zs (p : Int)).1

def scanL (zs : List Int) : Nat → List EntD → Nat → List EntD × Nat
  | 0, acc, p => (acc, p)
  | f + 1, acc, p => if goesOn zs acc p then scanL zs f (acc ++ [recOf zs p]) (frAns zs (p : Int)).2.2.1.toNat else (acc, p)

def scanA (zs : List Int) : List EntD × Nat := scanL zs (zs.length + 1) [] 0

theorem scanL_on (zs : List Int) (f : Nat) (acc : List EntD) (p : Nat) (h : goesOn zs acc p = true) (hf : 0 < f) : scanL zs f acc p = scanL zs (f - 1) (acc ++ [recOf zs p]) (frAns zs (p : Int)).2.2.1.toNat := by
  cases f with
  | zero => omega
  | succ f => show (if goesOn zs acc p then _ else _) = _; rw [if_pos h]; rfl

theorem scanL_end (zs : List Int) (f : Nat) (acc : List EntD) (p : Nat) (h : goesOn zs acc p = false) : scanL zs f acc p = (acc, p) := by
  cases f with
  | zero => rfl
  | succ f => show (if goesOn zs acc p then _ else _) = _; rw [if_neg (by simp [h])]

def AccOk (acc : List EntD) : Prop := ∀ x ∈ acc, 1 ≤ x.1 ∧ x.1 ≤ 1000000000 ∧ ByteArray.size x.2.1 ≤ 1000

theorem accOk_snoc (acc : List EntD) (x : EntD) (h : AccOk acc) (hx : 1 ≤ x.1 ∧ x.1 ≤ 1000000000 ∧ ByteArray.size x.2.1 ≤ 1000) : AccOk (acc ++ [x]) := by
  intro y hy
  rcases List.mem_append.1 hy with h1 | h1
  · exact h y h1
  · simp at h1; subst h1; exact hx

theorem cellsE_at (l : List EntD) (k : Nat) (x : EntD) (h : l[k]? = some x) : (cellsE l)[k * 2]? = some (.int .i64 x.1) := by
  induction l generalizing k with
  | nil => simp at h
  | cons a l ih =>
    cases k with
    | zero => simp at h; subst h; simp [cellsE]
    | succ k =>
      simp at h
      have h1 := ih k h
      have e : cellsE (a :: l) = [Value.int .i64 a.1, Value.string a.2.1] ++ cellsE l := by simp [cellsE]
      rw [e, List.getElem?_append_right (by simp; omega)]
      have e2 : (k + 1) * 2 - [Value.int .i64 a.1, Value.string a.2.1].length = k * 2 := by simp; omega
      rw [e2]; exact h1

/-- The last entry of an owned row. -/
theorem own_last {w : World} {B g j c : Nat} {t : TypeId} {acc : List EntD} (h : w.ownsRow B t 2 (.slice (some ⟨g, 0, none⟩) (j + 1) c) (j + 1) (cellsE acc)) (hl : acc.length = j + 1) : ∃ z, acc[j]? = some z ∧ lastNum acc = some z.1 ∧ z ∈ acc ∧ w.cell? ⟨g, 0 + j * 2, none⟩ = some (.int .i64 z.1) := by
  have hj : j < acc.length := by omega
  have hz : acc[j]? = some acc[j] := List.getElem?_eq_getElem hj
  refine ⟨acc[j], hz, ?_, List.getElem_mem hj, ?_⟩
  · unfold lastNum; rw [hl]; exact prevN_succ acc j _ hz
  · have h1 := h.cells (g := g) rfl (j * 2) _ (cellsE_at acc j _ hz)
    have e : (⟨g, 0, none⟩ : Addr).add (j * 2) = ⟨g, 0 + j * 2, none⟩ := by simp [Addr.add]; omega
    rw [e] at h1
    exact h1

theorem own_sliceE {w : World} {B n : Nat} {e : TypeId} {size : Nat} {v : Value} {xs : List Value} (h : w.ownsRow B e size v n xs) : ∃ a c, v = .slice a n c := by
  rcases h.2 with ⟨h1, h2⟩ | ⟨g, cap, cur, hv, _⟩
  · exact ⟨none, 0, by rw [h1, h2]⟩
  · exact ⟨_, _, hv⟩

end Go.Proofs.Ytelbkamgcnmokaa

/- LogP: A log: the records of a list of entries, one behind the other (plain facts). -/
namespace Go.Proofs.Ytelbkamgcnmokaa
open Go.RowKit
set_option linter.unusedVariables false

def recL (x : EntD) : List Int := frameL x.1 (sB x.2.1)

theorem recL_len (x : EntD) : (recL x).length = 10 + ByteArray.size x.2.1 := by unfold recL; rw [frameL_len, sB_len]
theorem byt_recL (x : EntD) : Byt (recL x) := byt_frameL _ _ (byt_sB _)

/-- The records of the first k. -/
def logTo (d : List EntD) (k : Nat) : List Int := (d.take k).flatMap recL

def logL (d : List EntD) : List Int := d.flatMap recL

theorem logTo_zero (d : List EntD) : logTo d 0 = [] := by simp [logTo]
theorem logTo_all (d : List EntD) (k : Nat) (h : d.length ≤ k) : logTo d k = logL d := by unfold logTo logL; rw [List.take_of_length_le h]

theorem logTo_succ (d : List EntD) (k : Nat) (x : EntD) (h : d[k]? = some x) : logTo d (k + 1) = logTo d k ++ recL x := by
  have hk : k < d.length := (List.getElem?_eq_some_iff.1 h).1
  have hx : d[k] = x := (List.getElem?_eq_some_iff.1 h).2
  unfold logTo
  rw [List.take_succ_eq_append_getElem hk, hx, List.flatMap_append]
  simp

theorem logTo_le (d : List EntD) (k : Nat) : (logTo d k).length ≤ (logL d).length := by
  unfold logTo logL
  conv => rhs; rw [← List.take_append_drop k d, List.flatMap_append, List.length_append]
  omega

theorem byt_flat (d : List EntD) : Byt (d.flatMap recL) := by
  rw [byt_iff]
  intro z hz
  obtain ⟨x, _, hx⟩ := List.mem_flatMap.1 hz
  exact (byt_iff _).1 (byt_recL x) z hx

theorem byt_logTo (d : List EntD) (k : Nat) : Byt (logTo d k) := byt_flat _
theorem byt_logL (d : List EntD) : Byt (logL d) := byt_flat _

theorem ents_all : ∀ (l : List EntD) (p : Option Int), entsFrom p l = true → ∀ x ∈ l, entB x.1 (ByteArray.size x.2.1) = true
  | [], _, _, x, hx => by cases hx
  | y :: l, p, h, x, hx => by
    simp only [entsFrom, Bool.and_eq_true] at h
    rcases List.mem_cons.1 hx with rfl | hx
    · exact h.1.1
    · exact ents_all l _ h.2 x hx

theorem ents_at (d : List EntD) (h : entsB d = true) (k : Nat) (x : EntD) (hx : d[k]? = some x) : entB x.1 (ByteArray.size x.2.1) = true :=
  ents_all d none h x (List.mem_of_getElem? hx)

theorem own_slice {w : World} {B n : Nat} {e : TypeId} {size : Nat} {v : Value} {xs : List Value} (h : w.ownsRow B e size v n xs) : ∃ a c, v = .slice a n c := by
  rcases h.2 with ⟨h1, h2⟩ | ⟨g, cap, cur, hv, _⟩
  · exact ⟨none, 0, by rw [h1, h2]⟩
  · exact ⟨_, _, hv⟩

end Go.Proofs.Ytelbkamgcnmokaa

/- ScT: Scanning what was written: the records are found again; of a torn log those that are all there (plain facts). -/
namespace Go.Proofs.Ytelbkamgcnmokaa
open Go.RowKit
set_option linter.unusedVariables false

theorem gnum_cutP (zs : List Int) (P m q : Nat) : ∀ k, q + k ≤ m → gnum (cutL zs P m) q k = gnum zs (P + q) k
  | 0, _ => rfl
  | k + 1, h => by
    show gnum (cutL zs P m) q k * 256 + (cutL zs P m)[q + k]?.getD 0 = gnum zs (P + q) k * 256 + zs[P + q + k]?.getD 0
    rw [gnum_cutP zs P m q k (by omega), cutL_at zs P m (q + k) (by omega), Nat.add_assoc]

theorem str_sB (s : ByteArray) : strOfNums (sB s) = s := by
  apply ByteArray.ext
  apply Array.toList_inj.1
  rw [strOfNums_data]
  unfold sB
  rw [List.map_map]
  conv => rhs; rw [← List.map_id s.data.toList]
  refine List.map_congr_left fun b _ => ?_
  show UInt8.ofNat ((b.toNat : Int)).toNat = b
  simp

theorem frame_list (x : Int) (t : List Int) : frameL x t = [(t.length : Int) / 256 % 256, (t.length : Int) / 1 % 256, x / 16777216 % 256, x / 65536 % 256, x / 256 % 256, x / 1 % 256,
    crcI (headL x t.length ++ t) / 16777216 % 256, crcI (headL x t.length ++ t) / 65536 % 256, crcI (headL x t.length ++ t) / 256 % 256, crcI (headL x t.length ++ t) / 1 % 256] ++ t := by
  unfold frameL
  rw [pdig4]
  conv => lhs; unfold headL
  rw [pdig2, pdig4]
  rfl

theorem frame_size (x : Int) (t : List Int) (h : t.length < 65536) : gnum (frameL x t) 0 2 = (t.length : Int) := by
  rw [frame_list]
  obtain ⟨n, hn⟩ : ∃ n, n = t.length := ⟨_, rfl⟩
  rw [← hn] at h ⊢
  simp [gnum]
  omega

theorem frame_num (x : Int) (t : List Int) (h0 : 0 ≤ x) (h : x < 4294967296) : gnum (frameL x t) 2 4 = x := by
  rw [frame_list]
  obtain ⟨C, hC⟩ : ∃ C, C = crcI (headL x t.length ++ t) := ⟨_, rfl⟩
  rw [← hC]
  simp [gnum]
  omega

/-- A record that stands at p is read. -/
theorem fr_rec (zs : List Int) (hz : Byt zs) (p : Nat) (x : Int) (t : List Int) (s : Nat) (hs : t.length = s) (hc : cutL zs p (10 + s) = frameL x t) (hp : p + 10 + s ≤ zs.length) (h1 : 1 ≤ s) (h2 : s ≤ 1000) (h3 : 1 ≤ x) (h4 : x ≤ 1000000000) :
    frAns zs (p : Int) = (x, strOfNums t, (p : Int) + 10 + (s : Int), 0) := by
  have g1 : gnum zs p 2 = (s : Int) := by
    have e := gnum_cutP zs p (10 + s) 0 2 (by omega)
    rw [hc, frame_size x t (by omega), hs] at e
    exact e.symm
  have g2 : gnum zs (p + 2) 4 = x := by
    have e := gnum_cutP zs p (10 + s) 2 4 (by omega)
    rw [hc, frame_num x t (by omega) (by omega)] at e
    exact e.symm
  have ht : cutL zs (p + 10) s = t := by
    have e := cutL_split zs p 10 s
    rw [hc] at e
    have e2 : frameL x t = (headL x t.length ++ pdig (crcI (headL x t.length ++ t)) 4 4) ++ t := rfl
    rw [e2] at e
    have hl : (headL x t.length ++ pdig (crcI (headL x t.length ++ t)) 4 4).length = (cutL zs p 10).length := by
      rw [cutL_len _ _ _ (by omega), List.length_append, headL_len, pdig_len]
    exact ((List.append_inj e hl).2).symm
  have h5 := (frame_at zs hz p s (by omega) g1).1 (by rw [g2, ht, hc])
  have eP : ((p : Int)).toNat = p := by omega
  have es : ((s : Int)).toNat = s := by omega
  unfold frAns
  rw [eP, g1, g2, es, if_neg (by omega), if_neg (by omega), if_neg (by omega), if_neg (by omega), if_neg (by omega), if_pos h5, ht]

/-- A record of which a part is missing is not read. -/
theorem fr_torn (zs : List Int) (p m : Nat) (x : Int) (t : List Int) (hl : zs.length = p + m) (hm : m < 10 + t.length) (hc : cutL zs p m = (frameL x t).take m) (ht : t.length ≤ 1000) : (frAns zs (p : Int)).2.2.2 ≠ 0 := by
  have eP : ((p : Int)).toNat = p := by omega
  unfold frAns
  rw [eP, if_neg (by omega)]
  by_cases h10 : m < 10
  · rw [if_pos (by omega)]; simp
  · rw [if_neg (by omega)]
    have g1 : gnum zs p 2 = (t.length : Int) := by
      have e := gnum_cutP zs p m 0 2 (by omega)
      rw [hc] at e
      have e2 : gnum ((frameL x t).take m) 0 2 = gnum (frameL x t) 0 2 := by
        have := gnum_cutP (frameL x t) 0 m 0 2 (by omega)
        simpa [cutL] using this
      rw [e2, frame_size x t (by omega)] at e
      exact e.symm
    rw [g1]
    split
    · simp
    · rw [if_pos (by omega)]; simp

end Go.Proofs.Ytelbkamgcnmokaa

/- ScU: What Scan finds of a log that is cut off anywhere (plain facts). -/
namespace Go.Proofs.Ytelbkamgcnmokaa
open Go.RowKit
set_option linter.unusedVariables false

theorem ents_from (d : List EntD) (h : entsB d = true) : ∀ i, i ≤ d.length → entsFrom (prevN d i) (d.drop i) = true
  | 0, _ => h
  | i + 1, hi => by
    have ih := ents_from d h i (by omega)
    have hx : d[i]? = some d[i] := List.getElem?_eq_getElem (by omega)
    rw [ents_step d i _ hx] at ih
    simp only [Bool.and_eq_true] at ih
    exact ih.2

theorem ents_link (d : List EntD) (h : entsB d = true) (i : Nat) (x : EntD) (hx : d[i]? = some x) : linkB (prevN d i) x.1 = true := by
  have hi : i < d.length := (List.getElem?_eq_some_iff.1 hx).1
  have ih := ents_from d h i (by omega)
  rw [ents_step d i _ hx] at ih
  simp only [Bool.and_eq_true] at ih
  exact ih.1.2

theorem lastNum_take (d : List EntD) (i : Nat) (hi : i ≤ d.length) : lastNum (d.take i) = prevN d i := by
  unfold lastNum prevN
  rw [List.length_take, Nat.min_eq_left hi]
  by_cases h : i = 0
  · rw [if_pos h, if_pos h]
  · rw [if_neg h, if_neg h, List.getElem?_take_of_lt (by omega)]

theorem log_split (d : List EntD) (i : Nat) (x : EntD) (hx : d[i]? = some x) : logL d = logTo d i ++ (recL x ++ (d.drop (i + 1)).flatMap recL) := by
  have hi : i < d.length := (List.getElem?_eq_some_iff.1 hx).1
  have e : d[i] = x := (List.getElem?_eq_some_iff.1 hx).2
  unfold logL logTo
  conv => lhs; rw [← List.take_append_drop i d, List.flatMap_append, List.drop_eq_getElem_cons hi, e]
  simp

theorem cut_whole (A R Q : List Int) (k : Nat) (h : A.length + R.length ≤ k) : cutL ((A ++ (R ++ Q)).take k) A.length R.length = R := by
  unfold cutL
  rw [List.drop_take, List.drop_left, List.take_take, Nat.min_eq_left (by omega), List.take_left]

theorem cut_part (A R Q : List Int) (m : Nat) (h : m ≤ R.length) : cutL ((A ++ (R ++ Q)).take (A.length + m)) A.length m = R.take m := by
  unfold cutL
  rw [List.drop_take, List.drop_left, List.take_take, Nat.add_sub_cancel_left, Nat.min_self, List.take_append_of_le_length h]

theorem byt_take (l : List Int) (h : Byt l) (k : Nat) : Byt (l.take k) := by
  rw [byt_iff] at *
  exact fun x hx => h x (List.mem_of_mem_take hx)

theorem not_on (zs : List Int) (acc : List EntD) (p : Nat) (h : (frAns zs (p : Int)).2.2.2 ≠ 0) : goesOn zs acc p = false := by
  unfold goesOn; simp [h]

theorem scan_from (d : List EntD) (hd : entsB d = true) (k : Nat) (hk : k ≤ (logL d).length) : ∀ (r i f : Nat), r + i = d.length → (logTo d i).length ≤ k → k + 1 ≤ f + (logTo d i).length →
    ∃ j, j ≤ d.length ∧ scanL ((logL d).take k) f (d.take i) (logTo d i).length = (d.take j, (logTo d j).length) ∧ (logTo d j).length ≤ k ∧ (j < d.length → k < (logTo d (j + 1)).length)
  | r, i, f, hr, hp, hf => by
    have hlen : ((logL d).take k).length = k := by rw [List.length_take]; omega
    have hz : Byt ((logL d).take k) := byt_take _ (byt_logL d) k
    by_cases hi : i < d.length
    · have hx : d[i]? = some d[i] := List.getElem?_eq_getElem hi
      obtain ⟨x, ex⟩ : ∃ x, d[i] = x := ⟨_, rfl⟩
      rw [ex] at hx
      have hok := (entB_iff _ _).1 (ents_at d hd i x hx)
      have hs := log_split d i x hx
      have hsu := logTo_succ d i x hx
      have hrl := recL_len x
      have hsl : (logTo d (i + 1)).length = (logTo d i).length + (10 + ByteArray.size x.2.1) := by rw [hsu, List.length_append, hrl]
      by_cases hin : (logTo d (i + 1)).length ≤ k
      · have hc : cutL ((logL d).take k) (logTo d i).length (10 + ByteArray.size x.2.1) = frameL x.1 (sB x.2.1) := by
          have := cut_whole (logTo d i) (recL x) ((d.drop (i + 1)).flatMap recL) k (by rw [hrl]; omega)
          rw [← hs, hrl] at this
          exact this
        have ha := fr_rec _ hz (logTo d i).length x.1 (sB x.2.1) (ByteArray.size x.2.1) (sB_len _) hc (by rw [hlen]; omega) hok.2.2.1 hok.2.2.2 hok.1 hok.2.1
        rw [str_sB] at ha
        have hg : goesOn ((logL d).take k) (d.take i) (logTo d i).length = true := by
          unfold goesOn
          rw [ha, lastNum_take d i (by omega)]
          simp [ents_link d hd i x hx]
        have hrec : recOf ((logL d).take k) (logTo d i).length = x := by unfold recOf; rw [ha]
        have hnx : ((frAns ((logL d).take k) ((logTo d i).length : Int)).2.2.1).toNat = (logTo d (i + 1)).length := by rw [ha]; show ((((logTo d i).length : Int) + 10 + (ByteArray.size x.2.1 : Int))).toNat = _; omega
        have htk : d.take i ++ [x] = d.take (i + 1) := by rw [List.take_succ_eq_append_getElem hi, ex]
        rw [scanL_on _ f _ _ hg (by omega), hrec, hnx, htk]
        match r, hr with
        | 0, hr => omega
        | r + 1, hr => exact scan_from d hd k hk r (i + 1) (f - 1) (by omega) hin (by omega)
      · have hc : cutL ((logL d).take k) (logTo d i).length (k - (logTo d i).length) = (frameL x.1 (sB x.2.1)).take (k - (logTo d i).length) := by
          have := cut_part (logTo d i) (recL x) ((d.drop (i + 1)).flatMap recL) (k - (logTo d i).length) (by rw [hrl]; omega)
          rw [← hs, show (logTo d i).length + (k - (logTo d i).length) = k by omega] at this
          exact this
        have ht := fr_torn ((logL d).take k) (logTo d i).length (k - (logTo d i).length) x.1 (sB x.2.1) (by rw [hlen]; omega) (by rw [sB_len]; omega) hc (by rw [sB_len]; exact hok.2.2.2)
        exact ⟨i, by omega, scanL_end _ f _ _ (not_on _ _ _ ht), hp, fun _ => by omega⟩
    · have hi' : i = d.length := by omega
      have ha : logTo d i = logL d := logTo_all d i (by omega)
      have hpe : (logTo d i).length = (logL d).length := by rw [ha]
      have ht : (frAns ((logL d).take k) ((logTo d i).length : Int)).2.2.2 ≠ 0 := by
        unfold frAns
        rw [hlen, if_neg (by omega), if_pos (by omega)]
        simp
      exact ⟨i, by omega, scanL_end _ f _ _ (not_on _ _ _ ht), hp, fun h => by omega⟩

/-- Of a log that is cut off behind k bytes just the records are found that are all there. -/
theorem scan_cut (d : List EntD) (hd : entsB d = true) (k : Nat) (hk : k ≤ (logL d).length) :
    ∃ j, j ≤ d.length ∧ scanA ((logL d).take k) = (d.take j, (logTo d j).length) ∧ (logTo d j).length ≤ k ∧ (j < d.length → k < (logTo d (j + 1)).length) := by
  have hlen : ((logL d).take k).length = k := by rw [List.length_take]; omega
  have h := scan_from d hd k hk d.length 0 (k + 1) (by omega) (by rw [logTo_zero]; exact Nat.zero_le _) (by omega)
  obtain ⟨j, h1, h2, h3, h4⟩ := h
  refine ⟨j, h1, ?_, h3, h4⟩
  unfold scanA
  rw [hlen, ← h2, logTo_zero]
  rfl

/-- What was written is found again. -/
theorem scan_log (d : List EntD) (hd : entsB d = true) : scanA (logL d) = (d, (logL d).length) := by
  obtain ⟨j, h1, h2, h3, h4⟩ := scan_cut d hd (logL d).length (Nat.le_refl _)
  rw [List.take_length] at h2
  have hj : j = d.length := by
    rcases Nat.lt_or_ge j d.length with h | h
    · have h5 := h4 h
      have h6 := logTo_le d (j + 1)
      omega
    · omega
  rw [h2, hj, List.take_length, logTo_all d d.length (Nat.le_refl _)]

end Go.Proofs.Ytelbkamgcnmokaa

/- Draw: The cursor over the bytes of a draw: l01Byte gives a byte and leaves a cursor; l01Below a number below n; l01New makes a cursor. -/
namespace Go.Proofs.Ytelbkamgcnmokaa
open Go.RowKit
set_option linter.unusedVariables false

theorem i64_and255 (n : Int) : bits .and .i64 n 255 = n % 256 := by
  show IntKind.i64.wrap ((BitVec.ofInt 64 n &&& BitVec.ofInt 64 255).toNat : Int) = n % 256
  have h2 : (BitVec.ofInt 64 (255 : Int)).toNat = 255 := by decide
  rw [BitVec.toNat_and, h2, Nat.and_two_pow_sub_one_eq_mod _ 8, BitVec.toNat_ofInt]
  simp [IntKind.wrap, IntKind.bits, IntKind.signed]
  omega

/-- Block B is a cursor over the n bytes zs that lie at a, below block 'base'. -/
structure Cur (w : World) (base B : Nat) (a : Option Addr) (n cap : Nat) (zs : List Int) : Prop where
  c0 : w.cell? ⟨B, 0, none⟩ = some (.slice a n cap)
  c1 : ∃ i : Nat, i ≤ n ∧ w.cell? ⟨B, 1, none⟩ = some (.int .i64 i)
  c2 : ∃ h : Int, w.cell? ⟨B, 2, none⟩ = some (.int .i64 h)
  f1 : w.frozen? ⟨B, 1, none⟩ = false
  f2 : w.frozen? ⟨B, 2, none⟩ = false
  rd : Rd w a zs
  far : ∀ x : Addr, a = some x → zs ≠ [] → x.block < base
  bB : base ≤ B

theorem Cur.lt {w : World} {base B : Nat} {a : Option Addr} {n cap : Nat} {zs : List Int} (c : Cur w base B a n cap zs) : B < w.heap.size := World.block_lt_of_cell? w ⟨B, 0, none⟩ c.c0

theorem cur_drewN {w : World} {base B : Nat} {a : Option Addr} {n cap : Nat} {zs : List Int} (c : Cur w base B a n cap zs) (q : Nat) : Cur (w.drewN q) base B a n cap zs :=
  ⟨c.c0, c.c1, c.c2, c.f1, c.f2, c.rd, c.far, c.bB⟩

theorem grown_drewN {w w' : World} {row : Option Nat} (h : w.grownBy w' row) (q : Nat) : w.grownBy (w'.drewN q) row := ⟨h.os, h.tape, h.output, h.size, h.block⟩

theorem cur_rd {w w' : World} {base B : Nat} {a : Option Addr} {n cap : Nat} {zs : List Int} {row : Option Nat} (c : Cur w base B a n cap zs) (hg : w.grownBy w' row) (hr : ∀ k, row = some k → base ≤ k) : Rd w' a zs := by
  by_cases hz : zs = []
  · exact ⟨c.rd.1, .inl hz⟩
  · exact rd_kept c.rd hg (fun y hy e => by have h1 := c.far y hy hz; have h2 := hr y.block e.symm; omega)

theorem cur_kept {w w' : World} {base B : Nat} {a : Option Addr} {n cap : Nat} {zs : List Int} {row : Option Nat} (c : Cur w base B a n cap zs) (hg : w.grownBy w' row) (hne : row ≠ some B) (hr : ∀ k, row = some k → base ≤ k) : Cur w' base B a n cap zs := by
  obtain ⟨i, hi, c1⟩ := c.c1
  obtain ⟨h, c2⟩ := c.c2
  have hb := hg.block B c.lt (fun e => hne e.symm)
  exact ⟨hg.cell c.c0 (fun e => hne e.symm), ⟨i, hi, hg.cell c1 (fun e => hne e.symm)⟩, ⟨h, hg.cell c2 (fun e => hne e.symm)⟩,
    by rw [World.frozen?_of_block (w := w) (a := ⟨B, 1, none⟩) hb]; exact c.f1, by rw [World.frozen?_of_block (w := w) (a := ⟨B, 2, none⟩) hb]; exact c.f2, cur_rd c hg hr, c.far, c.bB⟩

theorem cur_set {w : World} {base B : Nat} {a : Option Addr} {n cap : Nat} {zs : List Int} (c : Cur w base B a n cap zs) (x : Int) (j : Nat)
    (hj : (j = 2) ∨ (j = 1 ∧ ∃ i : Nat, i ≤ n ∧ x = i)) :
    Cur (w.setCell ⟨B, j, none⟩ (.int .i64 x)) base B a n cap zs ∧ w.grownBy (w.setCell ⟨B, j, none⟩ (.int .i64 x)) (some B) := by
  have hg : w.grownBy (w.setCell ⟨B, j, none⟩ (.int .i64 x)) (some B) := ⟨rfl, rfl, rfl, by simp, fun k _ hk => heap_setCell_other w ⟨B, j, none⟩ k _ (fun e => hk (by simp [e]))⟩
  refine ⟨?_, hg⟩
  obtain ⟨i, hi, c1⟩ := c.c1
  obtain ⟨h, c2⟩ := c.c2
  have hrd : Rd (w.setCell ⟨B, j, none⟩ (.int .i64 x)) a zs := cur_rd c hg (fun k e => by cases e; exact c.bB)
  rcases hj with rfl | ⟨rfl, i', hi', rfl⟩
  · exact ⟨by rw [World.cell?_setCell_other _ _ _ _ (by simp)]; exact c.c0, ⟨i, hi, by rw [World.cell?_setCell_other _ _ _ _ (by simp)]; exact c1⟩, ⟨x, World.cell?_setCell_same w _ _ c2⟩, by simpa using c.f1, by simpa using c.f2, hrd, c.far, c.bB⟩
  · exact ⟨by rw [World.cell?_setCell_other _ _ _ _ (by simp)]; exact c.c0, ⟨i', hi', World.cell?_setCell_same w _ _ c1⟩, ⟨h, by rw [World.cell?_setCell_other _ _ _ _ (by simp)]; exact c2⟩, by simpa using c.f1, by simpa using c.f2, hrd, c.far, c.bB⟩

set_option maxRecDepth 100000 in
set_option maxHeartbeats 1000000 in
theorem byte_any (base B : Nat) (a : Option Addr) (n cap : Nat) (zs : List Int) (w : World) (hl : Hid (zs.length = n)) (hn : n ≤ 1048576) (hc : Cur w base B a n cap zs) :
    Calls Try.prog 29 #[.pointer (some ⟨B, 0, none⟩)] w fun e w' => ∃ x : Int, e = .returned (.int .i64 x) ∧ 0 ≤ x ∧ x ≤ 255 ∧ Cur w' base B a n cap zs ∧ w.grownBy w' (some B) := by
  obtain ⟨h, c2⟩ := hc.c2
  have f2 := hc.f2
  obtain ⟨cs, hg⟩ := cur_set hc (wrap64 (wrap64 (h * 6364136223846793005) + 1442695040888963407)) 2 (.inl rfl)
  have HC : Hid (Cur (w.setCell ⟨B, 2, none⟩ (.int .i64 (wrap64 (wrap64 (h * 6364136223846793005) + 1442695040888963407)))) base B a n cap zs) := cs
  have HG : Hid (w.grownBy (w.setCell ⟨B, 2, none⟩ (.int .i64 (wrap64 (wrap64 (h * 6364136223846793005) + 1442695040888963407)))) (some B)) := hg
  clear cs hg hc
  go_enter Try.func29, Try.ntmps29
  go_wp2
  obtain ⟨w2, hw2⟩ : ∃ w2, w2 = w.setCell ⟨B, 2, none⟩ (.int .i64 (wrap64 (wrap64 (h * 6364136223846793005) + 1442695040888963407))) := ⟨_, rfl⟩
  rw [← hw2] at HC HG ⊢
  clear hw2 c2 f2
  obtain ⟨h2, c2⟩ := HC.out.c2
  obtain ⟨i, hi, c1⟩ := HC.out.c1
  have c0 := HC.out.c0
  have h255 := i64_and255
  go_quiet (fail)
  go_wp2
  by_cases hlt : i < n
  · have hlt' : (i : Int) < (n : Int) := by omega
    have hne : zs ≠ [] := by intro e; have := hl.out; subst e; simp at this; omega
    obtain ⟨b, off, rfl, hb, hcl⟩ := HC.out.rd.2.resolve_left hne
    have cz : w2.cell? ⟨b, off + i, none⟩ = some (.int .u8 (zs[i]?.getD 0)) := hcl i (by have := hl.out; omega)
    have hz := HC.out.rd.1 i
    have f1 := HC.out.f1
    clear hcl hne
    go_quiet (fail)
    go_wp2
    go_quiet (fail)
    go_wp2
    go_ret
    exact ⟨_, rfl, by omega, by omega, (cur_set (cur_drewN HC.out _) ((i : Int) + 1) 1 (.inr ⟨rfl, i + 1, by omega, by omega⟩)).1,
      grownBy_trans (grown_drewN HG.out _) (cur_set (cur_drewN HC.out _) ((i : Int) + 1) 1 (.inr ⟨rfl, i + 1, by omega, by omega⟩)).2⟩
  · have hlt' : ¬ (i : Int) < (n : Int) := by omega
    go_quiet (fail)
    go_wp2
    go_ret
    exact ⟨_, rfl, by omega, by omega, cur_drewN HC.out _, grown_drewN HG.out _⟩

set_option maxHeartbeats 400000 in
theorem below_any (base B : Nat) (a : Option Addr) (n cap : Nat) (zs : List Int) (m : Int) (w : World) (hl : Hid (zs.length = n)) (hn : n ≤ 1048576) (hc : Cur w base B a n cap zs) (hm1 : 1 ≤ m) (hm2 : m ≤ 256) :
    Calls Try.prog 19 #[.pointer (some ⟨B, 0, none⟩), .int .i64 m] w fun e w' => ∃ x : Int, e = .returned (.int .i64 x) ∧ 0 ≤ x ∧ x < m ∧ Cur w' base B a n cap zs ∧ w.grownBy w' (some B) := by
  have h0 : ¬ (m ≤ 0) := by omega
  have HC : Hid (Cur w base B a n cap zs) := hc
  clear hc
  go_enter Try.func19, Try.ntmps19
  go_wp2_with fail
  refine (byte_any base B a n cap zs _ hl hn HC.out).mono ?_
  rintro e w1 ⟨x, rfl, hx0, hx1, hc1, hg1⟩
  have hm0 : m ≠ 0 := by omega
  have hr0 : 0 ≤ x % m := Int.emod_nonneg x hm0
  have hr1 : x % m < m := Int.emod_lt_of_pos x (by omega)
  go_wp2
  go_ret
  exact ⟨_, rfl, hr0, hr1, hc1, hg1⟩

set_option maxHeartbeats 1000000 in
theorem new_any (a : Option Addr) (n cap : Nat) (zs : List Int) (w : World) (hl : Hid (zs.length = n)) (hn : n ≤ 1048576) (hr : Rd w a zs) :
    Calls Try.prog 14 #[.slice a n cap] w fun e w' => e = .returned (.pointer (some ⟨w.heap.size, 0, none⟩)) ∧ Cur w' w.heap.size w.heap.size a n cap zs ∧ Below w.heap.size w w' := by
  go_enter Try.func14, Try.ntmps14
  go_wp2
  go_loop [3, 4] (fun h i => ∃ (H : Int) (k : Nat), k ≤ n ∧ k ≤ 4000 ∧ h = .int .i64 H ∧ i = .int .i64 k) (fun _ i => 4000 - (intOf i).toNat)
  case atStart => exact ⟨_, 0, Nat.zero_le _, Nat.zero_le _, rfl, rfl⟩
  case round =>
    obtain ⟨H, k, hk, hk4, rfl, rfl⟩ := hrel
    by_cases hlt : k < n
    · have hlt' : (k : Int) < (n : Int) := by omega
      by_cases h4 : k < 4000
      · have h4' : (k : Int) < 4000 := by omega
        have hne : zs ≠ [] := by intro e; have := hl.out; subst e; simp at this; omega
        obtain ⟨b, off, rfl, hb, hcl⟩ := hr.2.resolve_left hne
        have cz : w.cell? ⟨b, off + k, none⟩ = some (.int .u8 (zs[k]?.getD 0)) := hcl k (by have := hl.out; omega)
        have hz := hr.1 k
        clear hcl hne hr
        go_wp2
        go_round
        case rel => exact ⟨_, k + 1, by omega, by omega, rfl, by go_num⟩
        case measure => simp [intOf]; omega
      · have h4' : ¬ (k : Int) < 4000 := by omega
        go_wp2
        go_ret
        refine ⟨rfl, ⟨by simp, ⟨0, Nat.zero_le _, by simp⟩, ⟨H, by simp⟩, by simp, by simp, hr.later ((Below.refl _ _).alloc (Nat.le_refl _) _), ?_, Nat.le_refl _⟩, (Below.refl _ _).alloc (Nat.le_refl _) _⟩
        intro x hx hz
        obtain ⟨b, off, e, hb, _⟩ := hr.2.resolve_left hz
        rw [e] at hx; cases hx; exact hb
    · have hlt' : ¬ (k : Int) < (n : Int) := by omega
      go_wp2
      go_ret
      refine ⟨rfl, ⟨by simp, ⟨0, Nat.zero_le _, by simp⟩, ⟨H, by simp⟩, by simp, by simp, hr.later ((Below.refl _ _).alloc (Nat.le_refl _) _), ?_, Nat.le_refl _⟩, (Below.refl _ _).alloc (Nat.le_refl _) _⟩
      intro x hx hz
      obtain ⟨b, off, e, hb, _⟩ := hr.2.resolve_left hz
      rw [e] at hx; cases hx; exact hb

end Go.Proofs.Ytelbkamgcnmokaa

/- DrawE: The draws of entries: l05Text, l05Entries, MakeEntries. By program (drawegen.py). -/
namespace Go.Proofs.Ytelbkamgcnmokaa
open Go.RowKit
set_option linter.unusedVariables false
set_option linter.unusedSimpArgs false

set_option maxRecDepth 100000 in
set_option maxHeartbeats 2000000 in
theorem text_any (base B : Nat) (a : Option Addr) (n cap : Nat) (zs : List Int) (w : World) (hl : Hid (zs.length = n)) (hn : n ≤ 1048576) (hc : Cur w base B a n cap zs) :
    Calls Try.prog 24 #[.pointer (some ⟨B, 0, none⟩)] w fun e w' => ∃ s : ByteArray, e = .returned (.string s) ∧ 1 ≤ s.size ∧ s.size ≤ 20 ∧ Cur w' base B a n cap zs ∧ w.grownBy w' (some B) := by
  have hBw := hc.lt
  obtain ⟨W0, hW0⟩ : ∃ W0, W0 = w.alloc (.cells #[.string ⟨#[108, 115]⟩, .string ⟨#[101, 99, 104, 111, 32, 97]⟩, .string ⟨#[99, 97, 116, 32, 98]⟩, .string ⟨#[97, 32, 124, 32, 98]⟩, .string ⟨#[120, 61, 49]⟩, .string ⟨#[105, 102, 32, 97, 59, 32, 116, 104, 101, 110, 32, 98, 59, 32, 102, 105]⟩, .string ⟨#[101, 99, 104, 111, 32, 39, 97, 10, 98, 39]⟩, .string ⟨#[109, 97, 107, 101]⟩, .string ⟨#[108, 115, 32, 45, 108]⟩, .string ⟨#[101, 99, 104, 111, 32, 195, 169]⟩, .string ⟨#[103, 105, 116, 32, 108, 111, 103]⟩, .string ⟨#[119]⟩] 9) := ⟨_, rfl⟩
  have hbox : W0.heap[w.heap.size]? = some (.cells #[.string ⟨#[108, 115]⟩, .string ⟨#[101, 99, 104, 111, 32, 97]⟩, .string ⟨#[99, 97, 116, 32, 98]⟩, .string ⟨#[97, 32, 124, 32, 98]⟩, .string ⟨#[120, 61, 49]⟩, .string ⟨#[105, 102, 32, 97, 59, 32, 116, 104, 101, 110, 32, 98, 59, 32, 102, 105]⟩, .string ⟨#[101, 99, 104, 111, 32, 39, 97, 10, 98, 39]⟩, .string ⟨#[109, 97, 107, 101]⟩, .string ⟨#[108, 115, 32, 45, 108]⟩, .string ⟨#[101, 99, 104, 111, 32, 195, 169]⟩, .string ⟨#[103, 105, 116, 32, 108, 111, 103]⟩, .string ⟨#[119]⟩] 9 (0, 0)) := by rw [hW0]; exact heap_alloc_new w _
  have hc0 : Cur W0 base B a n cap zs := by rw [hW0]; exact cur_kept hc (World.grownBy_alloc w _ none) (by simp) (fun k h => by cases h)
  have hg0 : w.grownBy W0 (some B) := by rw [hW0]; exact World.grownBy_alloc w _ (some B)
  have zlt : w.heap.size < W0.heap.size := by rw [hW0]; simp
  have HW0 : Hid (W0 = w.alloc (.cells #[.string ⟨#[108, 115]⟩, .string ⟨#[101, 99, 104, 111, 32, 97]⟩, .string ⟨#[99, 97, 116, 32, 98]⟩, .string ⟨#[97, 32, 124, 32, 98]⟩, .string ⟨#[120, 61, 49]⟩, .string ⟨#[105, 102, 32, 97, 59, 32, 116, 104, 101, 110, 32, 98, 59, 32, 102, 105]⟩, .string ⟨#[101, 99, 104, 111, 32, 39, 97, 10, 98, 39]⟩, .string ⟨#[109, 97, 107, 101]⟩, .string ⟨#[108, 115, 32, 45, 108]⟩, .string ⟨#[101, 99, 104, 111, 32, 195, 169]⟩, .string ⟨#[103, 105, 116, 32, 108, 111, 103]⟩, .string ⟨#[119]⟩] 9)) := hW0
  have HC : Hid (Cur W0 base B a n cap zs) := hc0
  clear hW0 hc hc0
  go_enter Try.func24, Try.ntmps24
  go_wp2_with fail
  rw [← HW0.out]
  refine (below_any base B a n cap zs 12 _ hl hn HC.out (by omega) (by omega)).mono ?_
  rintro e w1 ⟨x, rfl, hx0, hx1, hc1, hg1⟩
  obtain ⟨m, rfl⟩ := Int.eq_ofNat_of_zero_le hx0
  have hb1 := (hg1.block _ zlt (fun e => by simp at e; omega)).trans hbox
  have hgg : w.grownBy w1 (some B) := hg0.trans hg1
  have zl1 : w.heap.size < w1.heap.size := Nat.lt_of_lt_of_le zlt hg1.size
  clear hg1 hg0 hbox HC HW0 zlt
  have hm : m = 0 ∨ m = 1 ∨ m = 2 ∨ m = 3 ∨ m = 4 ∨ m = 5 ∨ m = 6 ∨ m = 7 ∨ m = 8 ∨ m = 9 ∨ m = 10 ∨ m = 11 := by omega
  rcases hm with rfl | rfl | rfl | rfl | rfl | rfl | rfl | rfl | rfl | rfl | rfl | rfl
  · have y : w1.cell? ⟨w.heap.size, 0, none⟩ = some (.string ⟨#[108, 115]⟩) := box_cell hb1 rfl
    clear hb1
    go_wp2
    go_ret
    exact ⟨_, rfl, by decide, by decide, hc1, hgg⟩
  · have y : w1.cell? ⟨w.heap.size, 1, none⟩ = some (.string ⟨#[101, 99, 104, 111, 32, 97]⟩) := box_cell hb1 rfl
    clear hb1
    go_wp2
    go_ret
    exact ⟨_, rfl, by decide, by decide, hc1, hgg⟩
  · have y : w1.cell? ⟨w.heap.size, 2, none⟩ = some (.string ⟨#[99, 97, 116, 32, 98]⟩) := box_cell hb1 rfl
    clear hb1
    go_wp2
    go_ret
    exact ⟨_, rfl, by decide, by decide, hc1, hgg⟩
  · have y : w1.cell? ⟨w.heap.size, 3, none⟩ = some (.string ⟨#[97, 32, 124, 32, 98]⟩) := box_cell hb1 rfl
    clear hb1
    go_wp2
    go_ret
    exact ⟨_, rfl, by decide, by decide, hc1, hgg⟩
  · have y : w1.cell? ⟨w.heap.size, 4, none⟩ = some (.string ⟨#[120, 61, 49]⟩) := box_cell hb1 rfl
    clear hb1
    go_wp2
    go_ret
    exact ⟨_, rfl, by decide, by decide, hc1, hgg⟩
  · have y : w1.cell? ⟨w.heap.size, 5, none⟩ = some (.string ⟨#[105, 102, 32, 97, 59, 32, 116, 104, 101, 110, 32, 98, 59, 32, 102, 105]⟩) := box_cell hb1 rfl
    clear hb1
    go_wp2
    go_ret
    exact ⟨_, rfl, by decide, by decide, hc1, hgg⟩
  · have y : w1.cell? ⟨w.heap.size, 6, none⟩ = some (.string ⟨#[101, 99, 104, 111, 32, 39, 97, 10, 98, 39]⟩) := box_cell hb1 rfl
    clear hb1
    go_wp2
    go_ret
    exact ⟨_, rfl, by decide, by decide, hc1, hgg⟩
  · have y : w1.cell? ⟨w.heap.size, 7, none⟩ = some (.string ⟨#[109, 97, 107, 101]⟩) := box_cell hb1 rfl
    clear hb1
    go_wp2
    go_ret
    exact ⟨_, rfl, by decide, by decide, hc1, hgg⟩
  · have y : w1.cell? ⟨w.heap.size, 8, none⟩ = some (.string ⟨#[108, 115, 32, 45, 108]⟩) := box_cell hb1 rfl
    clear hb1
    go_wp2
    go_ret
    exact ⟨_, rfl, by decide, by decide, hc1, hgg⟩
  · have y : w1.cell? ⟨w.heap.size, 9, none⟩ = some (.string ⟨#[101, 99, 104, 111, 32, 195, 169]⟩) := box_cell hb1 rfl
    clear hb1
    go_wp2
    go_ret
    exact ⟨_, rfl, by decide, by decide, hc1, hgg⟩
  · have y : w1.cell? ⟨w.heap.size, 10, none⟩ = some (.string ⟨#[103, 105, 116, 32, 108, 111, 103]⟩) := box_cell hb1 rfl
    clear hb1
    go_wp2
    go_ret
    exact ⟨_, rfl, by decide, by decide, hc1, hgg⟩
  · have y : w1.cell? ⟨w.heap.size, 11, none⟩ = some (.string ⟨#[119]⟩) := box_cell hb1 rfl
    clear hb1
    go_wp2
    go_ret
    exact ⟨_, rfl, by decide, by decide, hc1, hgg⟩

/-- The number of the last, p where there is none. -/
def lst : Option Int → List EntD → Option Int
  | p, [] => p
  | _, y :: l => lst (some y.1) l

theorem ents_snoc : ∀ (l : List EntD) (p : Option Int) (x : EntD), entsFrom p (l ++ [x]) = (entsFrom p l && (entB x.1 (ByteArray.size x.2.1) && linkB (lst p l) x.1))
  | [], p, x => by simp [entsFrom, lst]
  | y :: l, p, x => by
    have ih := ents_snoc l (some y.1) x
    show (entB y.1 (ByteArray.size y.2.1) && linkB p y.1 && entsFrom (some y.1) (l ++ [x])) = _
    rw [ih]
    show _ = (entB y.1 (ByteArray.size y.2.1) && linkB p y.1 && entsFrom (some y.1) l && (_ && linkB (lst (some y.1) l) x.1))
    simp only [Bool.and_assoc]

theorem lst_snoc : ∀ (l : List EntD) (p : Option Int) (x : EntD), lst p (l ++ [x]) = some x.1
  | [], _, _ => rfl
  | y :: l, p, x => lst_snoc l (some y.1) x

def Drawn (acc : List EntD) (k : Nat) (N : Int) : Prop := acc.length = k ∧ entsB acc = true ∧ (lst none acc = none ∨ lst none acc = some (N - 1)) ∧ ∀ x ∈ acc, ByteArray.size x.2.1 ≤ 20

theorem drawn_snoc (acc : List EntD) (k : Nat) (N : Int) (s : ByteArray) (h : Drawn acc k N) (h1 : 1 ≤ s.size) (h2 : s.size ≤ 20) (h3 : 1 ≤ N) (h4 : N ≤ 1000) : Drawn (acc ++ [(N, s, ())]) (k + 1) (N + 1) := by
  refine ⟨by rw [List.length_append, h.1]; rfl, ?_, ?_, ?_⟩
  · unfold entsB
    rw [ents_snoc]
    have e1 : entsFrom none acc = true := h.2.1
    have e2 : entB N s.size = true := (entB_iff _ _).2 ⟨h3, by omega, h1, by omega⟩
    have e3 : linkB (lst none acc) N = true := by
      rcases h.2.2.1 with e | e
      · rw [e]; rfl
      · rw [e]; simp [linkB]
    show (entsFrom none acc && (entB N s.size && linkB (lst none acc) N)) = true
    rw [e1, e2, e3]; rfl
  · right; rw [lst_snoc]; show some N = some (N + 1 - 1); congr 1; omega
  · intro x hx
    rcases List.mem_append.1 hx with hx | hx
    · exact h.2.2.2 x hx
    · simp at hx; subst hx; exact h2

set_option maxRecDepth 100000 in
set_option maxHeartbeats 2000000 in
theorem entries_any (base B : Nat) (a : Option Addr) (n cap : Nat) (zs : List Int) (most : Nat) (w : World) (hl : Hid (zs.length = n)) (hn : n ≤ 1048576) (hc : Cur w base B a n cap zs) (hm : most ≤ 200) :
    Calls Try.prog 15 #[.pointer (some ⟨B, 0, none⟩), .int .i64 most] w fun e w' => ∃ (acc : List EntD) (m g cp : Nat), m ≤ most ∧ acc.length = m ∧ entsB acc = true ∧ (∀ x ∈ acc, ByteArray.size x.2.1 ≤ 20) ∧ e = .returned (.slice (some ⟨g, 0, none⟩) m cp) ∧
      w'.ownsRow (B + 1) 28 2 (.slice (some ⟨g, 0, none⟩) m cp) m (cellsE acc) ∧ Below base w w' ∧ Cur w' base B a n cap zs := by
  obtain ⟨i0, hi, hz0, hz1, hz2⟩ := info_parts infoEntry
  have hBw := hc.lt
  have hbB := hc.bB
  have hown0 := World.ownsRow_lit (base := B + 1) (e := 28) (size := 2) w #[] 0 (by omega) (Nat.zero_le _) rfl
  have hc0 : Cur (w.alloc (.cells #[] 28)) base B a n cap zs := cur_kept hc (World.grownBy_alloc w _ none) (by simp) (fun k h => by cases h)
  have hb0 : Below base w (w.alloc (.cells #[] 28)) := (Below.refl _ _).alloc (by omega) _
  have HC0 : Hid (Cur (w.alloc (.cells #[] 28)) base B a n cap zs) := hc0
  have HO0 : Hid ((w.alloc (.cells #[] 28)).ownsRow (B + 1) 28 2 (.slice (some ⟨w.heap.size, 0, none⟩) 0 0) 0 []) := hown0
  clear hc hc0 hown0
  go_enter Try.func15, Try.ntmps15
  go_wp2_with fail
  refine (below_any base B a n cap zs 9 _ hl hn HC0.out (by omega) (by omega)).mono ?_
  rintro e w1 ⟨x, rfl, hx0, hx1, hc1, hg1⟩
  have HC1 : Hid (Cur w1 base B a n cap zs) := hc1
  have ho1 := HO0.out.kept hg1 (.inr (by simp [Value.ownBlock]; omega))
  have HO1 : Hid (w1.ownsRow (B + 1) 28 2 (.slice (some ⟨w.heap.size, 0, none⟩) 0 0) 0 []) := ho1
  have hs0 : base ≤ (w.alloc (.cells #[] 28)).heap.size := by simp; omega
  have hb1 : Below base w w1 := hb0.grown hg1 hs0 (fun k h => by cases h; exact hbB)
  clear hc1 hg1 ho1 HC0 HO0 hb0
  go_wp2_with fail
  refine (below_any base B a n cap zs _ _ hl hn HC1.out (by omega) (by omega)).mono ?_
  rintro e w2 ⟨y, rfl, hy0, hy1, hc2, hg2⟩
  obtain ⟨m, rfl⟩ := Int.eq_ofNat_of_zero_le hy0
  have hmm : m ≤ most := by omega
  have ho2 := HO1.out.kept hg2 (.inr (by simp [Value.ownBlock]; omega))
  have hB1 := HC1.out.lt
  have hb2 : Below base w w2 := hb1.grown hg2 (by omega) (fun k h => by cases h; exact hbB)
  have H2 : Hid (w2.ownsRow (B + 1) 28 2 (.slice (some ⟨w.heap.size, 0, none⟩) 0 0) 0 [] ∧ Cur w2 base B a n cap zs ∧ Below base w w2) := ⟨ho2, hc2, hb2⟩
  clear hc2 hg2 ho2 HC1 HO1 hb1 hb2
  go_wp2
  go_loopw [5, 6, 7] (fun v N i wr => ∃ (k l g cp : Nat) (acc : List EntD) (NN : Int), l + k = m ∧ v = .slice (some ⟨g, 0, none⟩) k cp ∧ N = .int .i64 NN ∧ i = .int .i64 l ∧ 1 ≤ NN ∧ NN ≤ 10 + k ∧ Hid (Drawn acc k NN) ∧ wr.ownsRow (B + 1) 28 2 (.slice (some ⟨g, 0, none⟩) k cp) k (cellsE acc) ∧ Below base w wr ∧ Cur wr base B a n cap zs)
    (fun _ _ i _ => (intOf i).toNat)
  case atStart => exact ⟨0, m, _, 0, [], _, rfl, rfl, rfl, rfl, by omega, by omega, ⟨rfl, rfl, .inl rfl, fun x hx => by cases hx⟩, H2.out.1, H2.out.2.2, H2.out.2.1⟩
  case round =>
    obtain ⟨k, l, g, cp, acc, NN, hk, rfl, rfl, rfl, hN1, hN2, HD, hown, hbel, hcr⟩ := hrel
    by_cases hlt : 0 < l
    · have hlt' : (0 : Int) < (l : Int) := by omega
      go_wp2_with fail
      refine (text_any base B a n cap zs _ hl hn hcr).mono ?_
      rintro e w3 ⟨s, rfl, hs1, hs2, hc3, hg3⟩
      have hgl := hown.lt g rfl
      have hown3 := hown.kept hg3 (.inr (by simp [Value.ownBlock]; omega))
      have hB3 := hc3.lt
      have hbs := hbel.size
      have hgs := hg3.size
      have hbel3 : Below base w w3 := hbel.grown hg3 (by omega) (fun y h => by cases h; exact hbB)
      have HC3 : Hid (Cur w3 base B a n cap zs) := hc3
      have HDn : Hid (Drawn (acc ++ [(NN, s, ())]) (k + 1) (NN + 1)) := drawn_snoc acc k NN s HD.out hs1 hs2 hN1 (by omega)
      have HCE : Hid (cellsE (acc ++ [(NN, s, ())]) = cellsE acc ++ [.int .i64 NN, .string s]) := cellsE_snoc _ _
      clear hown hg3 hcr hc3
      go_wp2_with (at_builtin; refine wpList_append_lies _ rfl _ _ 23 rfl (B + 1) 28 i0 (.agg #[.int .i64 0, .string ByteArray.empty]) 2 24 Try.underlying23 hi hz0 hz1 hz2 rfl (by decide) _ k _ rfl (hown3.alloc _) ⟨w3.heap.size, 0, none⟩ 1 _ [.int .i64 NN, .string s] rfl rfl (cells_new w3 [.int .i64 NN, .string s] 28) ?c2 (by omega) ?c3 ?c4 ?c5 _ rfl ?_)
      case c2 => intro u hu; simp at hu; rcases hu with rfl | rfl <;> rfl
      case c3 => unfold maxLen; omega
      case c4 => omega
      case c5 => simp; omega
      intro gg cap1 w4 hown4 hgrow4 hat _
      have hbel4 : Below base w w4 := (hbel3.alloc (by omega) _).grown hgrow4 (by simp; omega) (fun y h => by cases h; show base ≤ g; omega)
      have hc4 : Cur w4 base B a n cap zs := cur_kept (cur_kept HC3.out (World.grownBy_alloc w3 _ none) (by simp) (fun k h => by cases h)) hgrow4 (by simp [Value.ownBlock]; omega) (fun y h => by cases h; show base ≤ g; omega)
      rw [← HCE.out] at hown4
      clear hgrow4 hown3
      go_wp2
      go_roundw
      case rel => exact ⟨k + 1, l - 1, gg, cap1, _, NN + 1, by omega, rfl, by go_num, by go_num, by omega, by omega, HDn, hown4, hbel4, hc4⟩
      case measure => simp [intOf]; omega
    · have e : l = 0 := by omega
      subst e
      obtain rfl : k = m := by omega
      go_wp2
      go_ret
      exact ⟨acc, k, g, cp, hmm, HD.out.1, HD.out.2.1, HD.out.2.2.2, rfl, hown, hbel, hcr⟩

set_option maxHeartbeats 400000 in
theorem makeEntries_any (a : Option Addr) (n cap : Nat) (zs : List Int) (w : World) (hl : Hid (zs.length = n)) (hn : n ≤ 1048576) (hr : Rd w a zs) :
    Calls Try.prog 5 #[.slice a n cap] w fun e w' => ∃ (acc : List EntD) (m g cp : Nat), m ≤ 6 ∧ acc.length = m ∧ entsB acc = true ∧ (∀ x ∈ acc, ByteArray.size x.2.1 ≤ 20) ∧ e = .returned (.slice (some ⟨g, 0, none⟩) m cp) ∧
      w'.ownsRow w.heap.size 28 2 (.slice (some ⟨g, 0, none⟩) m cp) m (cellsE acc) ∧ Below w.heap.size w w' := by
  go_enter Try.func5, Try.ntmps5
  go_wp2_with fail
  refine (new_any a n cap zs _ hl hn hr).mono ?_
  rintro e w1 ⟨rfl, hc1, hb1⟩
  go_wp2_with fail
  refine (entries_any w.heap.size w.heap.size a n cap zs 6 _ hl hn hc1 (by omega)).mono ?_
  rintro e w2 ⟨acc, m, g, cp, hm, hy, hyb, hys, rfl, ho, hb2, _⟩
  have ho' := own_lower ho (B' := w.heap.size) (by omega)
  clear ho
  go_wp2
  go_ret
  exact ⟨acc, m, g, cp, hm, hy, hyb, hys, rfl, ho', hb1.trans hb2⟩

end Go.Proofs.Ytelbkamgcnmokaa

/- SameE: sameEntries of the laws: of two slices that read as the same list it answers true. By program (samegen.py). -/
namespace Go.Proofs.Ytelbkamgcnmokaa
open Go.RowKit
set_option linter.unusedVariables false
set_option linter.unusedSimpArgs false

set_option maxRecDepth 100000 in
set_option maxHeartbeats 2000000 in
theorem same_true (x y : Option Addr) (n ca cb : Nat) (d : List EntD) (w : World) (h1 : Reads (.sl shEntry) w [.slice x n ca] d) (h2 : Reads (.sl shEntry) w [.slice y n cb] d) (hn : n ≤ 1048576) :
    Calls Try.prog 11 #[.slice x n ca, .slice y n cb] w fun e w' => e = .returned (.bool true) ∧ Below w.heap.size w w' := by
  have HR1 : Hid (Reads (.sl shEntry) w [.slice x n ca] d) := h1
  have HR2 : Hid (Reads (.sl shEntry) w [.slice y n cb] d) := h2
  have hne : (n != n) = false := by simp
  clear h1 h2
  go_enter Try.func11, Try.ntmps11
  go_wp2
  go_loopw [13] (fun i wr => ∃ k : Nat, k ≤ n ∧ i = .int .i64 k ∧ Below w.heap.size w wr) (fun i _ => n - (intOf i).toNat)
  case atStart => exact ⟨0, Nat.zero_le _, rfl, Below.refl _ _⟩
  case round =>
    obtain ⟨k, hk, rfl, hbel⟩ := hrel
    by_cases hlt : k < n
    · obtain ⟨b, off, cc, z, rfl, hb, hz, hrz, hcell⟩ := reads_elem HR1.out k hlt
      obtain ⟨b', off', cc', z', rfl, hb', hz', hrz', hcell'⟩ := reads_elem HR2.out k hlt
      obtain rfl : z = z' := Option.some.inj (hz.symm.trans hz')
      obtain ⟨rfl, ls⟩ := open_Entry hrz
      obtain ⟨rfl, ls'⟩ := open_Entry hrz'
      obtain ⟨y0, ey0⟩ : ∃ y : Int, y = z.1 := ⟨_, rfl⟩
      obtain ⟨y1, ey1⟩ : ∃ y : ByteArray, y = z.2.1 := ⟨_, rfl⟩
      have g0 : wr.cell? ⟨b, off + k * 2, none⟩ = some (.int .i64 y0) := by rw [ey0]; exact (hbel.cell (p := ⟨b, off + (k * 2 + 0), none⟩) hb).trans (hcell 0 (by decide))
      have g1 : wr.cell? ⟨b, off + k * 2 + 1, none⟩ = some (.string y1) := by rw [ey1]; exact (hbel.cell (p := ⟨b, off + (k * 2 + 1), none⟩) hb).trans (hcell 1 (by decide))
      have g2 : wr.cell? ⟨b', off' + k * 2, none⟩ = some (.int .i64 y0) := by rw [ey0]; exact (hbel.cell (p := ⟨b', off' + (k * 2 + 0), none⟩) hb').trans (hcell' 0 (by decide))
      have g3 : wr.cell? ⟨b', off' + k * 2 + 1, none⟩ = some (.string y1) := by rw [ey1]; exact (hbel.cell (p := ⟨b', off' + (k * 2 + 1), none⟩) hb').trans (hcell' 1 (by decide))
      have hj1 : (0 : Int) ≤ (k : Int) := by omega
      have hj2 : (k : Int) < (n : Int) := by omega
      have bF := hbel.drew
      have hq1 : (y0 == y0) = true := by simp
      have hq2 : (y1.toList == y1.toList) = true := by simp
      clear hcell hrz hz hcell' hrz' hz' ey0 ey1
      go_wp2_with fail
      refine wp_region_held_drew (S := fun w' => w'.cell? ⟨b, off + k * 2, none⟩ = some (.int .i64 y0) ∧ w'.cell? ⟨b, off + k * 2 + 1, none⟩ = some (.string y1) ∧ w'.cell? ⟨b', off' + k * 2, none⟩ = some (.int .i64 y0) ∧ w'.cell? ⟨b', off' + k * 2 + 1, none⟩ = some (.string y1)) (by kernel_rfl) ⟨g0, g1, g2, g3⟩ (fun hHeld => ?_)
      refine wpAnyH_take (i := 0) (v := .slice (some ⟨b, off, none⟩) n ca) rfl (by kernel_rfl) (by kernel_rfl) (by kernel_rfl) (fun _ _ _ h => h) (Or.inl ⟨by kernel_rfl, ?_⟩) (by assumption) ?_
      · intro w9 hSw; (try dsimp only at hSw); go_simp
      simp only [Act.put, List.getElem_toArray, List.getElem_cons_succ, List.getElem_cons_zero, List.setIfInBounds_toArray, List.set_cons_zero, List.set_cons_succ]
      refine wpAnyH_take (i := 1) (v := .int .i64 k) rfl (by kernel_rfl) (by kernel_rfl) (by kernel_rfl) (fun _ _ _ h => h) (Or.inl ⟨by kernel_rfl, ?_⟩) (by assumption) ?_
      · intro w9 hSw; (try dsimp only at hSw); go_simp
      simp only [Act.put, List.getElem_toArray, List.getElem_cons_succ, List.getElem_cons_zero, List.setIfInBounds_toArray, List.set_cons_zero, List.set_cons_succ]
      refine wpAnyH_take (i := 2) (v := .pointer (some ⟨b, off + k * 2, none⟩)) rfl (by kernel_rfl) (by kernel_rfl) (by kernel_rfl) (fun _ _ _ h => h) (Or.inl ⟨by kernel_rfl, ?_⟩) (by assumption) ?_
      · intro w9 hSw; (try dsimp only at hSw); go_simp
      simp only [Act.put, List.getElem_toArray, List.getElem_cons_succ, List.getElem_cons_zero, List.setIfInBounds_toArray, List.set_cons_zero, List.set_cons_succ]
      refine wpAnyH_take (i := 3) (v := .agg #[.int .i64 y0, .string y1]) rfl (by kernel_rfl) (by kernel_rfl) (by kernel_rfl) (fun _ _ _ h => h) (Or.inl ⟨by kernel_rfl, ?_⟩) (by assumption) ?_
      · intro w9 hSw; (try dsimp only at hSw); go_simp
      simp only [Act.put, List.getElem_toArray, List.getElem_cons_succ, List.getElem_cons_zero, List.setIfInBounds_toArray, List.set_cons_zero, List.set_cons_succ]
      refine wpAnyH_take (i := 4) (v := .slice (some ⟨b', off', none⟩) n cb) rfl (by kernel_rfl) (by kernel_rfl) (by kernel_rfl) (fun _ _ _ h => h) (Or.inl ⟨by kernel_rfl, ?_⟩) (by assumption) ?_
      · intro w9 hSw; (try dsimp only at hSw); go_simp
      simp only [Act.put, List.getElem_toArray, List.getElem_cons_succ, List.getElem_cons_zero, List.setIfInBounds_toArray, List.set_cons_zero, List.set_cons_succ]
      refine wpAnyH_take (i := 5) (v := .int .i64 k) rfl (by kernel_rfl) (by kernel_rfl) (by kernel_rfl) (fun _ _ _ h => h) (Or.inl ⟨by kernel_rfl, ?_⟩) (by assumption) ?_
      · intro w9 hSw; (try dsimp only at hSw); go_simp
      simp only [Act.put, List.getElem_toArray, List.getElem_cons_succ, List.getElem_cons_zero, List.setIfInBounds_toArray, List.set_cons_zero, List.set_cons_succ]
      refine wpAnyH_take (i := 6) (v := .pointer (some ⟨b', off' + k * 2, none⟩)) rfl (by kernel_rfl) (by kernel_rfl) (by kernel_rfl) (fun _ _ _ h => h) (Or.inl ⟨by kernel_rfl, ?_⟩) (by assumption) ?_
      · intro w9 hSw; (try dsimp only at hSw); go_simp
      simp only [Act.put, List.getElem_toArray, List.getElem_cons_succ, List.getElem_cons_zero, List.setIfInBounds_toArray, List.set_cons_zero, List.set_cons_succ]
      refine wpAnyH_take (i := 7) (v := .agg #[.int .i64 y0, .string y1]) rfl (by kernel_rfl) (by kernel_rfl) (by kernel_rfl) (fun _ _ _ h => h) (Or.inl ⟨by kernel_rfl, ?_⟩) (by assumption) ?_
      · intro w9 hSw; (try dsimp only at hSw); go_simp
      simp only [Act.put, List.getElem_toArray, List.getElem_cons_succ, List.getElem_cons_zero, List.setIfInBounds_toArray, List.set_cons_zero, List.set_cons_succ]
      refine wpAnyH_take (i := 8) (v := .bool false) rfl (by kernel_rfl) (by kernel_rfl) (by kernel_rfl) (fun _ _ _ h => h) (Or.inl ⟨by kernel_rfl, ?_⟩) (by assumption) ?_
      · intro w9 hSw; (try dsimp only at hSw); go_simp
      simp only [Act.put, List.getElem_toArray, List.getElem_cons_succ, List.getElem_cons_zero, List.setIfInBounds_toArray, List.set_cons_zero, List.set_cons_succ]
      refine wpAnyH_done (by kernel_rfl) ?_ _
      go_wp2
      go_roundw
      case rel => exact ⟨k + 1, by omega, by go_num, bF⟩
      case measure => simp [intOf]; omega
    · have e : k = n := by omega
      subst e
      go_wp2
      go_ret
      exact ⟨rfl, hbel⟩

end Go.Proofs.Ytelbkamgcnmokaa

/- DrawB: l01Bytes and MakeBytes: a row of the call's own, of at most 'most' bytes. -/
namespace Go.Proofs.Ytelbkamgcnmokaa
open Go.RowKit
set_option linter.unusedVariables false

def isBytes (ys : List Int) : Prop := ∀ i : Nat, 0 ≤ ys[i]?.getD 0 ∧ ys[i]?.getD 0 ≤ 255

theorem isBytes_snoc {ys : List Int} {x : Int} (h : isBytes ys) (h0 : 0 ≤ x) (h1 : x ≤ 255) : isBytes (ys ++ [x]) := by
  intro i
  rw [List.getElem?_append]
  split
  · exact h i
  · rcases Nat.eq_zero_or_pos (i - ys.length) with e | e
    · rw [e]; simp; omega
    · rw [List.getElem?_eq_none (by simp; omega)]; simp

end Go.Proofs.Ytelbkamgcnmokaa

/- Conv: A row of bytes of the call's own, turned into a string. -/
namespace Go.Proofs.Ytelbkamgcnmokaa
open Go.RowKit
set_option linter.unusedVariables false

theorem own_conv {w : World} {base g n cap : Nat} {zs : List Int} (hl : zs.length = n) (h : w.ownsRow base 5 1 (.slice (some ⟨g, 0, none⟩) n cap) n (zs.map (Value.int .u8))) :
    (convert 22 9 (.slice (some ⟨g, 0, none⟩) n cap)).run Try.prog w = .ok (.string (strOfNums zs)) w := by
  refine run_convert_bytes_arg (P := Try.prog) w 22 5 Try.underlying22 Try.underlying5 g 0 n cap zs hl ?_ 9 Try.underlying9
  intro i hi
  rw [Nat.zero_add, h.cellAt i (by omega)]
  have : i < zs.length := by omega
  simp [this]

end Go.Proofs.Ytelbkamgcnmokaa

/- MkNum: MakeNum: a number below m. Conversions of rows of bytes to strings. -/
namespace Go.Proofs.Ytelbkamgcnmokaa
open Go.RowKit
set_option linter.unusedVariables false

set_option maxHeartbeats 1000000 in
theorem makeNum_any (a : Option Addr) (n cap : Nat) (zs : List Int) (m : Int) (w : World) (hl : Hid (zs.length = n)) (hn : n ≤ 1048576) (hr : Rd w a zs) (hm1 : 1 ≤ m) (hm2 : m ≤ 256) :
    Calls Try.prog 8 #[.slice a n cap, .int .i64 m] w fun e w' => ∃ x : Nat, e = .returned (.int .i64 x) ∧ (x : Int) < m ∧ Below w.heap.size w w' := by
  go_enter Try.func8, Try.ntmps8
  go_wp2_with fail
  refine (new_any a n cap zs _ hl hn hr).mono ?_
  rintro e w1 ⟨rfl, hc1, hb1⟩
  obtain ⟨h, c2⟩ := hc1.c2
  have f2 := hc1.f2
  obtain ⟨cs, hg⟩ := cur_set hc1 (wrap64 (h + 777)) 2 (.inl rfl)
  have HC : Hid (Cur (w1.setCell ⟨w.heap.size, 2, none⟩ (.int .i64 (wrap64 (h + 777)))) w.heap.size w.heap.size a n cap zs ∧ Below w.heap.size w (w1.setCell ⟨w.heap.size, 2, none⟩ (.int .i64 (wrap64 (h + 777))))) := ⟨cs, hb1.setCell (Nat.le_refl _) _⟩
  clear cs hg hc1
  go_wp2_with fail
  refine (below_any w.heap.size w.heap.size a n cap zs m _ hl hn HC.out.1 hm1 hm2).mono ?_
  rintro e w2 ⟨x, rfl, hx0, hx1, _, hg2⟩
  have hb2 : Below w.heap.size w w2 := HC.out.2.grown hg2 HC.out.2.size (fun k h => by cases h; exact Nat.le_refl _)
  clear c2 f2
  obtain ⟨X, rfl⟩ := Int.eq_ofNat_of_zero_le hx0
  go_wp2
  go_ret
  exact ⟨X, rfl, hx1, hb2⟩

theorem row_conv {w : World} {base g n cap : Nat} {zs : List Int} (hl : zs.length = n) (h : w.ownsRow base 5 1 (.slice (some ⟨g, 0, none⟩) n cap) n (zs.map (Value.int .u8))) (j : Nat) (hj : j ≤ n) :
    (convert 22 9 (.slice (some ⟨g, 0, none⟩) j cap)).run Try.prog w = .ok (.string (strOfNums (zs.take j))) w := by
  refine run_convert_bytes_arg (P := Try.prog) w 22 5 Try.underlying22 Try.underlying5 g 0 j cap (zs.take j) (by rw [List.length_take]; omega) ?_ 9 Try.underlying9
  intro i hi
  rw [Nat.zero_add, h.cellAt i (by omega)]
  have : i < zs.length := by omega
  simp [this, show i < j by omega]

/-- A row that the call owns, nil or not, and its beginnings, as strings. -/
theorem own_convV {w : World} {base n : Nat} {a : Option Addr} {cap : Nat} {zs : List Int} (hl : zs.length = n) (h : w.ownsRow base 5 1 (.slice a n cap) n (zs.map (Value.int .u8))) (j : Nat) (hj : j ≤ n) :
    (convert 22 9 (.slice a j cap)).run Try.prog w = .ok (.string (strOfNums (zs.take j))) w := by
  rcases h.2 with ⟨h1, h2⟩ | ⟨g, cap', cur, hv, _⟩
  · simp only [Value.slice.injEq] at h1
    obtain ⟨rfl, rfl, rfl⟩ := h1
    have hj0 : j = 0 := by omega
    subst hj0
    have hz : zs = [] := List.eq_nil_of_length_eq_zero hl
    subst hz
    exact run_convert_bytes_nil w 22 5 Try.underlying22 Try.underlying5 0 0 9 Try.underlying9
  · simp only [Value.slice.injEq] at hv
    obtain ⟨rfl, _, rfl⟩ := hv
    exact row_conv hl h j hj

end Go.Proofs.Ytelbkamgcnmokaa
