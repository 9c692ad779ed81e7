/-
  Joined: ClS, LnkI, DirA, CalmI.
-/
import Derived.Test.YtkjnbjohicgooaaGreatShelf
import Derived.Test.YtkjnbjohicgooaaGreatJ0FnExactDiskCalm
import Derived.Test.YtkjnbjohicgooaaGreatJ9FnExactDiskCalm
import Derived.Test.YtkjnbjohicgooaaGreatJ6FnExactDiskCalm
import Derived.Test.YtkjnbjohicgooaaGreatJ2FnExactDiskCalm
import Derived.Maps.RangeWalk
import Derived.Test.YtkjnbjohicgooaaGreatJ3FnExactDiskCalm
import Derived.Deep.RegionHeld3
/- ClS: strings.Clone of the program. -/
namespace Go.Proofs.YtkjnbjohicgooaaGreat
open Go.RowKit
set_option linter.unusedVariables false
set_option maxRecDepth 100000

set_option maxHeartbeats 400000 in
theorem cloneS_any (s : ByteArray) (w : World) (h : s.size ≤ 1048576) :
    Calls Tryz.prog 95 #[.string s] w fun e w' => e = .returned (.string s) ∧ Below w.heap.size w w' := by
  go_enter Tryz.func95, Tryz.ntmps95
  go_wp2_with fail
  refine (Tryz.stringslite_Clone s _ (by omega)).mono ?_
  rintro e w' ⟨rfl, hb⟩
  go_wp2
  go_ret
  exact ⟨rfl, hb⟩

end Go.Proofs.YtkjnbjohicgooaaGreat

/- LnkI: linksOf of the program: the links of a map, gathered in whatever order they come, then set in the order of their names. -/
namespace Go.Proofs.YtkjnbjohicgooaaGreat
open Go.RowKit Go.Maps
open Go.MapKept Go.ChangeMaps
set_option linter.unusedVariables false
set_option maxRecDepth 100000
set_option linter.unusedSimpArgs false

theorem keyS_self (s : ByteArray) : (keyS s).sameKey (keyS s) = true := by simp [keyS, Lit.sameKey]
theorem keyS_other {s t : ByteArray} (h : s ≠ t) : (keyS s).sameKey (keyS t) = false := sameKey_ne (keyS_inj h)

theorem keyOf_inv {x : ByteArray} {kl : Lit} (h : keyOf Tryz.prog 9 (.string x) = some kl) : kl = keyS x ∧ x.size ≤ maxLen := by
  simp [keyOf, Tryz.underlying9, mapKey] at h
  obtain ⟨h1, h2⟩ := h
  exact ⟨h2.symm, h1⟩

theorem keyStr_inv {key : Value} {kl : Lit} (h : keyOf Tryz.prog 9 key = some kl) : ∃ s, key = .string s := by
  cases key <;> simp [keyOf, Tryz.underlying9, mapKey] at h
  exact ⟨_, rfl⟩

theorem ranges_cnt {w : World} {b r n cnt : Nat} {D : DataW Unit} {left : Lit → Bool} (h : w.ranges Tryz.prog 9 anyInt b r n D left cnt) : cnt ≤ n := by
  obtain ⟨es, clock, since, seen, c0, _, _, hs, _, _, _, hc, _⟩ := h
  have : (leftOf es seen).size ≤ es.size := by unfold leftOf; exact Array.size_filter_le
  omega

/-- What is gathered of the links l while 'left' says what is still to come. -/
def Gat (l : List LinkD) (left : Lit → Bool) (acc : List LinkD) : Prop :=
  (∀ s, hasL acc s = (hasL l s && !left (keyS s))) ∧ (∀ x ∈ acc, x.2.1 = findL l x.1) ∧ (acc.Pairwise fun x y => x.1 ≠ y.1) ∧ SmallS acc

theorem hasL_snoc (l : List LinkD) (x : LinkD) (s : ByteArray) : hasL (l ++ [x]) s = (hasL l s || decide (x.1 = s)) := by simp [hasL]

theorem Gat.start {l : List LinkD} {left : Lit → Bool} (h : ∀ s, left (keyS s) = hasL l s) : Gat l left [] := by
  refine ⟨fun s => ?_, fun x hx => (by cases hx), List.Pairwise.nil, fun x hx => (by cases hx)⟩
  rw [h s, hasL_nil]; cases hasL l s <;> rfl

theorem Gat.step {l acc : List LinkD} {left : Lit → Bool} (h : Gat l left acc) {x : ByteArray} {c : Int} (hl : left (keyS x) = true) (hh : hasL l x = true) (hc : findL l x = c) (hs : x.size ≤ maxLen) :
    Gat l (fun z => left z && !z.sameKey (keyS x)) (acc ++ [(x, c, ())]) := by
  obtain ⟨h1, h2, h3, h4⟩ := h
  refine ⟨fun s => ?_, fun y hy => ?_, ?_, fun y hy => ?_⟩
  · rw [hasL_snoc, h1 s]
    show _ = (hasL l s && !(left (keyS s) && !(keyS s).sameKey (keyS x)))
    by_cases e : x = s
    · subst e; rw [keyS_self, hh]; simp
    · rw [keyS_other (fun e' => e e'.symm)]; simp [e]
  · rcases List.mem_append.1 hy with hy | hy
    · exact h2 y hy
    · rw [List.mem_singleton.1 hy]; exact hc.symm
  · refine List.pairwise_append.2 ⟨h3, List.pairwise_singleton _ _, fun y hy z hz => ?_⟩
    rw [List.mem_singleton.1 hz]
    intro e
    have : hasL acc x = true := by
      have := hasL_mem hy
      rw [e] at this; exact this
    rw [h1 x, hl] at this
    simp at this
  · rcases List.mem_append.1 hy with hy | hy
    · exact h4 y hy
    · rw [List.mem_singleton.1 hy]; exact hs

theorem Gat.perm {l acc acc' : List LinkD} {left : Lit → Bool} (h : Gat l left acc) (hp : acc'.Perm acc) : Gat l left acc' := by
  obtain ⟨h1, h2, h3, h4⟩ := h
  refine ⟨fun s => ?_, fun x hx => h2 x (hp.mem_iff.1 hx), (List.Perm.pairwise_iff (fun hxy => fun e => hxy e.symm) hp).2 h3, fun x hx => h4 x (hp.mem_iff.1 hx)⟩
  rw [← h1 s]
  unfold hasL
  rw [Bool.eq_iff_iff, List.any_eq_true, List.any_eq_true]
  exact ⟨fun ⟨x, hx, e⟩ => ⟨x, hp.mem_iff.1 hx, e⟩, fun ⟨x, hx, e⟩ => ⟨x, hp.mem_iff.2 hx, e⟩⟩

theorem Gat.alike {l acc : List LinkD} {left : Lit → Bool} (h : Gat l left acc) (h0 : ∀ kl, left kl = false) : Alike acc l := fun s => by
  obtain ⟨h1, h2, h3, h4⟩ := h
  have e : hasL acc s = hasL l s := by rw [h1 s, h0]; simp
  refine ⟨e, ?_⟩
  cases c : hasL acc s with
  | false => rw [findL_none c, findL_none (by rw [← e]; exact c)]
  | true =>
    obtain ⟨x, hx, rfl, hx2⟩ := findL_mem c
    rw [← hx2]; exact h2 x hx

set_option maxRecDepth 100000 in
set_option maxHeartbeats 4000000 in
theorem implLinks_ok (b n : Nat) (l : List LinkD) (w : World) (hm : MapIs w b n l) (hn : n ≤ 1000000) (hsm : ∀ s, hasL l s = true → s.size ≤ 1048576) :
    Calls Tryz.prog 46 #[.map (some b)] w fun e w' => ∃ v m L, e = .returned v ∧ w'.ownsRow w.heap.size 81 2 v m (cellsL L) ∧ Hid (L.length = m ∧ Asc L ∧ Alike L l ∧ SmallS L) ∧ Below w.heap.size w w' := by
  obtain ⟨i0, hi, hz0, hz1, hz2⟩ := info_parts infoLink
  have hbl := hm.lt
  obtain ⟨D, ho, hD⟩ := hm
  have HD : Hid (∀ s : ByteArray, Maps.has D (keyS s) = hasL l s ∧ D.atKey (keyS s) (.lit (.int .i64 0)) = .lit (.int .i64 (findL l s))) := hD
  have HSM : Hid (∀ s, hasL l s = true → s.size ≤ 1048576) := hsm
  clear hD hsm
  go_enter Tryz.func46, Tryz.ntmps46
  go_wp2_with (at_range; refine wpList_range_own _ rfl _ 77 rfl 9 3 lawS Tryz.underlying77 anyInt b n D rfl ho ?_; intro w0 hrg0 hg0 hs0)
  have B0 : Below w.heap.size w w0 := (Below.refl _ _).grown hg0 (Nat.le_refl _) (fun y h => by cases h)
  go_frame
  go_loopw [3] (fun u wr => ∃ (left : Lit → Bool) (cnt m : Nat) (acc : List LinkD) (uu : Value), uu = u ∧ wr.ranges Tryz.prog 9 anyInt b w.heap.size n D left cnt ∧ wr.ownsRow (w.heap.size + 1) 81 2 uu m (cellsL acc) ∧ Hid (acc.length = m ∧ Gat l left acc) ∧ m + cnt ≤ n ∧ w.heap.size + 1 ≤ wr.heap.size ∧ Below w.heap.size w wr) (fun _ wr => wr.rangeLeft b w.heap.size)
  case atStart => exact ⟨Maps.has D, _, 0, [], _, rfl, hrg0, ⟨rfl, .inl ⟨rfl, rfl⟩⟩, ⟨rfl, Gat.start fun s => (HD.out s).1⟩, by have := ranges_cnt hrg0; omega, by omega, B0⟩
  case round =>
    obtain ⟨left, cnt, m, acc, u, rfl, hrg, hown, HA, hmc, hsz, hbel⟩ := hrel
    obtain ⟨ua, uc, rfl⟩ : ∃ a c, u = .slice a m c := by
      rcases hown.2 with ⟨h1, h2⟩ | ⟨g, cap, cur, hv, _⟩
      · exact ⟨none, 0, by rw [h1, h2]⟩
      · exact ⟨_, _, hv⟩
    have hk3 : w.heap.size < w.heap.size + 1 := Nat.lt_succ_self _
    go_wp2_with (at_next; refine wpList_next_ranges _ rfl _ rfl 9 lawS anyInt Value.string (Value.int .i64) (fun key kl hkey => keyStr_inv hkey) (fun v y hv => by obtain ⟨c, rfl, _⟩ := anyInt_inv hv; exact ⟨c, rfl⟩) b w.heap.size n D left cnt rfl hrg ?_ ?_)
    · intro hc0 hl0
      have qs : Hid (Calls Tryz.prog 96 #[.slice ua m uc, .func (.func 97) #[] #[]] wr fun e w' => e = .returned (.tuple #[]) ∧ ∃ L, w'.ownsRow (w.heap.size + 1) 81 2 (.slice ua m uc) m (cellsL L) ∧ Hid (L.length = m ∧ Asc L ∧ Alike L l ∧ SmallS L) ∧ Below w.heap.size w w') := by
        show Calls _ _ _ _ _
        have hga := HA.out.2
        by_cases hz : m = 0
        · subst hz
          have hacc : acc = [] := List.length_eq_zero_iff.1 HA.out.1
          subst hacc
          refine Calls.mono (P := Tryz.prog) (AnyF.slices_SortFunc_none Tryz.sortLinks ua uc _ wr) ?_
          rintro e w' ⟨rfl, rfl⟩
          exact ⟨rfl, [], hown, ⟨rfl, asc_nil, hga.alike hl0, hga.2.2.2⟩, hbel⟩
        · obtain ⟨g, rfl⟩ : ∃ g, ua = some ⟨g, 0, none⟩ := by
            rcases hown.2 with ⟨h1, h2⟩ | ⟨g, cap, cur, hv, _⟩
            · exact absurd h2 hz
            · simp only [Value.slice.injEq] at hv
              exact ⟨g, hv.1⟩
          have hlo := (hown.lt g rfl).1
          refine (sortLinks_ok (w.heap.size + 1) g m uc acc wr HA.out.1 (by omega) hown hga.2.2.1).mono ?_
          rintro e w' ⟨rfl, L, hp, hasc, ho', hgr⟩
          have hg' := hga.perm hp
          exact ⟨rfl, L, ho', ⟨by rw [hp.length_eq, HA.out.1], hasc, hg'.alike hl0, hg'.2.2.2⟩, hbel.grown hgr hbel.size (fun y h => by cases h; omega)⟩
      clear hrg hown HA hmc hc0 hl0
      go_wp2_with fail
      refine qs.out.mono ?_
      rintro e w2 ⟨rfl, L, ho2, hL, hb2⟩
      have HO2 : Hid _ := own_lower ho2 (Nat.le_succ _)
      clear ho2 qs
      go_wp2
      go_ret
      exact ⟨_, m, L, rfl, HO2.out, hL, hb2⟩
    · intro x c kl y1 y2 w1 cnt1 hkey hlk hv hat hrg1 hlt hg1 hs1 hen
      obtain ⟨rfl, hxs⟩ := keyOf_inv hkey
      obtain ⟨c', ec, ey⟩ := anyInt_inv hv
      obtain rfl : c = c' := by injection ec
      obtain rfl : y1 = .lit (.int .i64 c) := congrArg Prod.fst ey
      have hh : hasL l x = true := by rw [← (HD.out x).1]; exact has_true_of_atKey hat
      have hf : findL l x = c := by
        have h9 := (HD.out x).2
        rw [hat] at h9
        injection h9 with h9
        injection h9 with _ h9
        exact h9.symm
      have hx20 := HSM.out x hh
      have HG : Hid ((acc ++ [(x, c, ())]).length = m + 1 ∧ Gat l (fun z => left z && !z.sameKey (keyS x)) (acc ++ [(x, c, ())])) := ⟨by rw [List.length_append, HA.out.1]; rfl, HA.out.2.step hlk hh hf hxs⟩
      have HCE : Hid (cellsL (acc ++ [(x, c, ())]) = cellsL acc ++ [.string x, .int .i64 c]) := cellsL_snoc _ _
      have b1 : Below w.heap.size w w1 := hbel.grown hg1 hbel.size (fun y h => by cases h; exact Nat.le_refl _)
      have o1 : w1.ownsRow (w.heap.size + 1) 81 2 (.slice ua m uc) m (cellsL acc) := by
        refine hown.kept hg1 ?_
        cases e9 : (Value.slice ua m uc).ownBlock with
        | none => exact .inl rfl
        | some q => exact .inr (fun e8 => by have h7 := (hown.lt q e9).1; simp at e8; omega)
      have HRG : Hid (wr.rangeLeft b w.heap.size = cnt) := hrg.left_eq
      have HX : Hid (x.size ≤ 1048576) := hx20
      clear hown hrg hkey hlk hv hat hh hf hxs HA hx20 hg1
      go_wp2_with fail
      refine (cloneS_any x _ HX.out).mono ?_
      rintro e w2 ⟨rfl, hb2⟩
      have o2 := own_later o1 hb2
      have b2 := b1.trans (hb2.mono b1.size)
      have hrg2 := hrg1.kept (below_grown hb2) (by simp) (by simp)
      clear o1 b1 hrg1 hen
      go_wp2_with (at_builtin; refine wpList_append_src rfl _ _ 28 rfl (w.heap.size + 1) 81 i0 (.agg #[.string ByteArray.empty, .int .i64 0]) 2 24 Tryz.underlying28 hi hz0 hz1 hz2 rfl (by decide) (.slice ua m uc) m (cellsL acc) rfl (o2.alloc _) (.slice (some ⟨w2.heap.size, 0, none⟩) 1 1) 1 [.string x, .int .i64 c] rfl rfl (.inr ⟨_, 1, rfl, cells_new w2 [.string x, .int .i64 c] 81⟩) ?c2 ?c3 ?c4 ?c5 ?_)
      case c2 => intro u hu; simp at hu; rcases hu with rfl | rfl <;> rfl
      case c3 => unfold maxLen; omega
      case c4 => omega
      case c5 => have h9 := hb2.size; simp; omega
      intro v3 w3 o3 gr3
      have b3 : Below w.heap.size w w3 := (b2.alloc b2.size _).grown gr3 (by have h9 := b2.size; simp; omega) (fun y h => Nat.le_of_succ_le (o2.lt y h).1)
      have hrg3 := (hrg2.kept (World.grownBy_alloc w2 _ none) (by simp) (by simp)).kept gr3 (fun e9 => by have h7 := (o2.lt b e9.symm).1; omega) (fun e9 => by have h7 := (o2.lt w.heap.size e9.symm).1; omega)
      have hz3 : w.heap.size + 1 ≤ w3.heap.size := by have h9 := hrg3.lt; omega
      rw [← HCE.out] at o3
      have HR3 : Hid (w3.rangeLeft b w.heap.size = cnt1) := hrg3.left_eq
      clear gr3 o2 hrg2 hb2
      go_wp2
      go_roundw
      case rel => exact ⟨_, cnt1, m + 1, _, _, rfl, hrg3, o3, HG, by omega, hz3, b3⟩
      case measure => rw [HR3.out, HRG.out]; exact hlt

end Go.Proofs.YtkjnbjohicgooaaGreat

/- DirA: The program's directory as a list: linksOf behind directoryBehind, for any number of turns of a right disk; DiskDir of the program. -/
namespace Go.Proofs.YtkjnbjohicgooaaGreat
open Go.RowKit
set_option linter.unusedVariables false
set_option maxRecDepth 100000

theorem dir_alikeK {d : shDisk.D} (h : specOkP d) (k : Nat) : Alike (dirL d.2.2.2.2.1 (List.take (α := TurnD) k d.2.2.2.2.2.1)) (dirF (List.reverse (α := LinkD) d.2.2.2.2.1) (List.take (α := TurnD) k d.2.2.2.2.2.1)) := by
  obtain ⟨_, _, h3, _, _, h6, _⟩ := h
  obtain ⟨kp, hkp⟩ : ∃ l : List LinkD, l = d.2.2.2.2.1 := ⟨_, rfl⟩
  obtain ⟨tn, htn⟩ : ∃ l : List TurnD, l = d.2.2.2.2.2.1 := ⟨_, rfl⟩
  rw [← hkp, ← htn] at h6 ⊢
  rw [← hkp] at h3
  have hp := kept_pos h3
  have hn : namesTo kp kp.length := fun i hi hk => ⟨(h3 i hi hk).1, (h3 i hi hk).2.2⟩
  have hal : ∀ (ts : List TurnD) (l m : List LinkD), Alike l m → Pos l → turnsOkL l ts → Alike (dirL l ts) (dirF m ts) := by
    intro ts
    induction ts with
    | nil => intro l m h _ _; exact h
    | cons t ts ih =>
      intro l m hlm hpl hk
      have h8 := turn_alike hlm hpl hk.1
      exact ih (turnL l t) (turnI m t) h8.1 h8.2 hk.2
  exact hal (tn.take k) kp kp.reverse (alike_rev hn) hp (turnsOk_take h6 k)

def NamesOk (l : List LinkD) : Prop := ∀ x ∈ l, isName x.1

theorem names_turn {l : List LinkD} {t : TurnD} (h : NamesOk l) (hk : turnOkL l t) : NamesOk (turnL l t) := by
  unfold turnL
  split
  · intro x hx
    rcases mem_with hx with rfl | hx
    · exact hk.1
    · exact h x hx
  · split
    · rename_i h1 h5
      intro x hx
      rcases mem_with hx with rfl | hx
      · rcases hk.2 with ⟨h9, _⟩ | ⟨_, h9, _⟩ | ⟨h9, _⟩
        · exact absurd h9 h1
        · exact h9
        · omega
      · exact h x (mem_less (mem_less hx))
    · intro x hx
      exact h x (mem_less hx)

theorem names_dir : ∀ {ts : List TurnD} {l : List LinkD}, NamesOk l → turnsOkL l ts → NamesOk (dirL l ts)
  | [], l, h, _ => h
  | t :: ts, l, h, hk => by
    show NamesOk (dirL (turnL l t) ts)
    exact names_dir (names_turn h hk.1) hk.2

theorem names_disk {d : shDisk.D} (h : specOkP d) (k : Nat) : NamesOk (dirL d.2.2.2.2.1 (List.take (α := TurnD) k d.2.2.2.2.2.1)) := by
  obtain ⟨_, _, h3, _, _, h6, _⟩ := h
  refine names_dir (fun x hx => ?_) (turnsOk_take h6 k)
  obtain ⟨i, hi, rfl⟩ := List.mem_iff_getElem.1 hx
  exact (h3 i hi hi).1

theorem bulkL_sz (l : List LinkD) : Sh.sz (.sl shLink) l = (l.map fun x => 1 + ByteArray.size x.1).sum := by
  show List.length (α := LinkD) l + (List.map shLink.sz l).sum = _
  induction l with
  | nil => rfl
  | cons a l ih =>
    have h3 : shLink.sz a = ByteArray.size a.1 := sz_Link a
    have e2 : List.length (α := LinkD) (a :: l) + (List.map shLink.sz (a :: l)).sum = (List.length (α := LinkD) l + 1) + (shLink.sz a + (List.map shLink.sz l).sum) := rfl
    refine e2.trans ?_
    have ih' : List.length (α := LinkD) l + (List.map shLink.sz l).sum = (l.map fun x => 1 + ByteArray.size x.1).sum := ih
    simp only [List.map_cons, List.sum_cons]
    omega

theorem bulkL_le (l : List LinkD) (h : NamesOk l) : (l.map fun x => 1 + ByteArray.size x.1).sum ≤ 13 * l.length := by
  induction l with
  | nil => simp
  | cons x m ih =>
    have h1 := (h x (by simp)).2.1
    have h2 := ih fun y hy => h y (by simp [hy])
    simp only [List.map_cons, List.sum_cons, List.length_cons]
    omega

theorem take_le {α : Type} (k n : Nat) (l : List α) (h : l.length ≤ n) : (l.take k).length ≤ n := by rw [List.length_take]; omega

/-- How much a directory of a right disk holds. -/
theorem dir_sz {d : shDisk.D} (h : specOkP d) (k : Nat) : Sh.sz (.sl shLink) (dirL d.2.2.2.2.1 (List.take (α := TurnD) k d.2.2.2.2.2.1)) ≤ 1048576 := by
  have hn := names_disk h k
  have hl := dirL_len d.2.2.2.2.1 (List.take (α := TurnD) k d.2.2.2.2.2.1)
  obtain ⟨⟨_, _, _, _, _, _, _, l4, l5⟩, _⟩ := h
  have l4' : List.length (α := LinkD) d.2.2.2.2.1 ≤ 8 := l4
  have l6 : List.length (α := TurnD) (List.take (α := TurnD) k d.2.2.2.2.2.1) ≤ 40 := take_le (α := TurnD) k 40 _ l5
  have h8 := bulkL_le _ hn
  have h9 := bulkL_sz (dirL d.2.2.2.2.1 (List.take (α := TurnD) k d.2.2.2.2.2.1))
  refine Nat.le_trans (Nat.le_of_eq h9) ?_
  omega

/-- linksOf of directoryBehind: the model's directory. -/
theorem links_dir {d : shDisk.D} (h : specOkP d) (k b n : Nat) (w : World) (hm : MapIs w b n (dirF (List.reverse (α := LinkD) d.2.2.2.2.1) (List.take (α := TurnD) k d.2.2.2.2.2.1))) (hn : n ≤ 1000000) :
    Calls Tryz.prog 46 #[.map (some b)] w fun e w' => ∃ v F, e = .returned v ∧ Own (.sl shLink) w' w.heap.size [v] (dirL d.2.2.2.2.1 (List.take (α := TurnD) k d.2.2.2.2.2.1)) F ∧ F.Nodup ∧ Below w.heap.size w w' := by
  have ha := dir_alikeK h k
  refine (implLinks_ok b n _ w hm hn (fun s hs => ?_)).mono ?_
  · rw [← (ha s).1] at hs
    obtain ⟨x, hx, rfl, _⟩ := findL_mem hs
    have := (names_disk h k x hx).2.1
    omega
  · rintro e w' ⟨v, m, L, rfl, ho, hL, hb⟩
    obtain ⟨hl, hasc, hal, hsm⟩ := hL.out
    have e : L = dirL d.2.2.2.2.1 (List.take (α := TurnD) k d.2.2.2.2.2.1) := asc_eq hasc (asc_disk h k) (hal.trans ha.symm)
    subst e
    obtain ⟨F, hF, hnd, _⟩ := own_linksV hl hsm ho
    exact ⟨v, F, rfl, hF, hnd, hb⟩

set_option maxRecDepth 100000 in
set_option maxHeartbeats 2000000 in
theorem implDir_bad (cs : List Value) (d : shDisk.D) (w : World) (hr : Reads shDisk w cs d) (hs : shDisk.sz d ≤ 1048576) (hok : implOkB d = false) :
    Calls Tryz.prog 11 #[.agg cs.toArray] w fun e w' => e = .returned (.slice none 0 0) ∧ Below w.heap.size w w' := by
  obtain ⟨a3, n3, c3, a4, n4, c4, a5, n5, c5, rfl, r3, r4, r5⟩ := open_Disk hr
  obtain ⟨x0, e0⟩ : ∃ x : Int, x = d.1 := ⟨_, rfl⟩
  obtain ⟨x1, e1⟩ : ∃ x : Int, x = d.2.1 := ⟨_, rfl⟩
  obtain ⟨x2, e2⟩ : ∃ x : Int, x = d.2.2.1 := ⟨_, rfl⟩
  have qok : Hid (∀ w', Below w.heap.size w w' → Calls Tryz.prog 45 #[.agg #[.int .i64 x0, .int .i64 x1, .int .i64 x2, .slice a3 n3 c3, .slice a4 n4 c4, .slice a5 n5 c5]] w' fun e w'' => e = .returned (.bool false) ∧ Below w'.heap.size w' w'') := fun w' h' => by
    rw [e0, e1, e2, ← hok]; exact implOk_ok _ d w' (hr.later h') hs
  rw [← e0, ← e1, ← e2]
  have bW0 : Below w.heap.size w (w.alloc (.cells #[.int .i64 x0, .int .i64 x1, .int .i64 x2, .slice a3 n3 c3, .slice a4 n4 c4, .slice a5 n5 c5] 33)) := (Below.refl _ _).alloc (Nat.le_refl _) _
  clear hr hs r3 r4 r5 e0 e1 e2 hok
  go_enter Tryz.func11, Tryz.ntmps11
  go_wp2_with fail
  refine (qok.out _ bW0).mono ?_
  rintro e w1 ⟨rfl, hb1⟩
  have b1 := bW0.trans (hb1.mono bW0.size)
  clear hb1
  go_wp2
  go_ret
  exact ⟨rfl, b1⟩

set_option maxRecDepth 100000 in
set_option maxHeartbeats 4000000 in
theorem implDir_good (cs : List Value) (d : shDisk.D) (w : World) (hr : Reads shDisk w cs d) (hs : shDisk.sz d ≤ 1048576) (hok : implOkB d = true) :
    Calls Tryz.prog 11 #[.agg cs.toArray] w fun e w' => ∃ v F, e = .returned v ∧ Own (.sl shLink) w' w.heap.size [v] (dirL d.2.2.2.2.1 d.2.2.2.2.2.1) F ∧ F.Nodup ∧ Below w.heap.size w w' := by
  have hp : specOkP d := (ok_same d).2 hok
  obtain ⟨a3, n3, c3, a4, n4, c4, a5, n5, c5, rfl, r3, r4, r5⟩ := open_Disk hr
  obtain ⟨x0, e0⟩ : ∃ x : Int, x = d.1 := ⟨_, rfl⟩
  obtain ⟨x1, e1⟩ : ∃ x : Int, x = d.2.1 := ⟨_, rfl⟩
  obtain ⟨x2, e2⟩ : ∃ x : Int, x = d.2.2.1 := ⟨_, rfl⟩
  obtain ⟨DL, hDL⟩ : ∃ l : List LinkD, l = dirL d.2.2.2.2.1 d.2.2.2.2.2.1 := ⟨_, rfl⟩
  have qok : Hid (∀ w', Below w.heap.size w w' → Calls Tryz.prog 45 #[.agg #[.int .i64 x0, .int .i64 x1, .int .i64 x2, .slice a3 n3 c3, .slice a4 n4 c4, .slice a5 n5 c5]] w' fun e w'' => e = .returned (.bool true) ∧ Below w'.heap.size w' w'') := fun w' h' => by
    rw [e0, e1, e2, ← hok]; exact implOk_ok _ d w' (hr.later h') hs
  have l4 : List.length (α := LinkD) d.2.2.2.2.1 = n4 := (reads_len r4).1
  have l5 : List.length (α := TurnD) d.2.2.2.2.2.1 = n5 := (reads_len r5).1
  have s45 : n4 + n5 ≤ 48 := by
    obtain ⟨⟨_, _, _, _, _, _, _, h8, h40⟩, _⟩ := hp
    have h8' : List.length (α := LinkD) d.2.2.2.2.1 ≤ 8 := h8
    have h40' : List.length (α := TurnD) d.2.2.2.2.2.1 ≤ 40 := h40
    omega
  have hall : List.take (α := TurnD) n5 d.2.2.2.2.2.1 = d.2.2.2.2.2.1 := List.take_of_length_le (by rw [l5]; exact Nat.le_refl _)
  have qdir : Hid (∀ w', Below w.heap.size w w' → Calls Tryz.prog 47 #[.slice a4 n4 c4, .slice a5 n5 c5] w' fun e w'' => e = .returned (.map (some w'.heap.size)) ∧ MapIs w'' w'.heap.size (n4 + n5) (dirF (List.reverse (α := LinkD) d.2.2.2.2.1) d.2.2.2.2.2.1) ∧ Below w'.heap.size w' w'') := fun w' h' => directory_ok a4 n4 c4 _ a5 n5 c5 _ w' (r4.later h') (r5.later h') (by omega)
  have qlk : Hid (∀ w' b, MapIs w' b (n4 + n5) (dirF (List.reverse (α := LinkD) d.2.2.2.2.1) d.2.2.2.2.2.1) → Calls Tryz.prog 46 #[.map (some b)] w' fun e w'' => ∃ v F, e = .returned v ∧ Own (.sl shLink) w'' w'.heap.size [v] DL F ∧ F.Nodup ∧ Below w'.heap.size w' w'') := fun w' b hm => by
    have h9 := links_dir hp n5 b (n4 + n5) w'
    rw [hall] at h9
    rw [hDL]
    exact h9 hm (by omega)
  rw [← e0, ← e1, ← e2, ← hDL]
  obtain ⟨W0, hW0⟩ : ∃ W0, W0 = w.alloc (.cells #[.int .i64 x0, .int .i64 x1, .int .i64 x2, .slice a3 n3 c3, .slice a4 n4 c4, .slice a5 n5 c5] 33) := ⟨_, rfl⟩
  have bW0 : Below w.heap.size w W0 := by rw [hW0]; exact (Below.refl _ _).alloc (Nat.le_refl _) _
  have hbox : W0.heap[w.heap.size]? = some (.cells #[.int .i64 x0, .int .i64 x1, .int .i64 x2, .slice a3 n3 c3, .slice a4 n4 c4, .slice a5 n5 c5] 33 (0, 0)) := by rw [hW0]; exact heap_alloc_new w _
  have zW0 : W0.heap.size = w.heap.size + 1 := by rw [hW0]; simp
  have HW0 : Hid (W0 = _) := hW0
  have BX : Hid (∀ w', Below W0.heap.size W0 w' → w'.heap[w.heap.size]? = some (.cells #[.int .i64 x0, .int .i64 x1, .int .i64 x2, .slice a3 n3 c3, .slice a4 n4 c4, .slice a5 n5 c5] 33 (0, 0))) := fun w' h' => (h'.block _ (by omega)).trans hbox
  clear hr hs r3 r4 r5 e0 e1 e2 hok hW0 hbox hDL hp l4 l5 hall
  go_enter Tryz.func11, Tryz.ntmps11
  go_wp2_with fail
  rw [← HW0.out]
  refine (qok.out _ bW0).mono ?_
  rintro e w1 ⟨rfl, hb1⟩
  have i1 := BX.out w1 hb1
  have b1 := bW0.trans (hb1.mono bW0.size)
  have y4 := box_cell (j := 4) i1 rfl
  have y5 := box_cell (j := 5) i1 rfl
  clear i1 hb1
  go_wp2_with fail
  refine (qdir.out _ b1).mono ?_
  rintro e w2 ⟨rfl, hm2, hb2⟩
  have b2 := b1.trans (hb2.mono b1.size)
  have q3 : Hid (Calls Tryz.prog 46 #[.map (some w1.heap.size)] w2 fun e w'' => ∃ v F, e = .returned v ∧ Own (.sl shLink) w'' w2.heap.size [v] DL F ∧ F.Nodup ∧ Below w2.heap.size w2 w'') := qlk.out w2 _ hm2
  clear hb2 y4 y5 hm2
  go_wp2_with fail
  refine q3.out.mono ?_
  rintro e w3 ⟨v, F, rfl, ho, hnd, hb3⟩
  have b3 := b2.trans (hb3.mono b2.size)
  have HO : Hid (Own (.sl shLink) w3 w.heap.size [v] DL F) := ho.base b2.size
  clear hb3 ho q3
  go_wp2
  go_ret
  exact ⟨v, F, rfl, HO.out, hnd, b3⟩

end Go.Proofs.YtkjnbjohicgooaaGreat

/- CalmI: DiskCalm of the program. By program (calmgen2.py). -/
namespace Go.Proofs.YtkjnbjohicgooaaGreat
open Go.RowKit
set_option linter.unusedVariables false
set_option maxRecDepth 100000
set_option linter.unusedSimpArgs false

/-- A node whose content is safe. -/
def calmN (x : NodeD) : NodeD := (x.1, x.2.1, x.2.1, ())
/-- The nodes that a list of links names. -/
def keepN (kl : List LinkD) (nd : List NodeD) : List NodeD := nd.filter fun x => hasN (idsK kl) x.1
theorem keepP_snd (kl : List LinkD) (P : List (List Value × NodeD)) : (keepP kl P).map Prod.snd = keepN kl (P.map Prod.snd) := by
  unfold keepP keepN
  rw [List.filter_map]
  rfl

/-- What DiskCalm makes of a right disk. -/
def calmD (d : shDisk.D) : shDisk.D := (d.1, d.2.1, d.2.2.1, (keepN (dirL d.2.2.2.2.1 d.2.2.2.2.2.1) d.2.2.2.1).map calmN, dirL d.2.2.2.2.1 d.2.2.2.2.2.1, ([] : List TurnD), ())

theorem node_body {w : World} {c : List Value} {x : NodeD} (h : Reads shNode w c x) : ∃ p1 m1 k1 p2 m2 k2, c = [.int .i64 x.1, .slice p1 m1 k1, .slice p2 m2 k2] ∧ Reads (.sl .u8) w [.slice p1 m1 k1] x.2.1 := by
  obtain ⟨p1, m1, k1, p2, m2, k2, e, r1, r2⟩ := open_Node h
  exact ⟨p1, m1, k1, p2, m2, k2, e, r1⟩

theorem node_len {d : shDisk.D} (h : shDisk.sz d ≤ 1048576) {nd : List NodeD} (hnd : nd = d.2.2.2.1) {x : NodeD} (hx : x ∈ nd) : List.length (α := Int) x.2.1 ≤ 1048576 := by
  obtain ⟨i, hi, rfl⟩ := List.mem_iff_getElem.1 hx
  rw [sz_Disk, ← hnd] at h
  have h2 := sz_elem shNode nd i _ (List.getElem?_eq_getElem hi)
  have h3 : List.length (α := Int) (nd[i]).2.1 ≤ shNode.sz (nd[i]) := (sz_len _).1
  have h4 : Sh.sz (.sl shNode) nd = List.length (α := NodeD) nd + (List.map shNode.sz nd).sum := rfl
  have h5 : shNode.sz (nd[i]) ≤ (List.map shNode.sz nd).sum := h2
  omega

set_option maxRecDepth 100000 in
set_option maxHeartbeats 2000000 in
theorem implCalm_bad (cs : List Value) (d : shDisk.D) (w : World) (hr : Reads shDisk w cs d) (hs : shDisk.sz d ≤ 1048576) (hok : implOkB d = false) :
    Calls Tryz.prog 30 #[.agg cs.toArray] w fun e w' => e = .returned (.tuple #[.agg #[.int .i64 0, .int .i64 0, .int .i64 0, .slice none 0 0, .slice none 0 0, .slice none 0 0], .bool false]) ∧ Below w.heap.size w w' := by
  obtain ⟨a3, n3, c3, a4, n4, c4, a5, n5, c5, rfl, r3, r4, r5⟩ := open_Disk hr
  obtain ⟨x0, e0⟩ : ∃ x : Int, x = d.1 := ⟨_, rfl⟩
  obtain ⟨x1, e1⟩ : ∃ x : Int, x = d.2.1 := ⟨_, rfl⟩
  obtain ⟨x2, e2⟩ : ∃ x : Int, x = d.2.2.1 := ⟨_, rfl⟩
  have qok : Hid (∀ w', Below w.heap.size w w' → Calls Tryz.prog 45 #[.agg #[.int .i64 x0, .int .i64 x1, .int .i64 x2, .slice a3 n3 c3, .slice a4 n4 c4, .slice a5 n5 c5]] w' fun e w'' => e = .returned (.bool false) ∧ Below w'.heap.size w' w'') := fun w' h' => by
    rw [e0, e1, e2, ← hok]; exact implOk_ok _ d w' (hr.later h') hs
  rw [← e0, ← e1, ← e2]
  obtain ⟨W0, hW0⟩ : ∃ W0, W0 = (w.alloc (.cells #[.int .i64 x0, .int .i64 x1, .int .i64 x2, .slice a3 n3 c3, .slice a4 n4 c4, .slice a5 n5 c5] 33)).alloc (.cells #[.int .i64 0, .int .i64 0, .int .i64 0, .slice none 0 0, .slice none 0 0, .slice none 0 0] 33) := ⟨_, rfl⟩
  have bW0 : Below w.heap.size w W0 := by rw [hW0]; exact ((Below.refl _ _).alloc (Nat.le_refl _) _).alloc (by simp) _
  have hB : W0.heap[w.heap.size + 1]? = some (.cells #[.int .i64 0, .int .i64 0, .int .i64 0, .slice none 0 0, .slice none 0 0, .slice none 0 0] 33 (0, 0)) := by rw [hW0]; have := heap_alloc_new (w.alloc (.cells #[.int .i64 x0, .int .i64 x1, .int .i64 x2, .slice a3 n3 c3, .slice a4 n4 c4, .slice a5 n5 c5] 33)) (.cells #[.int .i64 0, .int .i64 0, .int .i64 0, .slice none 0 0, .slice none 0 0, .slice none 0 0] 33); simpa using this
  have zW0 : W0.heap.size = w.heap.size + 1 + 1 := by rw [hW0]; simp
  have HW0 : Hid (W0 = _) := hW0
  have HB : Hid _ := hB
  clear hr hs r3 r4 r5 e0 e1 e2 hok hW0 hB
  go_enter Tryz.func30, Tryz.ntmps30
  go_wp2_with fail
  rw [← HW0.out]
  refine (qok.out _ bW0).mono ?_
  rintro e w1 ⟨rfl, hb1⟩
  have b1 := bW0.trans (hb1.mono bW0.size)
  have i1 : w1.heap[w.heap.size + 1]? = some (.cells #[.int .i64 0, .int .i64 0, .int .i64 0, .slice none 0 0, .slice none 0 0, .slice none 0 0] 33 (0, 0)) := (hb1.block _ (by omega)).trans HB.out
  have yr0 : w1.cell? ⟨w.heap.size + 1, 0, none⟩ = some (.int .i64 0) := box_cell i1 rfl
  have yg0 : w1.frozen? ⟨w.heap.size + 1, 0, none⟩ = false := box_frozen i1
  have yr1 : w1.cell? ⟨w.heap.size + 1, 1, none⟩ = some (.int .i64 0) := box_cell i1 rfl
  have yg1 : w1.frozen? ⟨w.heap.size + 1, 1, none⟩ = false := box_frozen i1
  have yr2 : w1.cell? ⟨w.heap.size + 1, 2, none⟩ = some (.int .i64 0) := box_cell i1 rfl
  have yg2 : w1.frozen? ⟨w.heap.size + 1, 2, none⟩ = false := box_frozen i1
  have yr3 : w1.cell? ⟨w.heap.size + 1, 3, none⟩ = some (.slice none 0 0) := box_cell i1 rfl
  have yg3 : w1.frozen? ⟨w.heap.size + 1, 3, none⟩ = false := box_frozen i1
  have yr4 : w1.cell? ⟨w.heap.size + 1, 4, none⟩ = some (.slice none 0 0) := box_cell i1 rfl
  have yg4 : w1.frozen? ⟨w.heap.size + 1, 4, none⟩ = false := box_frozen i1
  have yr5 : w1.cell? ⟨w.heap.size + 1, 5, none⟩ = some (.slice none 0 0) := box_cell i1 rfl
  have yg5 : w1.frozen? ⟨w.heap.size + 1, 5, none⟩ = false := box_frozen i1
  have yz0 : ((w1).setCell ⟨w.heap.size + 1, 0, none⟩ (.int .i64 0)).cell? ⟨w.heap.size + 1, 0, none⟩ = some (.int .i64 0) := World.cell?_setCell_same _ _ _ (by exact yr0)
  have yz1 : (((w1).setCell ⟨w.heap.size + 1, 0, none⟩ (.int .i64 0)).setCell ⟨w.heap.size + 1, 1, none⟩ (.int .i64 0)).cell? ⟨w.heap.size + 1, 1, none⟩ = some (.int .i64 0) := World.cell?_setCell_same _ _ _ (by rw [World.cell?_setCell_other _ _ _ _ (by simp)]; exact yr1)
  have yz2 : ((((w1).setCell ⟨w.heap.size + 1, 0, none⟩ (.int .i64 0)).setCell ⟨w.heap.size + 1, 1, none⟩ (.int .i64 0)).setCell ⟨w.heap.size + 1, 2, none⟩ (.int .i64 0)).cell? ⟨w.heap.size + 1, 2, none⟩ = some (.int .i64 0) := World.cell?_setCell_same _ _ _ (by rw [World.cell?_setCell_other _ _ _ _ (by simp), World.cell?_setCell_other _ _ _ _ (by simp)]; exact yr2)
  have yz3 : (((((w1).setCell ⟨w.heap.size + 1, 0, none⟩ (.int .i64 0)).setCell ⟨w.heap.size + 1, 1, none⟩ (.int .i64 0)).setCell ⟨w.heap.size + 1, 2, none⟩ (.int .i64 0)).setCell ⟨w.heap.size + 1, 3, none⟩ (.slice none 0 0)).cell? ⟨w.heap.size + 1, 3, none⟩ = some (.slice none 0 0) := World.cell?_setCell_same _ _ _ (by rw [World.cell?_setCell_other _ _ _ _ (by simp), World.cell?_setCell_other _ _ _ _ (by simp), World.cell?_setCell_other _ _ _ _ (by simp)]; exact yr3)
  have yz4 : ((((((w1).setCell ⟨w.heap.size + 1, 0, none⟩ (.int .i64 0)).setCell ⟨w.heap.size + 1, 1, none⟩ (.int .i64 0)).setCell ⟨w.heap.size + 1, 2, none⟩ (.int .i64 0)).setCell ⟨w.heap.size + 1, 3, none⟩ (.slice none 0 0)).setCell ⟨w.heap.size + 1, 4, none⟩ (.slice none 0 0)).cell? ⟨w.heap.size + 1, 4, none⟩ = some (.slice none 0 0) := World.cell?_setCell_same _ _ _ (by rw [World.cell?_setCell_other _ _ _ _ (by simp), World.cell?_setCell_other _ _ _ _ (by simp), World.cell?_setCell_other _ _ _ _ (by simp), World.cell?_setCell_other _ _ _ _ (by simp)]; exact yr4)
  have yz5 : (((((((w1).setCell ⟨w.heap.size + 1, 0, none⟩ (.int .i64 0)).setCell ⟨w.heap.size + 1, 1, none⟩ (.int .i64 0)).setCell ⟨w.heap.size + 1, 2, none⟩ (.int .i64 0)).setCell ⟨w.heap.size + 1, 3, none⟩ (.slice none 0 0)).setCell ⟨w.heap.size + 1, 4, none⟩ (.slice none 0 0)).setCell ⟨w.heap.size + 1, 5, none⟩ (.slice none 0 0)).cell? ⟨w.heap.size + 1, 5, none⟩ = some (.slice none 0 0) := World.cell?_setCell_same _ _ _ (by rw [World.cell?_setCell_other _ _ _ _ (by simp), World.cell?_setCell_other _ _ _ _ (by simp), World.cell?_setCell_other _ _ _ _ (by simp), World.cell?_setCell_other _ _ _ _ (by simp), World.cell?_setCell_other _ _ _ _ (by simp)]; exact yr5)
  have HB1 : Hid (Below w.heap.size w w1) := b1
  clear i1 hb1 b1
  go_wp2
  (try simp only [Exit.inBlock, Exit.then])
  refine bodyPost_ret (by simp [results, Tryz.results30, go_sem, yz0, yz1, yz2, yz3, yz4, yz5]; try rfl) rfl ?_
  exact ⟨rfl, ((((((HB1.out.setCell (p := ⟨w.heap.size + 1, 0, none⟩) (by simp <;> omega) _).setCell (p := ⟨w.heap.size + 1, 1, none⟩) (by simp <;> omega) _).setCell (p := ⟨w.heap.size + 1, 2, none⟩) (by simp <;> omega) _).setCell (p := ⟨w.heap.size + 1, 3, none⟩) (by simp <;> omega) _).setCell (p := ⟨w.heap.size + 1, 4, none⟩) (by simp <;> omega) _).setCell (p := ⟨w.heap.size + 1, 5, none⟩) (by simp <;> omega) _)⟩

set_option maxRecDepth 100000 in
set_option maxHeartbeats 16000000 in
theorem implCalm_good (cs : List Value) (d : shDisk.D) (w : World) (hr : Reads shDisk w cs d) (hs : shDisk.sz d ≤ 1048576) (hok : implOkB d = true) :
    Calls Tryz.prog 30 #[.agg cs.toArray] w fun e w' => ∃ cs' F, e = .returned (.tuple #[.agg cs'.toArray, .bool true]) ∧ Own shDisk w' w.heap.size cs' (calmD d) F ∧ F.Nodup ∧ Below w.heap.size w w' := by
  have hp : specOkP d := (ok_same d).2 hok
  obtain ⟨a3, n3, c3, a4, n4, c4, a5, n5, c5, rfl, r3, r4, r5⟩ := open_Disk hr
  obtain ⟨x0, e0⟩ : ∃ x : Int, x = d.1 := ⟨_, rfl⟩
  obtain ⟨x1, e1⟩ : ∃ x : Int, x = d.2.1 := ⟨_, rfl⟩
  obtain ⟨x2, e2⟩ : ∃ x : Int, x = d.2.2.1 := ⟨_, rfl⟩
  obtain ⟨DL, hDL⟩ : ∃ l : List LinkD, l = dirL d.2.2.2.2.1 d.2.2.2.2.2.1 := ⟨_, rfl⟩
  obtain ⟨P, hPs, hPr, hPe⟩ := rowP_reads r3
  have hPl : P.length = n3 := by
    have h1 := congrArg List.length hPs
    rw [List.length_map] at h1
    exact h1.trans (reads_len r3).1
  obtain ⟨Q, hQ⟩ : ∃ Q, Q = keepP DL P := ⟨_, rfl⟩
  obtain ⟨M, hM⟩ : ∃ M, M = Q.length := ⟨_, rfl⟩
  have l3 : List.length (α := NodeD) d.2.2.2.1 = n3 := (reads_len r3).1
  have l4 : List.length (α := LinkD) d.2.2.2.2.1 = n4 := (reads_len r4).1
  have l5 : List.length (α := TurnD) d.2.2.2.2.2.1 = n5 := (reads_len r5).1
  have lims := hp.1
  have h8' : List.length (α := NodeD) d.2.2.2.1 ≤ 8 := lims.2.2.2.2.2.2.1
  have h9' : List.length (α := LinkD) d.2.2.2.2.1 ≤ 8 := lims.2.2.2.2.2.2.2.1
  have h40' : List.length (α := TurnD) d.2.2.2.2.2.1 ≤ 40 := lims.2.2.2.2.2.2.2.2
  have s45 : n4 + n5 ≤ 48 := by omega
  have s3 : n3 ≤ 8 := by omega
  have hM8 : M ≤ 8 := by
    have := keepP_len DL P
    rw [hM, hQ]; omega
  have hall : List.take (α := TurnD) n5 d.2.2.2.2.2.1 = d.2.2.2.2.2.1 := List.take_of_length_le (by rw [l5]; exact Nat.le_refl _)
  have hQmem : ∀ p ∈ Q, Reads shNode w p.1 p.2 ∧ List.length (α := Int) p.2.2.1 ≤ 1048576 := fun p hp' => by
    rw [hQ] at hp'
    have hpP : p ∈ P := (List.mem_filter.1 hp').1
    exact ⟨hPe p hpP, node_len hs hPs (List.mem_map.2 ⟨p, hpP, rfl⟩)⟩
  have hQd : Q.map (fun p => calmN p.2) = (keepN DL d.2.2.2.1).map calmN := by
    have h1 := keepP_snd DL P
    rw [hPs] at h1
    rw [← h1, List.map_map, hQ]; rfl
  have qok : Hid (∀ w', Below w.heap.size w w' → Calls Tryz.prog 45 #[.agg #[.int .i64 x0, .int .i64 x1, .int .i64 x2, .slice a3 n3 c3, .slice a4 n4 c4, .slice a5 n5 c5]] w' fun e w'' => e = .returned (.bool true) ∧ Below w'.heap.size w' w'') := fun w' h' => by
    rw [e0, e1, e2, ← hok]; exact implOk_ok _ d w' (hr.later h') hs
  have qdir : Hid (∀ w', Below w.heap.size w w' → Calls Tryz.prog 47 #[.slice a4 n4 c4, .slice a5 n5 c5] w' fun e w'' => e = .returned (.map (some w'.heap.size)) ∧ MapIs w'' w'.heap.size (n4 + n5) (dirF (List.reverse (α := LinkD) d.2.2.2.2.1) d.2.2.2.2.2.1) ∧ Below w'.heap.size w' w'') := fun w' h' => directory_ok a4 n4 c4 _ a5 n5 c5 _ w' (r4.later h') (r5.later h') (by omega)
  have qlk : Hid (∀ w' b, MapIs w' b (n4 + n5) (dirF (List.reverse (α := LinkD) d.2.2.2.2.1) d.2.2.2.2.2.1) → Calls Tryz.prog 46 #[.map (some b)] w' fun e w'' => ∃ ka kn kc F, e = .returned (.slice ka kn kc) ∧ Own (.sl shLink) w'' w'.heap.size [.slice ka kn kc] DL F ∧ F.Nodup ∧ Below w'.heap.size w' w'') := fun w' b hm => by
    have h9 := links_dir hp n5 b (n4 + n5) w'
    rw [hall] at h9
    rw [hDL]
    refine (h9 hm (by omega)).mono ?_
    rintro e w'' ⟨v, F, rfl, ho, hnd, hb⟩
    obtain ⟨a, c, rfl, _⟩ := own_val ho
    exact ⟨a, _, c, F, rfl, ho, hnd, hb⟩
  have qko : Hid (∀ w' ka kn kc, Below w.heap.size w w' → Reads (.sl shLink) w' [.slice ka kn kc] DL → Calls Tryz.prog 75 #[.agg #[.int .i64 x0, .int .i64 x1, .int .i64 x2, .slice a3 n3 c3, .slice a4 n4 c4, .slice a5 n5 c5], .slice ka kn kc] w' fun e w'' => ∃ va vc, e = .returned (.agg #[.int .i64 x0, .int .i64 x1, .int .i64 x2, .slice va M vc, .slice ka kn kc, .slice none 0 0]) ∧ w''.ownsRow w'.heap.size 93 3 (.slice va M vc) M (Q.map Prod.fst).flatten ∧ Below w'.heap.size w' w'') := fun w' ka kn kc h' hk => by
    have hP' : RowP w' a3 P := fun k hk' => by
      obtain ⟨b, off, p1, m1, k1, p2, m2, k2, ha, hb, hc, c0, c1, c2⟩ := hPr k hk'
      exact ⟨b, off, p1, m1, k1, p2, m2, k2, ha, Nat.lt_of_lt_of_le hb h'.size, hc, (h'.cell hb).trans c0, (h'.cell hb).trans c1, (h'.cell hb).trans c2⟩
    refine (keepOnly_ok x0 x1 x2 a3 n3 c3 a4 n4 c4 a5 n5 c5 ka kn kc DL P w' hPl (by omega) hP' hk).mono ?_
    rintro e w'' ⟨v, rfl, ho, hb⟩
    have ho' : w''.ownsRow w'.heap.size 93 3 v M (Q.map Prod.fst).flatten := by rw [hM, hQ]; exact ho
    obtain ⟨va, vc, rfl⟩ : ∃ a c, v = .slice a M c := by
      rcases ho'.2 with ⟨h1, h2⟩ | ⟨g, cap, cur, hv, _⟩
      · exact ⟨none, 0, by rw [h1, h2]⟩
      · exact ⟨_, _, hv⟩
    exact ⟨va, vc, rfl, ho', hb⟩
  have HQ : Hid (Q.length = M ∧ (∀ p ∈ Q, Reads shNode w p.1 p.2 ∧ List.length (α := Int) p.2.2.1 ≤ 1048576)) := ⟨hM.symm, hQmem⟩
  have HCD : Hid (∀ v vk w' B F3 F4, Own (.sl shNode) w' B [v] (Q.map fun p => calmN p.2) F3 → Own (.sl shLink) w' B [vk] DL F4 → Own shDisk w' B [.int .i64 x0, .int .i64 x1, .int .i64 x2, v, vk, .slice none 0 0] (calmD d) (F3 ++ (F4 ++ ([] ++ [])))) := fun v vk w' B F3 F4 h3 h4 => by
    subst hDL
    rw [e0, e1, e2]
    have h3' : Own (.sl shNode) w' B [v] (List.map calmN (keepN (dirL d.2.2.2.2.1 d.2.2.2.2.2.1) d.2.2.2.1)) F3 := Eq.mp (congrArg (fun z : List NodeD => Own (.sl shNode) w' B [v] z F3) hQd) h3
    exact own_Disk (d := calmD d) h3' h4 (.inl ⟨rfl, rfl, rfl⟩)
  rw [← e0, ← e1, ← e2]
  obtain ⟨W0, hW0⟩ : ∃ W0, W0 = (w.alloc (.cells #[.int .i64 x0, .int .i64 x1, .int .i64 x2, .slice a3 n3 c3, .slice a4 n4 c4, .slice a5 n5 c5] 33)).alloc (.cells #[.int .i64 0, .int .i64 0, .int .i64 0, .slice none 0 0, .slice none 0 0, .slice none 0 0] 33) := ⟨_, rfl⟩
  have bW0 : Below w.heap.size w W0 := by rw [hW0]; exact ((Below.refl _ _).alloc (Nat.le_refl _) _).alloc (by simp) _
  have hA : W0.heap[w.heap.size]? = some (.cells #[.int .i64 x0, .int .i64 x1, .int .i64 x2, .slice a3 n3 c3, .slice a4 n4 c4, .slice a5 n5 c5] 33 (0, 0)) := by rw [hW0, heap_alloc_old _ _ (by simp)]; exact heap_alloc_new w _
  have hB : W0.heap[w.heap.size + 1]? = some (.cells #[.int .i64 0, .int .i64 0, .int .i64 0, .slice none 0 0, .slice none 0 0, .slice none 0 0] 33 (0, 0)) := by rw [hW0]; have := heap_alloc_new (w.alloc (.cells #[.int .i64 x0, .int .i64 x1, .int .i64 x2, .slice a3 n3 c3, .slice a4 n4 c4, .slice a5 n5 c5] 33)) (.cells #[.int .i64 0, .int .i64 0, .int .i64 0, .slice none 0 0, .slice none 0 0, .slice none 0 0] 33); simpa using this
  have zW0 : W0.heap.size = w.heap.size + 1 + 1 := by rw [hW0]; simp
  have HW0 : Hid (W0 = _) := hW0
  have BX : Hid (∀ w', Below W0.heap.size W0 w' → w'.cell? ⟨w.heap.size, 0, none⟩ = some (.int .i64 x0) ∧ w'.cell? ⟨w.heap.size, 1, none⟩ = some (.int .i64 x1) ∧ w'.cell? ⟨w.heap.size, 2, none⟩ = some (.int .i64 x2) ∧ w'.cell? ⟨w.heap.size, 3, none⟩ = some (.slice a3 n3 c3) ∧ w'.cell? ⟨w.heap.size, 4, none⟩ = some (.slice a4 n4 c4) ∧ w'.cell? ⟨w.heap.size, 5, none⟩ = some (.slice a5 n5 c5)) := fun w' h' => by
    have i := (h'.block w.heap.size (by omega)).trans hA
    exact ⟨box_cell i rfl, box_cell i rfl, box_cell i rfl, box_cell i rfl, box_cell i rfl, box_cell i rfl⟩
  have BR : Hid (∀ w', Below W0.heap.size W0 w' → w'.heap[w.heap.size + 1]? = some (.cells #[.int .i64 0, .int .i64 0, .int .i64 0, .slice none 0 0, .slice none 0 0, .slice none 0 0] 33 (0, 0))) := fun w' h' => (h'.block _ (by omega)).trans hB
  clear hr hs r3 r4 r5 e0 e1 e2 hok hp lims hW0 hA hB hDL hPs hPr hPe hPl hQ hM l3 l4 l5 h8' h9' h40' hall hQmem hQd
  go_enter Tryz.func30, Tryz.ntmps30
  go_wp2_with fail
  rw [← HW0.out]
  refine (qok.out _ bW0).mono ?_
  rintro e w1 ⟨rfl, hb1⟩
  have b1 := bW0.trans (hb1.mono bW0.size)
  have d1 : Below W0.heap.size W0 w1 := hb1
  have bD : Below W0.heap.size W0 w1.drew := d1.drew
  obtain ⟨q0, q1, q2, q3, q4, q5⟩ := BX.out w1 d1
  clear hb1
  go_wp2_with fail
  refine Code.wp_mono (Q := fun e a w' => e = .normal ∧ ∃ (b5 : Nat) (ka : Option Addr) (kn kc : Nat) (va : Option Addr) (vc B2 R2 R3 : Nat) (FK : List Nat), a = ⟨#[.agg #[.int .i64 x0, .int .i64 x1, .int .i64 x2, .slice a3 n3 c3, .slice a4 n4 c4, .slice a5 n5 c5], .pointer (some ⟨w.heap.size, 0, none⟩), .pointer (some ⟨w.heap.size + 1, 0, none⟩), .bool false, .pointer (some ⟨B2, 0, none⟩), undef, undef, .agg #[.int .i64 x0, .int .i64 x1, .int .i64 x2, .slice a3 n3 c3, .slice a4 n4 c4, .slice a5 n5 c5], .bool true, .bool false, undef, .agg #[.int .i64 x0, .int .i64 x1, .int .i64 x2, .slice a3 n3 c3, .slice a4 n4 c4, .slice a5 n5 c5], .pointer (some ⟨w.heap.size, 4, none⟩), .slice a4 n4 c4, .pointer (some ⟨w.heap.size, 5, none⟩), .slice a5 n5 c5, .map (some b5), .slice ka kn kc, .agg #[.int .i64 x0, .int .i64 x1, .int .i64 x2, .slice va M vc, .slice ka kn kc, .slice none 0 0], undef, undef, undef, undef, undef, undef, undef, undef, undef, undef, undef, undef, undef, undef, undef, undef, undef, undef, undef], []⟩ ∧ w'.heap[B2]? = some (.cells #[.int .i64 x0, .int .i64 x1, .int .i64 x2, .slice va M vc, .slice ka kn kc, .slice none 0 0] 33 (0, 0)) ∧ Own (.sl shLink) w' R2 [.slice ka kn kc] DL FK ∧ FK.Nodup ∧ (∀ y ∈ FK, R2 ≤ y ∧ y < R3) ∧ w'.ownsRow R3 93 3 (.slice va M vc) M (Q.map Prod.fst).flatten ∧ (∀ y, (Value.slice va M vc).ownBlock = some y → y ≠ B2) ∧ W0.heap.size ≤ R2 ∧ R2 ≤ R3 ∧ B2 < w'.heap.size ∧ W0.heap.size ≤ B2 ∧ w'.heap[w.heap.size + 1]? = some (.cells #[.int .i64 0, .int .i64 0, .int .i64 0, .slice none 0 0, .slice none 0 0, .slice none 0 0] 33 (0, 0)) ∧ Below w.heap.size w w') ?tail ?reg
  case reg =>
    refine wp_region_held_drew (S := fun w' => w'.cell? ⟨w.heap.size, 0, none⟩ = some (.int .i64 x0) ∧ w'.cell? ⟨w.heap.size, 1, none⟩ = some (.int .i64 x1) ∧ w'.cell? ⟨w.heap.size, 2, none⟩ = some (.int .i64 x2) ∧ w'.cell? ⟨w.heap.size, 3, none⟩ = some (.slice a3 n3 c3) ∧ w'.cell? ⟨w.heap.size, 4, none⟩ = some (.slice a4 n4 c4) ∧ w'.cell? ⟨w.heap.size, 5, none⟩ = some (.slice a5 n5 c5)) (by kernel_rfl) (BX.out _ bD) (fun hHeld => ?_)
    refine wpAnyH_take (i := 0) (v := .agg #[.int .i64 x0, .int .i64 x1, .int .i64 x2, .slice a3 n3 c3, .slice a4 n4 c4, .slice a5 n5 c5]) rfl (by kernel_rfl) (by kernel_rfl) (by kernel_rfl) (fun _ _ _ h => by cases h.1) (Or.inl ⟨by kernel_rfl, ?_⟩) (by assumption) ?_
    · intro w9 hSw; (try dsimp only at hSw); go_simp
    simp only [Act.put, List.getElem_toArray, List.getElem_cons_succ, List.getElem_cons_zero, List.setIfInBounds_toArray, List.set_cons_zero, List.set_cons_succ]
    refine wpAnyH_take (i := 1) (v := .pointer (some ⟨w.heap.size, 4, none⟩)) rfl (by kernel_rfl) (by kernel_rfl) (by kernel_rfl) (fun _ _ _ h => by cases h.1) (Or.inl ⟨by kernel_rfl, ?_⟩) (by assumption) ?_
    · intro w9 hSw; (try dsimp only at hSw); go_simp
    simp only [Act.put, List.getElem_toArray, List.getElem_cons_succ, List.getElem_cons_zero, List.setIfInBounds_toArray, List.set_cons_zero, List.set_cons_succ]
    refine wpAnyH_take (i := 2) (v := .slice a4 n4 c4) rfl (by kernel_rfl) (by kernel_rfl) (by kernel_rfl) (fun _ _ _ h => by cases h.1) (Or.inl ⟨by kernel_rfl, ?_⟩) (by assumption) ?_
    · intro w9 hSw; (try dsimp only at hSw); go_simp
    simp only [Act.put, List.getElem_toArray, List.getElem_cons_succ, List.getElem_cons_zero, List.setIfInBounds_toArray, List.set_cons_zero, List.set_cons_succ]
    refine wpAnyH_take (i := 3) (v := .pointer (some ⟨w.heap.size, 5, none⟩)) rfl (by kernel_rfl) (by kernel_rfl) (by kernel_rfl) (fun _ _ _ h => by cases h.1) (Or.inl ⟨by kernel_rfl, ?_⟩) (by assumption) ?_
    · intro w9 hSw; (try dsimp only at hSw); go_simp
    simp only [Act.put, List.getElem_toArray, List.getElem_cons_succ, List.getElem_cons_zero, List.setIfInBounds_toArray, List.set_cons_zero, List.set_cons_succ]
    refine wpAnyH_take (i := 4) (v := .slice a5 n5 c5) rfl (by kernel_rfl) (by kernel_rfl) (by kernel_rfl) (fun _ _ _ h => by cases h.1) (Or.inl ⟨by kernel_rfl, ?_⟩) (by assumption) ?_
    · intro w9 hSw; (try dsimp only at hSw); go_simp
    simp only [Act.put, List.getElem_toArray, List.getElem_cons_succ, List.getElem_cons_zero, List.setIfInBounds_toArray, List.set_cons_zero, List.set_cons_succ]
    refine wpAnyH_ready (rs := [5, 8]) (by kernel_rfl) (by simp) ?_
    refine AllReadyH.cons rfl (fun K hK => ?_) (AllReadyH.cons rfl (fun K hK => ?_) AllReadyH.nil)
    · go_simp
      refine (qdir.out _ (bW0.trans (bD.mono bW0.size))).mono ?_
      rintro e w2 ⟨rfl, hm2, hb2⟩
      have d2 : Below W0.heap.size W0 w2 := bD.trans (hb2.mono bD.size)
      have HM2 : Hid (MapIs w2 w1.drew.heap.size (n4 + n5) (dirF (List.reverse (α := LinkD) d.2.2.2.2.1) d.2.2.2.2.2.1)) := hm2
      clear hm2
      go_wp2_with fail
      refine hK.out _ _ (BX.out w2 d2) (fun hH5 => ?_)
      clear hK
      refine wpAnyH_ready (rs := [6, 8]) (by kernel_rfl) (by simp) ?_
      refine AllReadyH.cons rfl (fun K hK => ?_) (AllReadyH.cons rfl (fun K hK => ?_) AllReadyH.nil)
      · go_simp
        refine (qlk.out _ _ HM2.out).mono ?_
        rintro e w3 ⟨ka, kn, kc, FK, rfl, hok3, hnd3, hb3⟩
        have d3 : Below W0.heap.size W0 w3 := d2.trans (hb3.mono d2.size)
        have HK3 : Hid (Own (.sl shLink) w3 w2.heap.size [.slice ka kn kc] DL FK) := hok3
        have HFL : Hid (∀ y ∈ FK, w2.heap.size ≤ y ∧ y < w3.heap.size) := hok3.lt
        clear hok3
        go_wp2_with fail
        refine hK.out _ _ (BX.out w3 d3) (fun hH6 => ?_)
        clear hK
        refine wpAnyH_ready (rs := [7, 8]) (by kernel_rfl) (by simp) ?_
        refine AllReadyH.cons rfl (fun K hK => ?_) (AllReadyH.cons rfl (fun K hK => ?_) AllReadyH.nil)
        · go_simp
          refine (qko.out _ ka kn kc (bW0.trans (d3.mono bW0.size)) HK3.out.reads).mono ?_
          rintro e w4 ⟨va, vc, rfl, ho4, hb4⟩
          have d4 : Below W0.heap.size W0 w4 := d3.trans (hb4.mono d3.size)
          have HO4 : Hid (w4.ownsRow w3.heap.size 93 3 (.slice va M vc) M (Q.map Prod.fst).flatten) := ho4
          have HRB : Hid (∀ y, (Value.slice va M vc).ownBlock = some y → w3.heap.size ≤ y ∧ y < w4.heap.size) := ho4.lt
          clear ho4
          go_wp2_with fail
          refine hK.out _ _ (BX.out w4 d4) (fun hH7 => ?_)
          clear hK
          refine wpAnyH_ready (rs := [8]) (by kernel_rfl) (by simp) ?_
          refine AllReadyH.cons rfl (fun K hK => ?_) AllReadyH.nil
          go_simp
          obtain ⟨wA, hwA⟩ : ∃ wA, wA = w4.alloc (.cells #[.int .i64 0, .int .i64 0, .int .i64 0, .slice none 0 0, .slice none 0 0, .slice none 0 0] 33) := ⟨_, rfl⟩
          have dA : Below W0.heap.size W0 wA := by rw [hwA]; exact d4.alloc d4.size _
          have iA : wA.heap[w4.heap.size]? = some (.cells #[.int .i64 0, .int .i64 0, .int .i64 0, .slice none 0 0, .slice none 0 0, .slice none 0 0] 33 (0, 0)) := by rw [hwA]; exact heap_alloc_new w4 _
          have ZA : Hid (wA.heap.size = w4.heap.size + 1) := by show _ = _; rw [hwA]; simp
          have bA : Below w4.heap.size w4 wA := by rw [hwA]; exact (Below.refl _ _).alloc (Nat.le_refl _) _
          have zc : W0.heap.size ≤ w4.heap.size := d4.size
          rw [← hwA]
          clear hwA
          refine hK.out _ _ (BX.out _ dA) (fun hHA => ?_)
          clear hK
          refine wpAnyH_ready (rs := [9]) (by kernel_rfl) (by simp) ?_
          refine AllReadyH.cons rfl (fun K hK => ?_) AllReadyH.nil
          have zA := ZA.out
          have z2 := hb2.size
          have z3 := hb3.size
          have z4 := hb4.size
          have zd2 := d2.size
          have zd3 := d3.size
          (try simp at z2)
          have iE := iA
          have p0 : wA.cell? ⟨w4.heap.size, 0, none⟩ = some (.int .i64 0) := box_cell iE rfl
          have r0 : wA.frozen? ⟨w4.heap.size, 0, none⟩ = false := box_frozen iE
          have p1 : wA.cell? ⟨w4.heap.size, 1, none⟩ = some (.int .i64 0) := box_cell iE rfl
          have r1 : wA.frozen? ⟨w4.heap.size, 1, none⟩ = false := box_frozen iE
          have p2 : wA.cell? ⟨w4.heap.size, 2, none⟩ = some (.int .i64 0) := box_cell iE rfl
          have r2 : wA.frozen? ⟨w4.heap.size, 2, none⟩ = false := box_frozen iE
          have p3 : wA.cell? ⟨w4.heap.size, 3, none⟩ = some (.slice none 0 0) := box_cell iE rfl
          have r3 : wA.frozen? ⟨w4.heap.size, 3, none⟩ = false := box_frozen iE
          have p4 : wA.cell? ⟨w4.heap.size, 4, none⟩ = some (.slice none 0 0) := box_cell iE rfl
          have r4 : wA.frozen? ⟨w4.heap.size, 4, none⟩ = false := box_frozen iE
          have p5 : wA.cell? ⟨w4.heap.size, 5, none⟩ = some (.slice none 0 0) := box_cell iE rfl
          have r5 : wA.frozen? ⟨w4.heap.size, 5, none⟩ = false := box_frozen iE
          have bE := bW0.trans (dA.mono bW0.size)
          have hzE := dA.size
          have HZ : Hid (∀ q, q ≠ w4.heap.size → (((((((wA).setCell ⟨w4.heap.size, 0, none⟩ (.int .i64 x0)).setCell ⟨w4.heap.size, 1, none⟩ (.int .i64 x1)).setCell ⟨w4.heap.size, 2, none⟩ (.int .i64 x2)).setCell ⟨w4.heap.size, 3, none⟩ (.slice va M vc)).setCell ⟨w4.heap.size, 4, none⟩ (.slice ka kn kc)).setCell ⟨w4.heap.size, 5, none⟩ (.slice none 0 0)).heap[q]? = wA.heap[q]?) := fun q hq => ((box_other _ hq).trans ((box_other _ hq).trans ((box_other _ hq).trans ((box_other _ hq).trans ((box_other _ hq).trans (box_other _ hq))))))
          have HBE : Hid (Below w.heap.size w (((((((wA).setCell ⟨w4.heap.size, 0, none⟩ (.int .i64 x0)).setCell ⟨w4.heap.size, 1, none⟩ (.int .i64 x1)).setCell ⟨w4.heap.size, 2, none⟩ (.int .i64 x2)).setCell ⟨w4.heap.size, 3, none⟩ (.slice va M vc)).setCell ⟨w4.heap.size, 4, none⟩ (.slice ka kn kc)).setCell ⟨w4.heap.size, 5, none⟩ (.slice none 0 0))) := ((((((bE.setCell (p := ⟨w4.heap.size, 0, none⟩) (by simp <;> omega) (.int .i64 x0)).setCell (p := ⟨w4.heap.size, 1, none⟩) (by simp <;> omega) (.int .i64 x1)).setCell (p := ⟨w4.heap.size, 2, none⟩) (by simp <;> omega) (.int .i64 x2)).setCell (p := ⟨w4.heap.size, 3, none⟩) (by simp <;> omega) (.slice va M vc)).setCell (p := ⟨w4.heap.size, 4, none⟩) (by simp <;> omega) (.slice ka kn kc)).setCell (p := ⟨w4.heap.size, 5, none⟩) (by simp <;> omega) (.slice none 0 0))
          have HIE : Hid ((((((((wA).setCell ⟨w4.heap.size, 0, none⟩ (.int .i64 x0)).setCell ⟨w4.heap.size, 1, none⟩ (.int .i64 x1)).setCell ⟨w4.heap.size, 2, none⟩ (.int .i64 x2)).setCell ⟨w4.heap.size, 3, none⟩ (.slice va M vc)).setCell ⟨w4.heap.size, 4, none⟩ (.slice ka kn kc)).setCell ⟨w4.heap.size, 5, none⟩ (.slice none 0 0)).heap[w4.heap.size]? = some (.cells #[.int .i64 x0, .int .i64 x1, .int .i64 x2, .slice va M vc, .slice ka kn kc, .slice none 0 0] 33 (0, 0))) := box_set _ (box_set _ (box_set _ (box_set _ (box_set _ (box_set _ iE)))))
          have HKE : Hid (Own (.sl shLink) wA w2.heap.size [.slice ka kn kc] DL FK) := ((HK3.out.later hb4).later bA)
          have HOE : Hid (wA.ownsRow w3.heap.size 93 3 (.slice va M vc) M (Q.map Prod.fst).flatten) := (own_later HO4.out bA)
          go_simp
          refine hK.out _ _ (BX.out _ ?_) (fun hHS => ?_)
          · exact ((((((dA.setCell (p := ⟨w4.heap.size, 0, none⟩) (by simp <;> omega) (.int .i64 x0)).setCell (p := ⟨w4.heap.size, 1, none⟩) (by simp <;> omega) (.int .i64 x1)).setCell (p := ⟨w4.heap.size, 2, none⟩) (by simp <;> omega) (.int .i64 x2)).setCell (p := ⟨w4.heap.size, 3, none⟩) (by simp <;> omega) (.slice va M vc)).setCell (p := ⟨w4.heap.size, 4, none⟩) (by simp <;> omega) (.slice ka kn kc)).setCell (p := ⟨w4.heap.size, 5, none⟩) (by simp <;> omega) (.slice none 0 0))
          clear hK
          refine wpAnyH_done (by kernel_rfl) ?_ _
          refine ⟨rfl, _, ka, kn, kc, va, vc, w4.heap.size, w2.heap.size, w3.heap.size, FK, rfl, HIE.out, HKE.out.keep (fun y hy => HZ.out y (by have h1 := HFL.out y hy; omega)), hnd3, (fun y hy => by have h1 := HFL.out y hy; omega), ?_, ?_, by omega, by omega, ?_, by omega, ?_, HBE.out⟩
          · exact own_keepB HOE.out (fun y hy => HZ.out y (by have h1 := HOE.out.lt y hy; have h2 := HRB.out y hy; omega))
          · intro y hy; have h2 := HRB.out y hy; omega
          · simp; omega
          · exact (HZ.out _ (by omega)).trans (BR.out _ dA)
        · go_simp
          obtain ⟨wA, hwA⟩ : ∃ wA, wA = w3.alloc (.cells #[.int .i64 0, .int .i64 0, .int .i64 0, .slice none 0 0, .slice none 0 0, .slice none 0 0] 33) := ⟨_, rfl⟩
          have dA : Below W0.heap.size W0 wA := by rw [hwA]; exact d3.alloc d3.size _
          have iA : wA.heap[w3.heap.size]? = some (.cells #[.int .i64 0, .int .i64 0, .int .i64 0, .slice none 0 0, .slice none 0 0, .slice none 0 0] 33 (0, 0)) := by rw [hwA]; exact heap_alloc_new w3 _
          have ZA : Hid (wA.heap.size = w3.heap.size + 1) := by show _ = _; rw [hwA]; simp
          have bA : Below w3.heap.size w3 wA := by rw [hwA]; exact (Below.refl _ _).alloc (Nat.le_refl _) _
          have zc : W0.heap.size ≤ w3.heap.size := d3.size
          rw [← hwA]
          clear hwA
          refine hK.out _ _ (BX.out _ dA) (fun hHA => ?_)
          clear hK
          refine wpAnyH_ready (rs := [7]) (by kernel_rfl) (by simp) ?_
          refine AllReadyH.cons rfl (fun K hK => ?_) AllReadyH.nil
          go_simp
          refine (qko.out _ ka kn kc (bW0.trans (dA.mono bW0.size)) (HK3.out.later bA).reads).mono ?_
          rintro e w4 ⟨va, vc, rfl, ho4, hb4⟩
          have d4 : Below W0.heap.size W0 w4 := dA.trans (hb4.mono dA.size)
          have HO4 : Hid (w4.ownsRow wA.heap.size 93 3 (.slice va M vc) M (Q.map Prod.fst).flatten) := ho4
          have HRB : Hid (∀ y, (Value.slice va M vc).ownBlock = some y → wA.heap.size ≤ y ∧ y < w4.heap.size) := ho4.lt
          clear ho4
          go_wp2_with fail
          refine hK.out _ _ (BX.out w4 d4) (fun hH7 => ?_)
          clear hK
          refine wpAnyH_ready (rs := [9]) (by kernel_rfl) (by simp) ?_
          refine AllReadyH.cons rfl (fun K hK => ?_) AllReadyH.nil
          have zA := ZA.out
          have z2 := hb2.size
          have z3 := hb3.size
          have z4 := hb4.size
          have zd2 := d2.size
          have zd3 := d3.size
          (try simp at z2)
          have iE : w4.heap[w3.heap.size]? = some (.cells #[.int .i64 0, .int .i64 0, .int .i64 0, .slice none 0 0, .slice none 0 0, .slice none 0 0] 33 (0, 0)) := ((hb4.block _ (by omega)).trans iA)
          have p0 : w4.cell? ⟨w3.heap.size, 0, none⟩ = some (.int .i64 0) := box_cell iE rfl
          have r0 : w4.frozen? ⟨w3.heap.size, 0, none⟩ = false := box_frozen iE
          have p1 : w4.cell? ⟨w3.heap.size, 1, none⟩ = some (.int .i64 0) := box_cell iE rfl
          have r1 : w4.frozen? ⟨w3.heap.size, 1, none⟩ = false := box_frozen iE
          have p2 : w4.cell? ⟨w3.heap.size, 2, none⟩ = some (.int .i64 0) := box_cell iE rfl
          have r2 : w4.frozen? ⟨w3.heap.size, 2, none⟩ = false := box_frozen iE
          have p3 : w4.cell? ⟨w3.heap.size, 3, none⟩ = some (.slice none 0 0) := box_cell iE rfl
          have r3 : w4.frozen? ⟨w3.heap.size, 3, none⟩ = false := box_frozen iE
          have p4 : w4.cell? ⟨w3.heap.size, 4, none⟩ = some (.slice none 0 0) := box_cell iE rfl
          have r4 : w4.frozen? ⟨w3.heap.size, 4, none⟩ = false := box_frozen iE
          have p5 : w4.cell? ⟨w3.heap.size, 5, none⟩ = some (.slice none 0 0) := box_cell iE rfl
          have r5 : w4.frozen? ⟨w3.heap.size, 5, none⟩ = false := box_frozen iE
          have bE := bW0.trans (d4.mono bW0.size)
          have hzE := d4.size
          have HZ : Hid (∀ q, q ≠ w3.heap.size → (((((((w4).setCell ⟨w3.heap.size, 0, none⟩ (.int .i64 x0)).setCell ⟨w3.heap.size, 1, none⟩ (.int .i64 x1)).setCell ⟨w3.heap.size, 2, none⟩ (.int .i64 x2)).setCell ⟨w3.heap.size, 3, none⟩ (.slice va M vc)).setCell ⟨w3.heap.size, 4, none⟩ (.slice ka kn kc)).setCell ⟨w3.heap.size, 5, none⟩ (.slice none 0 0)).heap[q]? = w4.heap[q]?) := fun q hq => ((box_other _ hq).trans ((box_other _ hq).trans ((box_other _ hq).trans ((box_other _ hq).trans ((box_other _ hq).trans (box_other _ hq))))))
          have HBE : Hid (Below w.heap.size w (((((((w4).setCell ⟨w3.heap.size, 0, none⟩ (.int .i64 x0)).setCell ⟨w3.heap.size, 1, none⟩ (.int .i64 x1)).setCell ⟨w3.heap.size, 2, none⟩ (.int .i64 x2)).setCell ⟨w3.heap.size, 3, none⟩ (.slice va M vc)).setCell ⟨w3.heap.size, 4, none⟩ (.slice ka kn kc)).setCell ⟨w3.heap.size, 5, none⟩ (.slice none 0 0))) := ((((((bE.setCell (p := ⟨w3.heap.size, 0, none⟩) (by simp <;> omega) (.int .i64 x0)).setCell (p := ⟨w3.heap.size, 1, none⟩) (by simp <;> omega) (.int .i64 x1)).setCell (p := ⟨w3.heap.size, 2, none⟩) (by simp <;> omega) (.int .i64 x2)).setCell (p := ⟨w3.heap.size, 3, none⟩) (by simp <;> omega) (.slice va M vc)).setCell (p := ⟨w3.heap.size, 4, none⟩) (by simp <;> omega) (.slice ka kn kc)).setCell (p := ⟨w3.heap.size, 5, none⟩) (by simp <;> omega) (.slice none 0 0))
          have HIE : Hid ((((((((w4).setCell ⟨w3.heap.size, 0, none⟩ (.int .i64 x0)).setCell ⟨w3.heap.size, 1, none⟩ (.int .i64 x1)).setCell ⟨w3.heap.size, 2, none⟩ (.int .i64 x2)).setCell ⟨w3.heap.size, 3, none⟩ (.slice va M vc)).setCell ⟨w3.heap.size, 4, none⟩ (.slice ka kn kc)).setCell ⟨w3.heap.size, 5, none⟩ (.slice none 0 0)).heap[w3.heap.size]? = some (.cells #[.int .i64 x0, .int .i64 x1, .int .i64 x2, .slice va M vc, .slice ka kn kc, .slice none 0 0] 33 (0, 0))) := box_set _ (box_set _ (box_set _ (box_set _ (box_set _ (box_set _ iE)))))
          have HKE : Hid (Own (.sl shLink) w4 w2.heap.size [.slice ka kn kc] DL FK) := ((HK3.out.later bA).later hb4)
          have HOE : Hid (w4.ownsRow wA.heap.size 93 3 (.slice va M vc) M (Q.map Prod.fst).flatten) := HO4.out
          go_simp
          refine hK.out _ _ (BX.out _ ?_) (fun hHS => ?_)
          · exact ((((((d4.setCell (p := ⟨w3.heap.size, 0, none⟩) (by simp <;> omega) (.int .i64 x0)).setCell (p := ⟨w3.heap.size, 1, none⟩) (by simp <;> omega) (.int .i64 x1)).setCell (p := ⟨w3.heap.size, 2, none⟩) (by simp <;> omega) (.int .i64 x2)).setCell (p := ⟨w3.heap.size, 3, none⟩) (by simp <;> omega) (.slice va M vc)).setCell (p := ⟨w3.heap.size, 4, none⟩) (by simp <;> omega) (.slice ka kn kc)).setCell (p := ⟨w3.heap.size, 5, none⟩) (by simp <;> omega) (.slice none 0 0))
          clear hK
          refine wpAnyH_done (by kernel_rfl) ?_ _
          refine ⟨rfl, _, ka, kn, kc, va, vc, w3.heap.size, w2.heap.size, wA.heap.size, FK, rfl, HIE.out, HKE.out.keep (fun y hy => HZ.out y (by have h1 := HFL.out y hy; omega)), hnd3, (fun y hy => by have h1 := HFL.out y hy; omega), ?_, ?_, by omega, by omega, ?_, by omega, ?_, HBE.out⟩
          · exact own_keepB HOE.out (fun y hy => HZ.out y (by have h1 := HOE.out.lt y hy; have h2 := HRB.out y hy; omega))
          · intro y hy; have h2 := HRB.out y hy; omega
          · simp; omega
          · exact (HZ.out _ (by omega)).trans (BR.out _ d4)
      · go_simp
        obtain ⟨wA, hwA⟩ : ∃ wA, wA = w2.alloc (.cells #[.int .i64 0, .int .i64 0, .int .i64 0, .slice none 0 0, .slice none 0 0, .slice none 0 0] 33) := ⟨_, rfl⟩
        have dA : Below W0.heap.size W0 wA := by rw [hwA]; exact d2.alloc d2.size _
        have iA : wA.heap[w2.heap.size]? = some (.cells #[.int .i64 0, .int .i64 0, .int .i64 0, .slice none 0 0, .slice none 0 0, .slice none 0 0] 33 (0, 0)) := by rw [hwA]; exact heap_alloc_new w2 _
        have ZA : Hid (wA.heap.size = w2.heap.size + 1) := by show _ = _; rw [hwA]; simp
        have bA : Below w2.heap.size w2 wA := by rw [hwA]; exact (Below.refl _ _).alloc (Nat.le_refl _) _
        have zc : W0.heap.size ≤ w2.heap.size := d2.size
        rw [← hwA]
        clear hwA
        refine hK.out _ _ (BX.out _ dA) (fun hHA => ?_)
        clear hK
        refine wpAnyH_ready (rs := [6]) (by kernel_rfl) (by simp) ?_
        refine AllReadyH.cons rfl (fun K hK => ?_) AllReadyH.nil
        go_simp
        refine (qlk.out _ _ (HM2.out.later bA)).mono ?_
        rintro e w3 ⟨ka, kn, kc, FK, rfl, hok3, hnd3, hb3⟩
        have d3 : Below W0.heap.size W0 w3 := dA.trans (hb3.mono dA.size)
        have HK3 : Hid (Own (.sl shLink) w3 wA.heap.size [.slice ka kn kc] DL FK) := hok3
        have HFL : Hid (∀ y ∈ FK, wA.heap.size ≤ y ∧ y < w3.heap.size) := hok3.lt
        clear hok3
        go_wp2_with fail
        refine hK.out _ _ (BX.out w3 d3) (fun hH6 => ?_)
        clear hK
        refine wpAnyH_ready (rs := [7]) (by kernel_rfl) (by simp) ?_
        refine AllReadyH.cons rfl (fun K hK => ?_) AllReadyH.nil
        go_simp
        refine (qko.out _ ka kn kc (bW0.trans (d3.mono bW0.size)) HK3.out.reads).mono ?_
        rintro e w4 ⟨va, vc, rfl, ho4, hb4⟩
        have d4 : Below W0.heap.size W0 w4 := d3.trans (hb4.mono d3.size)
        have HO4 : Hid (w4.ownsRow w3.heap.size 93 3 (.slice va M vc) M (Q.map Prod.fst).flatten) := ho4
        have HRB : Hid (∀ y, (Value.slice va M vc).ownBlock = some y → w3.heap.size ≤ y ∧ y < w4.heap.size) := ho4.lt
        clear ho4
        go_wp2_with fail
        refine hK.out _ _ (BX.out w4 d4) (fun hH7 => ?_)
        clear hK
        refine wpAnyH_ready (rs := [9]) (by kernel_rfl) (by simp) ?_
        refine AllReadyH.cons rfl (fun K hK => ?_) AllReadyH.nil
        have zA := ZA.out
        have z2 := hb2.size
        have z3 := hb3.size
        have z4 := hb4.size
        have zd2 := d2.size
        have zd3 := d3.size
        (try simp at z2)
        have iE : w4.heap[w2.heap.size]? = some (.cells #[.int .i64 0, .int .i64 0, .int .i64 0, .slice none 0 0, .slice none 0 0, .slice none 0 0] 33 (0, 0)) := ((hb4.block _ (by omega)).trans ((hb3.block _ (by omega)).trans iA))
        have p0 : w4.cell? ⟨w2.heap.size, 0, none⟩ = some (.int .i64 0) := box_cell iE rfl
        have r0 : w4.frozen? ⟨w2.heap.size, 0, none⟩ = false := box_frozen iE
        have p1 : w4.cell? ⟨w2.heap.size, 1, none⟩ = some (.int .i64 0) := box_cell iE rfl
        have r1 : w4.frozen? ⟨w2.heap.size, 1, none⟩ = false := box_frozen iE
        have p2 : w4.cell? ⟨w2.heap.size, 2, none⟩ = some (.int .i64 0) := box_cell iE rfl
        have r2 : w4.frozen? ⟨w2.heap.size, 2, none⟩ = false := box_frozen iE
        have p3 : w4.cell? ⟨w2.heap.size, 3, none⟩ = some (.slice none 0 0) := box_cell iE rfl
        have r3 : w4.frozen? ⟨w2.heap.size, 3, none⟩ = false := box_frozen iE
        have p4 : w4.cell? ⟨w2.heap.size, 4, none⟩ = some (.slice none 0 0) := box_cell iE rfl
        have r4 : w4.frozen? ⟨w2.heap.size, 4, none⟩ = false := box_frozen iE
        have p5 : w4.cell? ⟨w2.heap.size, 5, none⟩ = some (.slice none 0 0) := box_cell iE rfl
        have r5 : w4.frozen? ⟨w2.heap.size, 5, none⟩ = false := box_frozen iE
        have bE := bW0.trans (d4.mono bW0.size)
        have hzE := d4.size
        have HZ : Hid (∀ q, q ≠ w2.heap.size → (((((((w4).setCell ⟨w2.heap.size, 0, none⟩ (.int .i64 x0)).setCell ⟨w2.heap.size, 1, none⟩ (.int .i64 x1)).setCell ⟨w2.heap.size, 2, none⟩ (.int .i64 x2)).setCell ⟨w2.heap.size, 3, none⟩ (.slice va M vc)).setCell ⟨w2.heap.size, 4, none⟩ (.slice ka kn kc)).setCell ⟨w2.heap.size, 5, none⟩ (.slice none 0 0)).heap[q]? = w4.heap[q]?) := fun q hq => ((box_other _ hq).trans ((box_other _ hq).trans ((box_other _ hq).trans ((box_other _ hq).trans ((box_other _ hq).trans (box_other _ hq))))))
        have HBE : Hid (Below w.heap.size w (((((((w4).setCell ⟨w2.heap.size, 0, none⟩ (.int .i64 x0)).setCell ⟨w2.heap.size, 1, none⟩ (.int .i64 x1)).setCell ⟨w2.heap.size, 2, none⟩ (.int .i64 x2)).setCell ⟨w2.heap.size, 3, none⟩ (.slice va M vc)).setCell ⟨w2.heap.size, 4, none⟩ (.slice ka kn kc)).setCell ⟨w2.heap.size, 5, none⟩ (.slice none 0 0))) := ((((((bE.setCell (p := ⟨w2.heap.size, 0, none⟩) (by simp <;> omega) (.int .i64 x0)).setCell (p := ⟨w2.heap.size, 1, none⟩) (by simp <;> omega) (.int .i64 x1)).setCell (p := ⟨w2.heap.size, 2, none⟩) (by simp <;> omega) (.int .i64 x2)).setCell (p := ⟨w2.heap.size, 3, none⟩) (by simp <;> omega) (.slice va M vc)).setCell (p := ⟨w2.heap.size, 4, none⟩) (by simp <;> omega) (.slice ka kn kc)).setCell (p := ⟨w2.heap.size, 5, none⟩) (by simp <;> omega) (.slice none 0 0))
        have HIE : Hid ((((((((w4).setCell ⟨w2.heap.size, 0, none⟩ (.int .i64 x0)).setCell ⟨w2.heap.size, 1, none⟩ (.int .i64 x1)).setCell ⟨w2.heap.size, 2, none⟩ (.int .i64 x2)).setCell ⟨w2.heap.size, 3, none⟩ (.slice va M vc)).setCell ⟨w2.heap.size, 4, none⟩ (.slice ka kn kc)).setCell ⟨w2.heap.size, 5, none⟩ (.slice none 0 0)).heap[w2.heap.size]? = some (.cells #[.int .i64 x0, .int .i64 x1, .int .i64 x2, .slice va M vc, .slice ka kn kc, .slice none 0 0] 33 (0, 0))) := box_set _ (box_set _ (box_set _ (box_set _ (box_set _ (box_set _ iE)))))
        have HKE : Hid (Own (.sl shLink) w4 wA.heap.size [.slice ka kn kc] DL FK) := HK3.out.later hb4
        have HOE : Hid (w4.ownsRow w3.heap.size 93 3 (.slice va M vc) M (Q.map Prod.fst).flatten) := HO4.out
        go_simp
        refine hK.out _ _ (BX.out _ ?_) (fun hHS => ?_)
        · exact ((((((d4.setCell (p := ⟨w2.heap.size, 0, none⟩) (by simp <;> omega) (.int .i64 x0)).setCell (p := ⟨w2.heap.size, 1, none⟩) (by simp <;> omega) (.int .i64 x1)).setCell (p := ⟨w2.heap.size, 2, none⟩) (by simp <;> omega) (.int .i64 x2)).setCell (p := ⟨w2.heap.size, 3, none⟩) (by simp <;> omega) (.slice va M vc)).setCell (p := ⟨w2.heap.size, 4, none⟩) (by simp <;> omega) (.slice ka kn kc)).setCell (p := ⟨w2.heap.size, 5, none⟩) (by simp <;> omega) (.slice none 0 0))
        clear hK
        refine wpAnyH_done (by kernel_rfl) ?_ _
        refine ⟨rfl, _, ka, kn, kc, va, vc, w2.heap.size, wA.heap.size, w3.heap.size, FK, rfl, HIE.out, HKE.out.keep (fun y hy => HZ.out y (by have h1 := HFL.out y hy; omega)), hnd3, (fun y hy => by have h1 := HFL.out y hy; omega), ?_, ?_, by omega, by omega, ?_, by omega, ?_, HBE.out⟩
        · exact own_keepB HOE.out (fun y hy => HZ.out y (by have h1 := HOE.out.lt y hy; have h2 := HRB.out y hy; omega))
        · intro y hy; have h2 := HRB.out y hy; omega
        · simp; omega
        · exact (HZ.out _ (by omega)).trans (BR.out _ d4)
    · go_simp
      rw [← World.alloc_drew]
      obtain ⟨wA, hwA⟩ : ∃ wA, wA = w1.drew.alloc (.cells #[.int .i64 0, .int .i64 0, .int .i64 0, .slice none 0 0, .slice none 0 0, .slice none 0 0] 33) := ⟨_, rfl⟩
      have dA : Below W0.heap.size W0 wA := by rw [hwA]; exact bD.alloc bD.size _
      have iA : wA.heap[w1.heap.size]? = some (.cells #[.int .i64 0, .int .i64 0, .int .i64 0, .slice none 0 0, .slice none 0 0, .slice none 0 0] 33 (0, 0)) := by rw [hwA]; exact heap_alloc_new w1.drew _
      have ZA : Hid (wA.heap.size = w1.heap.size + 1) := by show _ = _; rw [hwA]; simp
      have bA : Below w1.drew.heap.size w1.drew wA := by rw [hwA]; exact (Below.refl _ _).alloc (Nat.le_refl _) _
      have zc : W0.heap.size ≤ w1.heap.size := bD.size
      rw [← hwA]
      clear hwA
      refine hK.out _ _ (BX.out _ dA) (fun hHA => ?_)
      clear hK
      refine wpAnyH_ready (rs := [5]) (by kernel_rfl) (by simp) ?_
      refine AllReadyH.cons rfl (fun K hK => ?_) AllReadyH.nil
      go_simp
      refine (qdir.out _ (bW0.trans (dA.mono bW0.size))).mono ?_
      rintro e w2 ⟨rfl, hm2, hb2⟩
      have d2 : Below W0.heap.size W0 w2 := dA.trans (hb2.mono dA.size)
      have HM2 : Hid (MapIs w2 wA.heap.size (n4 + n5) (dirF (List.reverse (α := LinkD) d.2.2.2.2.1) d.2.2.2.2.2.1)) := hm2
      clear hm2
      go_wp2_with fail
      refine hK.out _ _ (BX.out w2 d2) (fun hH5 => ?_)
      clear hK
      refine wpAnyH_ready (rs := [6]) (by kernel_rfl) (by simp) ?_
      refine AllReadyH.cons rfl (fun K hK => ?_) AllReadyH.nil
      go_simp
      refine (qlk.out _ _ HM2.out).mono ?_
      rintro e w3 ⟨ka, kn, kc, FK, rfl, hok3, hnd3, hb3⟩
      have d3 : Below W0.heap.size W0 w3 := d2.trans (hb3.mono d2.size)
      have HK3 : Hid (Own (.sl shLink) w3 w2.heap.size [.slice ka kn kc] DL FK) := hok3
      have HFL : Hid (∀ y ∈ FK, w2.heap.size ≤ y ∧ y < w3.heap.size) := hok3.lt
      clear hok3
      go_wp2_with fail
      refine hK.out _ _ (BX.out w3 d3) (fun hH6 => ?_)
      clear hK
      refine wpAnyH_ready (rs := [7]) (by kernel_rfl) (by simp) ?_
      refine AllReadyH.cons rfl (fun K hK => ?_) AllReadyH.nil
      go_simp
      refine (qko.out _ ka kn kc (bW0.trans (d3.mono bW0.size)) HK3.out.reads).mono ?_
      rintro e w4 ⟨va, vc, rfl, ho4, hb4⟩
      have d4 : Below W0.heap.size W0 w4 := d3.trans (hb4.mono d3.size)
      have HO4 : Hid (w4.ownsRow w3.heap.size 93 3 (.slice va M vc) M (Q.map Prod.fst).flatten) := ho4
      have HRB : Hid (∀ y, (Value.slice va M vc).ownBlock = some y → w3.heap.size ≤ y ∧ y < w4.heap.size) := ho4.lt
      clear ho4
      go_wp2_with fail
      refine hK.out _ _ (BX.out w4 d4) (fun hH7 => ?_)
      clear hK
      refine wpAnyH_ready (rs := [9]) (by kernel_rfl) (by simp) ?_
      refine AllReadyH.cons rfl (fun K hK => ?_) AllReadyH.nil
      have zA := ZA.out
      have z2 := hb2.size
      have z3 := hb3.size
      have z4 := hb4.size
      have zd2 := d2.size
      have zd3 := d3.size
      (try simp at z2)
      have iE : w4.heap[w1.heap.size]? = some (.cells #[.int .i64 0, .int .i64 0, .int .i64 0, .slice none 0 0, .slice none 0 0, .slice none 0 0] 33 (0, 0)) := ((hb4.block _ (by omega)).trans ((hb3.block _ (by omega)).trans ((hb2.block _ (by omega)).trans iA)))
      have p0 : w4.cell? ⟨w1.heap.size, 0, none⟩ = some (.int .i64 0) := box_cell iE rfl
      have r0 : w4.frozen? ⟨w1.heap.size, 0, none⟩ = false := box_frozen iE
      have p1 : w4.cell? ⟨w1.heap.size, 1, none⟩ = some (.int .i64 0) := box_cell iE rfl
      have r1 : w4.frozen? ⟨w1.heap.size, 1, none⟩ = false := box_frozen iE
      have p2 : w4.cell? ⟨w1.heap.size, 2, none⟩ = some (.int .i64 0) := box_cell iE rfl
      have r2 : w4.frozen? ⟨w1.heap.size, 2, none⟩ = false := box_frozen iE
      have p3 : w4.cell? ⟨w1.heap.size, 3, none⟩ = some (.slice none 0 0) := box_cell iE rfl
      have r3 : w4.frozen? ⟨w1.heap.size, 3, none⟩ = false := box_frozen iE
      have p4 : w4.cell? ⟨w1.heap.size, 4, none⟩ = some (.slice none 0 0) := box_cell iE rfl
      have r4 : w4.frozen? ⟨w1.heap.size, 4, none⟩ = false := box_frozen iE
      have p5 : w4.cell? ⟨w1.heap.size, 5, none⟩ = some (.slice none 0 0) := box_cell iE rfl
      have r5 : w4.frozen? ⟨w1.heap.size, 5, none⟩ = false := box_frozen iE
      have bE := bW0.trans (d4.mono bW0.size)
      have hzE := d4.size
      have HZ : Hid (∀ q, q ≠ w1.heap.size → (((((((w4).setCell ⟨w1.heap.size, 0, none⟩ (.int .i64 x0)).setCell ⟨w1.heap.size, 1, none⟩ (.int .i64 x1)).setCell ⟨w1.heap.size, 2, none⟩ (.int .i64 x2)).setCell ⟨w1.heap.size, 3, none⟩ (.slice va M vc)).setCell ⟨w1.heap.size, 4, none⟩ (.slice ka kn kc)).setCell ⟨w1.heap.size, 5, none⟩ (.slice none 0 0)).heap[q]? = w4.heap[q]?) := fun q hq => ((box_other _ hq).trans ((box_other _ hq).trans ((box_other _ hq).trans ((box_other _ hq).trans ((box_other _ hq).trans (box_other _ hq))))))
      have HBE : Hid (Below w.heap.size w (((((((w4).setCell ⟨w1.heap.size, 0, none⟩ (.int .i64 x0)).setCell ⟨w1.heap.size, 1, none⟩ (.int .i64 x1)).setCell ⟨w1.heap.size, 2, none⟩ (.int .i64 x2)).setCell ⟨w1.heap.size, 3, none⟩ (.slice va M vc)).setCell ⟨w1.heap.size, 4, none⟩ (.slice ka kn kc)).setCell ⟨w1.heap.size, 5, none⟩ (.slice none 0 0))) := ((((((bE.setCell (p := ⟨w1.heap.size, 0, none⟩) (by simp <;> omega) (.int .i64 x0)).setCell (p := ⟨w1.heap.size, 1, none⟩) (by simp <;> omega) (.int .i64 x1)).setCell (p := ⟨w1.heap.size, 2, none⟩) (by simp <;> omega) (.int .i64 x2)).setCell (p := ⟨w1.heap.size, 3, none⟩) (by simp <;> omega) (.slice va M vc)).setCell (p := ⟨w1.heap.size, 4, none⟩) (by simp <;> omega) (.slice ka kn kc)).setCell (p := ⟨w1.heap.size, 5, none⟩) (by simp <;> omega) (.slice none 0 0))
      have HIE : Hid ((((((((w4).setCell ⟨w1.heap.size, 0, none⟩ (.int .i64 x0)).setCell ⟨w1.heap.size, 1, none⟩ (.int .i64 x1)).setCell ⟨w1.heap.size, 2, none⟩ (.int .i64 x2)).setCell ⟨w1.heap.size, 3, none⟩ (.slice va M vc)).setCell ⟨w1.heap.size, 4, none⟩ (.slice ka kn kc)).setCell ⟨w1.heap.size, 5, none⟩ (.slice none 0 0)).heap[w1.heap.size]? = some (.cells #[.int .i64 x0, .int .i64 x1, .int .i64 x2, .slice va M vc, .slice ka kn kc, .slice none 0 0] 33 (0, 0))) := box_set _ (box_set _ (box_set _ (box_set _ (box_set _ (box_set _ iE)))))
      have HKE : Hid (Own (.sl shLink) w4 w2.heap.size [.slice ka kn kc] DL FK) := HK3.out.later hb4
      have HOE : Hid (w4.ownsRow w3.heap.size 93 3 (.slice va M vc) M (Q.map Prod.fst).flatten) := HO4.out
      go_simp
      refine hK.out _ _ (BX.out _ ?_) (fun hHS => ?_)
      · exact ((((((d4.setCell (p := ⟨w1.heap.size, 0, none⟩) (by simp <;> omega) (.int .i64 x0)).setCell (p := ⟨w1.heap.size, 1, none⟩) (by simp <;> omega) (.int .i64 x1)).setCell (p := ⟨w1.heap.size, 2, none⟩) (by simp <;> omega) (.int .i64 x2)).setCell (p := ⟨w1.heap.size, 3, none⟩) (by simp <;> omega) (.slice va M vc)).setCell (p := ⟨w1.heap.size, 4, none⟩) (by simp <;> omega) (.slice ka kn kc)).setCell (p := ⟨w1.heap.size, 5, none⟩) (by simp <;> omega) (.slice none 0 0))
      clear hK
      refine wpAnyH_done (by kernel_rfl) ?_ _
      refine ⟨rfl, _, ka, kn, kc, va, vc, w1.heap.size, w2.heap.size, w3.heap.size, FK, rfl, HIE.out, HKE.out.keep (fun y hy => HZ.out y (by have h1 := HFL.out y hy; omega)), hnd3, (fun y hy => by have h1 := HFL.out y hy; omega), ?_, ?_, by omega, by omega, ?_, by omega, ?_, HBE.out⟩
      · exact own_keepB HOE.out (fun y hy => HZ.out y (by have h1 := HOE.out.lt y hy; have h2 := HRB.out y hy; omega))
      · intro y hy; have h2 := HRB.out y hy; omega
      · simp; omega
      · exact (HZ.out _ (by omega)).trans (BR.out _ d4)
  case tail =>
  rintro e a w5 ⟨rfl, b5, ka, kn, kc, va, vc, B2, R2, R3, FK, rfl, hbx, K5, hnd3, hFK, hRow, hgB, hz02, hz23, hB5, hB0, hr5, b5'⟩
  have HFK : Hid (∀ y ∈ FK, R2 ≤ y ∧ y < R3) := hFK
  have HGB : Hid (∀ y, (Value.slice va M vc).ownBlock = some y → y ≠ B2) := hgB
  have c53 : w5.cell? ⟨B2, 3, none⟩ = some (.slice va M vc) := box_cell hbx rfl
  have hlen3 : ∀ x ∈ Q.map Prod.fst, x.length = 3 := fun x hx => by
    obtain ⟨p, hp, rfl⟩ := List.mem_map.1 hx
    exact (HQ.out.2 p hp).1.length
  have A0 : Anew w5 R3 (.slice va M vc) M 0 (Q.map Prod.fst) (Q.map Prod.fst) (Q.map fun p => calmN p.2) [] := Anew.start hRow hlen3 (by rw [List.length_map]; exact HQ.out.1) (by rw [List.length_map]; exact HQ.out.1)
  have HA0 : Hid _ := A0
  have HR5 : Hid (_ ∧ _ ∧ _) := ⟨hr5, hbx, K5⟩
  clear hbx hr5 A0 K5 hlen3 hRow hFK hgB
  (try simp only [Exit.inBlock, Exit.then])
  go_wp2
  go_loopw [22] (fun i wr => ∃ (k : Nat) (Cs : List (List Value)) (Fs : List (List Nat)), k ≤ M ∧ i = .int .i64 k ∧ Anew wr R3 (.slice va M vc) M k Cs (Q.map Prod.fst) (Q.map fun p => calmN p.2) Fs ∧ wr.heap[w.heap.size + 1]? = some (.cells #[.int .i64 0, .int .i64 0, .int .i64 0, .slice none 0 0, .slice none 0 0, .slice none 0 0] 33 (0, 0)) ∧ wr.heap[B2]? = some (.cells #[.int .i64 x0, .int .i64 x1, .int .i64 x2, .slice va M vc, .slice ka kn kc, .slice none 0 0] 33 (0, 0)) ∧ Own (.sl shLink) wr R2 [.slice ka kn kc] DL FK ∧ B2 < wr.heap.size ∧ Below w.heap.size w wr) (fun i _ => M - (intOf i).toNat)
  case atStart => exact ⟨0, _, [], Nat.zero_le _, rfl, HA0.out, HR5.out.1, HR5.out.2.1, HR5.out.2.2, hB5, b5'⟩
  case round =>
    obtain ⟨k, Cs, Fs, hkM, rfl, hA, iR, iO, hK, hsz, hbel⟩ := hrel
    have hbs := hbel.size
    have hb0 : w.heap.size + 1 + 1 ≤ R2 := by omega
    by_cases hlt : k < M
    · obtain ⟨g, rfl⟩ : ∃ g, va = some ⟨g, 0, none⟩ := by
        rcases hA.row.2 with ⟨h1, h2⟩ | ⟨g, cap, cur, hv, _⟩
        · omega
        · simp only [Value.slice.injEq] at hv
          exact ⟨g, hv.1⟩
      have hg := hA.row.lt g rfl
      have hgb : g ≠ B2 := HGB.out g rfl
      have hkQ : k < Q.length := by rw [HQ.out.1]; exact hlt
      obtain ⟨p, hp⟩ : ∃ p, p = Q[k] := ⟨_, rfl⟩
      have hpm : p ∈ Q := by rw [hp]; exact List.getElem_mem hkQ
      obtain ⟨p1, m1, k1, p2, m2, k2, hpc, rb⟩ := node_body ((HQ.out.2 p hpm).1.later hbel)
      have hCk : Cs[k]? = some p.1 := by rw [hA.old k (Nat.le_refl _), List.getElem?_map, List.getElem?_eq_getElem hkQ, ← hp]; rfl
      have hDk : (Q.map fun p => calmN p.2)[k]? = some (calmN p.2) := by rw [List.getElem?_map, List.getElem?_eq_getElem hkQ, ← hp]; rfl
      rw [hpc] at hCk
      obtain ⟨y, hy⟩ : ∃ y, y = p.2.1 := ⟨_, rfl⟩
      obtain ⟨zb, hzb⟩ : ∃ z : List Int, z = p.2.2.1 := ⟨_, rfl⟩
      rw [← hy] at hCk
      have RB : Hid (Reads (.sl .u8) wr [.slice p1 m1 k1] zb ∧ zb.length ≤ 1048576) := ⟨by rw [hzb]; exact rb, by rw [hzb]; exact (HQ.out.2 p hpm).2⟩
      have HDk : Hid ((Q.map fun p => calmN p.2)[k]? = some ((y, zb, zb, ()) : NodeD)) := by show _ = _; rw [hDk, hy, hzb]; rfl
      have g0 : wr.cell? ⟨g, k * 3, none⟩ = some (.int .i64 y) := (row_cells hA.row hA.len3 hCk hA.lenC 0 (by decide)).1
      have g1 : wr.cell? ⟨g, k * 3 + 1, none⟩ = some (.slice p1 m1 k1) := (row_cells hA.row hA.len3 hCk hA.lenC 1 (by decide)).1
      have g2 : wr.cell? ⟨g, k * 3 + 2, none⟩ = some (.slice p2 m2 k2) := (row_cells hA.row hA.len3 hCk hA.lenC 2 (by decide)).1
      have HCk : Hid (Cs[k]? = some [.int .i64 y, .slice p1 m1 k1, .slice p2 m2 k2]) := hCk
      have hkn : (k : Int) < (M : Int) := by omega
      obtain ⟨W6, hW6⟩ : ∃ W6, W6 = wr.alloc (.cells #[.int .i64 y, .slice p1 m1 k1, .slice p2 m2 k2] 93) := ⟨_, rfl⟩
      have b6 : Below wr.heap.size wr W6 := by rw [hW6]; exact (Below.refl _ _).alloc (Nat.le_refl _) _
      have hnb : W6.heap[wr.heap.size]? = some (.cells #[.int .i64 y, .slice p1 m1 k1, .slice p2 m2 k2] 93 (0, 0)) := by rw [hW6]; exact heap_alloc_new wr _
      have z6 : W6.heap.size = wr.heap.size + 1 := by rw [hW6]; simp
      have HW6 : Hid (W6 = _) := hW6
      have BS : Hid (∀ w' : World, w'.heap[B2]? = some (.cells #[.int .i64 x0, .int .i64 x1, .int .i64 x2, .slice (some ⟨g, 0, none⟩) M vc, .slice ka kn kc, .slice none 0 0] 33 (0, 0)) → w'.heap[wr.heap.size]? = some (.cells #[.int .i64 y, .slice p1 m1 k1, .slice p2 m2 k2] 93 (0, 0)) → w'.cell? ⟨B2, 3, none⟩ = some (.slice (some ⟨g, 0, none⟩) M vc) ∧ w'.cell? ⟨wr.heap.size, 0, none⟩ = some (.int .i64 y) ∧ w'.cell? ⟨wr.heap.size, 1, none⟩ = some (.slice p1 m1 k1)) := fun w' h1 h2 => ⟨box_cell h1 rfl, box_cell h2 rfl, box_cell h2 rfl⟩
      have BW : Hid (∀ w', Below W6.heap.size W6 w' → w'.heap[B2]? = some (.cells #[.int .i64 x0, .int .i64 x1, .int .i64 x2, .slice (some ⟨g, 0, none⟩) M vc, .slice ka kn kc, .slice none 0 0] 33 (0, 0)) ∧ w'.heap[wr.heap.size]? = some (.cells #[.int .i64 y, .slice p1 m1 k1, .slice p2 m2 k2] 93 (0, 0)) ∧ w'.heap[w.heap.size + 1]? = some (.cells #[.int .i64 0, .int .i64 0, .int .i64 0, .slice none 0 0, .slice none 0 0, .slice none 0 0] 33 (0, 0))) := fun w' h' => ⟨(h'.block _ (by omega)).trans ((b6.block _ (by omega)).trans iO), (h'.block _ (by omega)).trans hnb, (h'.block _ (by omega)).trans ((b6.block _ (by omega)).trans iR)⟩
      have HAN : Hid (Anew wr R3 (.slice (some ⟨g, 0, none⟩) M vc) M k Cs (Q.map Prod.fst) (Q.map fun p => calmN p.2) Fs) := hA
      have HKK : Hid (Own (.sl shLink) wr R2 [.slice ka kn kc] DL FK) := hK
      have bD6 : Below W6.heap.size W6 W6.drew := (Below.refl _ _).drew
      obtain ⟨s0, s1, s2⟩ := BS.out W6 (BW.out W6 (Below.refl _ _)).1 (BW.out W6 (Below.refl _ _)).2.1
      clear hW6 hnb hCk hDk hpc rb hA iR iO hK hy hzb hp hpm
      go_wp2_with fail
      rw [← HW6.out]
      refine wp_region_held_drew (S := fun w' => w'.cell? ⟨B2, 3, none⟩ = some (.slice (some ⟨g, 0, none⟩) M vc) ∧ w'.cell? ⟨wr.heap.size, 0, none⟩ = some (.int .i64 y) ∧ w'.cell? ⟨wr.heap.size, 1, none⟩ = some (.slice p1 m1 k1)) (by kernel_rfl) (BS.out _ (BW.out _ bD6).1 (BW.out _ bD6).2.1) (fun hHeld => ?_)
      refine wpAnyH_take (i := 0) (v := .pointer (some ⟨B2, 3, none⟩)) rfl (by kernel_rfl) (by kernel_rfl) (by kernel_rfl) (fun _ _ _ h => h) (Or.inl ⟨by kernel_rfl, ?_⟩) (by assumption) ?_
      · intro w9 hSw; (try dsimp only at hSw); go_simp
      simp only [Act.put, List.getElem_toArray, List.getElem_cons_succ, List.getElem_cons_zero, List.setIfInBounds_toArray, List.set_cons_zero, List.set_cons_succ]
      refine wpAnyH_take (i := 1) (v := .slice (some ⟨g, 0, none⟩) M vc) rfl (by kernel_rfl) (by kernel_rfl) (by kernel_rfl) (fun _ _ _ h => h) (Or.inl ⟨by kernel_rfl, ?_⟩) (by assumption) ?_
      · intro w9 hSw; (try dsimp only at hSw); go_simp
      simp only [Act.put, List.getElem_toArray, List.getElem_cons_succ, List.getElem_cons_zero, List.setIfInBounds_toArray, List.set_cons_zero, List.set_cons_succ]
      refine wpAnyH_take (i := 2) (v := .int .i64 (k : Int)) rfl (by kernel_rfl) (by kernel_rfl) (by kernel_rfl) (fun _ _ _ h => h) (Or.inl ⟨by kernel_rfl, ?_⟩) (by assumption) ?_
      · intro w9 hSw; (try dsimp only at hSw); go_simp
      simp only [Act.put, List.getElem_toArray, List.getElem_cons_succ, List.getElem_cons_zero, List.setIfInBounds_toArray, List.set_cons_zero, List.set_cons_succ]
      refine wpAnyH_take (i := 3) (v := .pointer (some ⟨wr.heap.size, 0, none⟩)) rfl (by kernel_rfl) (by kernel_rfl) (by kernel_rfl) (fun _ _ _ h => h) (Or.inl ⟨by kernel_rfl, ?_⟩) (by assumption) ?_
      · intro w9 hSw; (try dsimp only at hSw); go_simp
      simp only [Act.put, List.getElem_toArray, List.getElem_cons_succ, List.getElem_cons_zero, List.setIfInBounds_toArray, List.set_cons_zero, List.set_cons_succ]
      refine wpAnyH_take (i := 4) (v := .int .i64 y) rfl (by kernel_rfl) (by kernel_rfl) (by kernel_rfl) (fun _ _ _ h => h) (Or.inl ⟨by kernel_rfl, ?_⟩) (by assumption) ?_
      · intro w9 hSw; (try dsimp only at hSw); go_simp
      simp only [Act.put, List.getElem_toArray, List.getElem_cons_succ, List.getElem_cons_zero, List.setIfInBounds_toArray, List.set_cons_zero, List.set_cons_succ]
      refine wpAnyH_take (i := 5) (v := .pointer (some ⟨wr.heap.size, 1, none⟩)) rfl (by kernel_rfl) (by kernel_rfl) (by kernel_rfl) (fun _ _ _ h => h) (Or.inl ⟨by kernel_rfl, ?_⟩) (by assumption) ?_
      · intro w9 hSw; (try dsimp only at hSw); go_simp
      simp only [Act.put, List.getElem_toArray, List.getElem_cons_succ, List.getElem_cons_zero, List.setIfInBounds_toArray, List.set_cons_zero, List.set_cons_succ]
      refine wpAnyH_take (i := 6) (v := .slice p1 m1 k1) rfl (by kernel_rfl) (by kernel_rfl) (by kernel_rfl) (fun _ _ _ h => h) (Or.inl ⟨by kernel_rfl, ?_⟩) (by assumption) ?_
      · intro w9 hSw; (try dsimp only at hSw); go_simp
      simp only [Act.put, List.getElem_toArray, List.getElem_cons_succ, List.getElem_cons_zero, List.setIfInBounds_toArray, List.set_cons_zero, List.set_cons_succ]
      refine wpAnyH_ready (rs := [7]) (by kernel_rfl) (by simp) ?_
      refine AllReadyH.cons rfl (fun K hK => ?_) AllReadyH.nil
      go_simp
      refine (settled_ok y (.slice p1 m1 k1) zb _ (RB.out.1.later (b6.trans (bD6.mono b6.size))) (by have := RB.out.2; omega)).mono ?_
      rintro e w7 ⟨u1, l1, t1, u2, l2, t2, f, rfl, ho7, hf7, hb7⟩
      have d7 : Below W6.heap.size W6 w7 := bD6.trans (hb7.mono bD6.size)
      have br7 := b6.trans (d7.mono b6.size)
      have A7 := HAN.out.later br7
      have rc0 := row_cells A7.row A7.len3 HCk.out A7.lenC 0 (by decide)
      have rc1 := row_cells A7.row A7.len3 HCk.out A7.lenC 1 (by decide)
      have rc2 := row_cells A7.row A7.len3 HCk.out A7.lenC 2 (by decide)
      have e0 : w7.cell? ⟨g, k * 3, none⟩ = some (.int .i64 y) := rc0.1
      have f0 : w7.frozen? ⟨g, k * 3, none⟩ = false := rc0.2
      have e1 : w7.cell? ⟨g, k * 3 + 1, none⟩ = some (.slice p1 m1 k1) := rc1.1
      have f1 : w7.frozen? ⟨g, k * 3 + 1, none⟩ = false := rc1.2
      have e2 : w7.cell? ⟨g, k * 3 + 2, none⟩ = some (.slice p2 m2 k2) := rc2.1
      have f2 : w7.frozen? ⟨g, k * 3 + 2, none⟩ = false := rc2.2
      have HL7 : Hid (∀ y ∈ f, W6.heap.size ≤ y) := fun y hy => by have := (ho7.lt y hy).1; simpa using this
      have HA8 : Hid (Anew (((w7.setCell ⟨g, k * 3, none⟩ (.int .i64 y)).setCell ⟨g, k * 3 + 1, none⟩ (.slice u1 l1 t1)).setCell ⟨g, k * 3 + 2, none⟩ (.slice u2 l2 t2)) R3 (.slice (some ⟨g, 0, none⟩) M vc) M (k + 1) (Cs.set k [.int .i64 y, .slice u1 l1 t1, .slice u2 l2 t2]) (Q.map Prod.fst) (Q.map fun p => calmN p.2) (Fs ++ [f])) := A7.step hlt HDk.out (ho7.base (by simp; omega)) hf7 (fun y hy hm => by have h1 := HL7.out y hy; have h2 := (HAN.out.lt y (by simpa [Value.ownBlock] using hm)).2; omega)
      have HK8 : Hid (Own (.sl shLink) (((w7.setCell ⟨g, k * 3, none⟩ (.int .i64 y)).setCell ⟨g, k * 3 + 1, none⟩ (.slice u1 l1 t1)).setCell ⟨g, k * 3 + 2, none⟩ (.slice u2 l2 t2)) R2 [.slice ka kn kc] DL FK) := (HKK.out.later br7).keep fun y hy => by have h1 := (HFK.out y hy).2; exact (box_other _ (by omega)).trans ((box_other _ (by omega)).trans (box_other _ (by omega)))
      have HB8 : Hid (Below w.heap.size w (((w7.setCell ⟨g, k * 3, none⟩ (.int .i64 y)).setCell ⟨g, k * 3 + 1, none⟩ (.slice u1 l1 t1)).setCell ⟨g, k * 3 + 2, none⟩ (.slice u2 l2 t2))) := (((hbel.trans (br7.mono hbs)).setCell (p := ⟨g, k * 3, none⟩) (by simp; omega) _).setCell (p := ⟨g, k * 3 + 1, none⟩) (by simp; omega) _).setCell (p := ⟨g, k * 3 + 2, none⟩) (by simp; omega) _
      have HZ8 : Hid (∀ q, q ≠ g → (((w7.setCell ⟨g, k * 3, none⟩ (.int .i64 y)).setCell ⟨g, k * 3 + 1, none⟩ (.slice u1 l1 t1)).setCell ⟨g, k * 3 + 2, none⟩ (.slice u2 l2 t2)).heap[q]? = w7.heap[q]?) := fun q hq => (box_other _ hq).trans ((box_other _ hq).trans (box_other _ hq))
      have HW7 : Hid _ := BW.out w7 d7
      have zr7 := br7.size
      clear A7 rc0 rc1 rc2 ho7 hb7 hf7 g0 g1 g2
      go_wp2_with fail
      refine hK.out _ _ (BS.out w7 HW7.out.1 HW7.out.2.1) (fun hHeld7 => ?_)
      clear hK
      refine wpAnyH_take (i := 8) (v := .pointer (some ⟨g, k * 3, none⟩)) rfl (by kernel_rfl) (by kernel_rfl) (by kernel_rfl) (fun _ _ _ h => h) (Or.inl ⟨by kernel_rfl, ?_⟩) (by assumption) ?_
      · intro w9 hSw; (try dsimp only at hSw); go_simp
      simp only [Act.put, List.getElem_toArray, List.getElem_cons_succ, List.getElem_cons_zero, List.setIfInBounds_toArray, List.set_cons_zero, List.set_cons_succ]
      refine wpAnyH_ready (rs := [9]) (by kernel_rfl) (by simp) ?_
      refine AllReadyH.cons rfl (fun K hK => ?_) AllReadyH.nil
      go_simp
      refine hK.out _ _ (BS.out _ ((HZ8.out _ (by omega)).trans HW7.out.1) ((HZ8.out _ (by omega)).trans HW7.out.2.1)) (fun hHeld9 => ?_)
      clear hK
      refine wpAnyH_done (by kernel_rfl) ?_ _
      have i8R : (((w7.setCell ⟨g, k * 3, none⟩ (.int .i64 y)).setCell ⟨g, k * 3 + 1, none⟩ (.slice u1 l1 t1)).setCell ⟨g, k * 3 + 2, none⟩ (.slice u2 l2 t2)).heap[w.heap.size + 1]? = _ := (HZ8.out _ (by omega)).trans HW7.out.2.2
      have i8O : (((w7.setCell ⟨g, k * 3, none⟩ (.int .i64 y)).setCell ⟨g, k * 3 + 1, none⟩ (.slice u1 l1 t1)).setCell ⟨g, k * 3 + 2, none⟩ (.slice u2 l2 t2)).heap[B2]? = _ := (HZ8.out _ (by omega)).trans HW7.out.1
      have z8 : B2 < (((w7.setCell ⟨g, k * 3, none⟩ (.int .i64 y)).setCell ⟨g, k * 3 + 1, none⟩ (.slice u1 l1 t1)).setCell ⟨g, k * 3 + 2, none⟩ (.slice u2 l2 t2)).heap.size := by simp; omega
      have HR8 : Hid (_ ∧ _ ∧ _) := ⟨i8R, i8O, z8⟩
      clear i8R i8O z8 e0 f0 e1 f1 e2 f2
      go_wp2
      go_roundw
      case rel => exact ⟨k + 1, _, _, by omega, by go_num, HA8.out, HR8.out.1, HR8.out.2.1, HK8.out, HR8.out.2.2, HB8.out⟩
      case measure => simp [intOf]; omega
    · have e : k = M := by omega
      subst e
      obtain ⟨F3, o3, nd3, hF3⟩ := hA.own
      have L3 : ∀ y ∈ F3, R3 ≤ y := fun y hy => (hA.lt y (hF3 y hy)).1
      have yc0 : wr.cell? ⟨B2, 0, none⟩ = some (.int .i64 x0) := box_cell iO rfl
      have yc1 : wr.cell? ⟨B2, 1, none⟩ = some (.int .i64 x1) := box_cell iO rfl
      have yc2 : wr.cell? ⟨B2, 2, none⟩ = some (.int .i64 x2) := box_cell iO rfl
      have yc3 : wr.cell? ⟨B2, 3, none⟩ = some (.slice va k vc) := box_cell iO rfl
      have yc4 : wr.cell? ⟨B2, 4, none⟩ = some (.slice ka kn kc) := box_cell iO rfl
      have yc5 : wr.cell? ⟨B2, 5, none⟩ = some (.slice none 0 0) := box_cell iO rfl
      have yr0 : wr.cell? ⟨w.heap.size + 1, 0, none⟩ = some (.int .i64 0) := box_cell iR rfl
      have yg0 : wr.frozen? ⟨w.heap.size + 1, 0, none⟩ = false := box_frozen iR
      have yr1 : wr.cell? ⟨w.heap.size + 1, 1, none⟩ = some (.int .i64 0) := box_cell iR rfl
      have yg1 : wr.frozen? ⟨w.heap.size + 1, 1, none⟩ = false := box_frozen iR
      have yr2 : wr.cell? ⟨w.heap.size + 1, 2, none⟩ = some (.int .i64 0) := box_cell iR rfl
      have yg2 : wr.frozen? ⟨w.heap.size + 1, 2, none⟩ = false := box_frozen iR
      have yr3 : wr.cell? ⟨w.heap.size + 1, 3, none⟩ = some (.slice none 0 0) := box_cell iR rfl
      have yg3 : wr.frozen? ⟨w.heap.size + 1, 3, none⟩ = false := box_frozen iR
      have yr4 : wr.cell? ⟨w.heap.size + 1, 4, none⟩ = some (.slice none 0 0) := box_cell iR rfl
      have yg4 : wr.frozen? ⟨w.heap.size + 1, 4, none⟩ = false := box_frozen iR
      have yr5 : wr.cell? ⟨w.heap.size + 1, 5, none⟩ = some (.slice none 0 0) := box_cell iR rfl
      have yg5 : wr.frozen? ⟨w.heap.size + 1, 5, none⟩ = false := box_frozen iR
      have yz0 : ((wr).setCell ⟨w.heap.size + 1, 0, none⟩ (.int .i64 x0)).cell? ⟨w.heap.size + 1, 0, none⟩ = some (.int .i64 x0) := World.cell?_setCell_same _ _ _ (by exact yr0)
      have yz1 : (((wr).setCell ⟨w.heap.size + 1, 0, none⟩ (.int .i64 x0)).setCell ⟨w.heap.size + 1, 1, none⟩ (.int .i64 x1)).cell? ⟨w.heap.size + 1, 1, none⟩ = some (.int .i64 x1) := World.cell?_setCell_same _ _ _ (by rw [World.cell?_setCell_other _ _ _ _ (by simp)]; exact yr1)
      have yz2 : ((((wr).setCell ⟨w.heap.size + 1, 0, none⟩ (.int .i64 x0)).setCell ⟨w.heap.size + 1, 1, none⟩ (.int .i64 x1)).setCell ⟨w.heap.size + 1, 2, none⟩ (.int .i64 x2)).cell? ⟨w.heap.size + 1, 2, none⟩ = some (.int .i64 x2) := World.cell?_setCell_same _ _ _ (by rw [World.cell?_setCell_other _ _ _ _ (by simp), World.cell?_setCell_other _ _ _ _ (by simp)]; exact yr2)
      have yz3 : (((((wr).setCell ⟨w.heap.size + 1, 0, none⟩ (.int .i64 x0)).setCell ⟨w.heap.size + 1, 1, none⟩ (.int .i64 x1)).setCell ⟨w.heap.size + 1, 2, none⟩ (.int .i64 x2)).setCell ⟨w.heap.size + 1, 3, none⟩ (.slice va k vc)).cell? ⟨w.heap.size + 1, 3, none⟩ = some (.slice va k vc) := World.cell?_setCell_same _ _ _ (by rw [World.cell?_setCell_other _ _ _ _ (by simp), World.cell?_setCell_other _ _ _ _ (by simp), World.cell?_setCell_other _ _ _ _ (by simp)]; exact yr3)
      have yz4 : ((((((wr).setCell ⟨w.heap.size + 1, 0, none⟩ (.int .i64 x0)).setCell ⟨w.heap.size + 1, 1, none⟩ (.int .i64 x1)).setCell ⟨w.heap.size + 1, 2, none⟩ (.int .i64 x2)).setCell ⟨w.heap.size + 1, 3, none⟩ (.slice va k vc)).setCell ⟨w.heap.size + 1, 4, none⟩ (.slice ka kn kc)).cell? ⟨w.heap.size + 1, 4, none⟩ = some (.slice ka kn kc) := World.cell?_setCell_same _ _ _ (by rw [World.cell?_setCell_other _ _ _ _ (by simp), World.cell?_setCell_other _ _ _ _ (by simp), World.cell?_setCell_other _ _ _ _ (by simp), World.cell?_setCell_other _ _ _ _ (by simp)]; exact yr4)
      have yz5 : (((((((wr).setCell ⟨w.heap.size + 1, 0, none⟩ (.int .i64 x0)).setCell ⟨w.heap.size + 1, 1, none⟩ (.int .i64 x1)).setCell ⟨w.heap.size + 1, 2, none⟩ (.int .i64 x2)).setCell ⟨w.heap.size + 1, 3, none⟩ (.slice va k vc)).setCell ⟨w.heap.size + 1, 4, none⟩ (.slice ka kn kc)).setCell ⟨w.heap.size + 1, 5, none⟩ (.slice none 0 0)).cell? ⟨w.heap.size + 1, 5, none⟩ = some (.slice none 0 0) := World.cell?_setCell_same _ _ _ (by rw [World.cell?_setCell_other _ _ _ _ (by simp), World.cell?_setCell_other _ _ _ _ (by simp), World.cell?_setCell_other _ _ _ _ (by simp), World.cell?_setCell_other _ _ _ _ (by simp), World.cell?_setCell_other _ _ _ _ (by simp)]; exact yr5)
      have HF : Hid (Own shDisk (((((((wr).setCell ⟨w.heap.size + 1, 0, none⟩ (.int .i64 x0)).setCell ⟨w.heap.size + 1, 1, none⟩ (.int .i64 x1)).setCell ⟨w.heap.size + 1, 2, none⟩ (.int .i64 x2)).setCell ⟨w.heap.size + 1, 3, none⟩ (.slice va k vc)).setCell ⟨w.heap.size + 1, 4, none⟩ (.slice ka kn kc)).setCell ⟨w.heap.size + 1, 5, none⟩ (.slice none 0 0)) w.heap.size [.int .i64 x0, .int .i64 x1, .int .i64 x2, .slice va k vc, .slice ka kn kc, .slice none 0 0] (calmD d) (F3 ++ (FK ++ ([] ++ []))) ∧ (F3 ++ (FK ++ ([] ++ []))).Nodup ∧ Below w.heap.size w (((((((wr).setCell ⟨w.heap.size + 1, 0, none⟩ (.int .i64 x0)).setCell ⟨w.heap.size + 1, 1, none⟩ (.int .i64 x1)).setCell ⟨w.heap.size + 1, 2, none⟩ (.int .i64 x2)).setCell ⟨w.heap.size + 1, 3, none⟩ (.slice va k vc)).setCell ⟨w.heap.size + 1, 4, none⟩ (.slice ka kn kc)).setCell ⟨w.heap.size + 1, 5, none⟩ (.slice none 0 0))) := by
        refine ⟨HCD.out _ _ _ _ _ _ ((o3.keep fun y hy => by have h1 := L3 y hy; exact ((box_other _ (by omega)).trans ((box_other _ (by omega)).trans ((box_other _ (by omega)).trans ((box_other _ (by omega)).trans ((box_other _ (by omega)).trans (box_other _ (by omega)))))))).base (by omega)) ((hK.keep fun y hy => by have h1 := (HFK.out y hy).1; exact ((box_other _ (by omega)).trans ((box_other _ (by omega)).trans ((box_other _ (by omega)).trans ((box_other _ (by omega)).trans ((box_other _ (by omega)).trans (box_other _ (by omega)))))))).base (by omega)), ?_, ((((((hbel.setCell (p := ⟨w.heap.size + 1, 0, none⟩) (by simp <;> omega) (.int .i64 x0)).setCell (p := ⟨w.heap.size + 1, 1, none⟩) (by simp <;> omega) (.int .i64 x1)).setCell (p := ⟨w.heap.size + 1, 2, none⟩) (by simp <;> omega) (.int .i64 x2)).setCell (p := ⟨w.heap.size + 1, 3, none⟩) (by simp <;> omega) (.slice va k vc)).setCell (p := ⟨w.heap.size + 1, 4, none⟩) (by simp <;> omega) (.slice ka kn kc)).setCell (p := ⟨w.heap.size + 1, 5, none⟩) (by simp <;> omega) (.slice none 0 0))⟩
        simp only [List.append_nil]
        refine List.nodup_append.2 ⟨nd3, hnd3, fun y hy z hz e9 => ?_⟩
        subst e9
        have h1 := L3 y hy
        have h2 := (HFK.out y hz).2
        omega
      clear hA iR iO hK o3 nd3 hF3 L3 hbel
      go_wp2
      (try simp only [Exit.inBlock, Exit.then])
      refine bodyPost_ret (by simp [results, Tryz.results30, go_sem, yz0, yz1, yz2, yz3, yz4, yz5]; try rfl) rfl ?_
      exact ⟨_, _, rfl, HF.out.1, HF.out.2.1, HF.out.2.2⟩

end Go.Proofs.YtkjnbjohicgooaaGreat
