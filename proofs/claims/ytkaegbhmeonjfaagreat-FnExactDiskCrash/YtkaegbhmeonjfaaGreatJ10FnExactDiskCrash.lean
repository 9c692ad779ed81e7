/-
  Joined: ClS, LnkI, DirA, CalmI, CalmP, Share, Tear, CrashP, Ints, IMarks.
-/
import Derived.Test.YtkaegbhmeonjfaaGreatShelf
import Derived.Test.YtkaegbhmeonjfaaGreatJ0FnExactDiskCrash
import Derived.Test.YtkaegbhmeonjfaaGreatJ9FnExactDiskCrash
import Derived.Test.YtkaegbhmeonjfaaGreatJ6FnExactDiskCrash
import Derived.Test.YtkaegbhmeonjfaaGreatJ2FnExactDiskCrash
import Derived.Maps.RangeWalk
import Derived.Test.YtkaegbhmeonjfaaGreatJ3FnExactDiskCrash
import Derived.Deep.RegionHeld3
import Derived.Test.YtkaegbhmeonjfaaGreatRows
import Derived.WalkKit
import Derived.WalkSpells
import Derived.WalkLawsBesides
import Derived.Deep.QuietTactic
import Derived.BigQuiet
/- ClS: strings.Clone of the program. -/
namespace Go.Proofs.YtkaegbhmeonjfaaGreat
open Go.RowKit
set_option linter.unusedVariables false
set_option maxRecDepth 100000

set_option maxHeartbeats 400000 in
theorem cloneS_any (s : ByteArray) (w : World) (h : s.size ≤ 1048576) :
    Calls Tryz.prog 92 #[.string s] w fun e w' => e = .returned (.string s) ∧ Below w.heap.size w w' := by
  go_enter Tryz.func92, Tryz.ntmps92
  go_wp2_with fail
  refine (Tryz.stringslite_Clone s _ (by omega)).mono ?_
  rintro e w' ⟨rfl, hb⟩
  go_wp2
  go_ret
  exact ⟨rfl, hb⟩

end Go.Proofs.YtkaegbhmeonjfaaGreat

/- LnkI: linksOf of the program: the links of a map, gathered in whatever order they come, then set in the order of their names. -/
namespace Go.Proofs.YtkaegbhmeonjfaaGreat
open Go.RowKit Go.Maps
open Go.MapKept Go.ChangeMaps
set_option linter.unusedVariables false
set_option maxRecDepth 100000
set_option linter.unusedSimpArgs false

theorem keyS_self (s : ByteArray) : (keyS s).sameKey (keyS s) = true := by simp [keyS, Lit.sameKey]
theorem keyS_other {s t : ByteArray} (h : s ≠ t) : (keyS s).sameKey (keyS t) = false := sameKey_ne (keyS_inj h)

theorem keyOf_inv {x : ByteArray} {kl : Lit} (h : keyOf Tryz.prog 9 (.string x) = some kl) : kl = keyS x ∧ x.size ≤ maxLen := by
  simp [keyOf, Tryz.underlying9, mapKey] at h
  obtain ⟨h1, h2⟩ := h
  exact ⟨h2.symm, h1⟩

theorem keyStr_inv {key : Value} {kl : Lit} (h : keyOf Tryz.prog 9 key = some kl) : ∃ s, key = .string s := by
  cases key <;> simp [keyOf, Tryz.underlying9, mapKey] at h
  exact ⟨_, rfl⟩

theorem ranges_cnt {w : World} {b r n cnt : Nat} {D : DataW Unit} {left : Lit → Bool} (h : w.ranges Tryz.prog 9 anyInt b r n D left cnt) : cnt ≤ n := by
  obtain ⟨es, clock, since, seen, c0, _, _, hs, _, _, _, hc, _⟩ := h
  have : (leftOf es seen).size ≤ es.size := by unfold leftOf; exact Array.size_filter_le
  omega

/-- What is gathered of the links l while 'left' says what is still to come. -/
def Gat (l : List LinkD) (left : Lit → Bool) (acc : List LinkD) : Prop :=
  (∀ s, hasL acc s = (hasL l s && !left (keyS s))) ∧ (∀ x ∈ acc, x.2.1 = findL l x.1) ∧ (acc.Pairwise fun x y => x.1 ≠ y.1) ∧ SmallS acc

theorem hasL_snoc (l : List LinkD) (x : LinkD) (s : ByteArray) : hasL (l ++ [x]) s = (hasL l s || decide (x.1 = s)) := by simp [hasL]

theorem Gat.start {l : List LinkD} {left : Lit → Bool} (h : ∀ s, left (keyS s) = hasL l s) : Gat l left [] := by
  refine ⟨fun s => ?_, fun x hx => (by cases hx), List.Pairwise.nil, fun x hx => (by cases hx)⟩
  rw [h s, hasL_nil]; cases hasL l s <;> rfl

theorem Gat.step {l acc : List LinkD} {left : Lit → Bool} (h : Gat l left acc) {x : ByteArray} {c : Int} (hl : left (keyS x) = true) (hh : hasL l x = true) (hc : findL l x = c) (hs : x.size ≤ maxLen) :
    Gat l (fun z => left z && !z.sameKey (keyS x)) (acc ++ [(x, c, ())]) := by
  obtain ⟨h1, h2, h3, h4⟩ := h
  refine ⟨fun s => ?_, fun y hy => ?_, ?_, fun y hy => ?_⟩
  · rw [hasL_snoc, h1 s]
    show _ = (hasL l s && !(left (keyS s) && !(keyS s).sameKey (keyS x)))
    by_cases e : x = s
    · subst e; rw [keyS_self, hh]; simp
    · rw [keyS_other (fun e' => e e'.symm)]; simp [e]
  · rcases List.mem_append.1 hy with hy | hy
    · exact h2 y hy
    · rw [List.mem_singleton.1 hy]; exact hc.symm
  · refine List.pairwise_append.2 ⟨h3, List.pairwise_singleton _ _, fun y hy z hz => ?_⟩
    rw [List.mem_singleton.1 hz]
    intro e
    have : hasL acc x = true := by
      have := hasL_mem hy
      rw [e] at this; exact this
    rw [h1 x, hl] at this
    simp at this
  · rcases List.mem_append.1 hy with hy | hy
    · exact h4 y hy
    · rw [List.mem_singleton.1 hy]; exact hs

theorem Gat.perm {l acc acc' : List LinkD} {left : Lit → Bool} (h : Gat l left acc) (hp : acc'.Perm acc) : Gat l left acc' := by
  obtain ⟨h1, h2, h3, h4⟩ := h
  refine ⟨fun s => ?_, fun x hx => h2 x (hp.mem_iff.1 hx), (List.Perm.pairwise_iff (fun hxy => fun e => hxy e.symm) hp).2 h3, fun x hx => h4 x (hp.mem_iff.1 hx)⟩
  rw [← h1 s]
  unfold hasL
  rw [Bool.eq_iff_iff, List.any_eq_true, List.any_eq_true]
  exact ⟨fun ⟨x, hx, e⟩ => ⟨x, hp.mem_iff.1 hx, e⟩, fun ⟨x, hx, e⟩ => ⟨x, hp.mem_iff.2 hx, e⟩⟩

theorem Gat.alike {l acc : List LinkD} {left : Lit → Bool} (h : Gat l left acc) (h0 : ∀ kl, left kl = false) : Alike acc l := fun s => by
  obtain ⟨h1, h2, h3, h4⟩ := h
  have e : hasL acc s = hasL l s := by rw [h1 s, h0]; simp
  refine ⟨e, ?_⟩
  cases c : hasL acc s with
  | false => rw [findL_none c, findL_none (by rw [← e]; exact c)]
  | true =>
    obtain ⟨x, hx, rfl, hx2⟩ := findL_mem c
    rw [← hx2]; exact h2 x hx

set_option maxRecDepth 100000 in
set_option maxHeartbeats 4000000 in
theorem implLinks_ok (b n : Nat) (l : List LinkD) (w : World) (hm : MapIs w b n l) (hn : n ≤ 1000000) (hsm : ∀ s, hasL l s = true → s.size ≤ 1048576) :
    Calls Tryz.prog 41 #[.map (some b)] w fun e w' => ∃ v m L, e = .returned v ∧ w'.ownsRow w.heap.size 111 2 v m (cellsL L) ∧ Hid (L.length = m ∧ Asc L ∧ Alike L l ∧ SmallS L) ∧ Below w.heap.size w w' := by
  obtain ⟨i0, hi, hz0, hz1, hz2⟩ := info_parts infoLink
  have hbl := hm.lt
  obtain ⟨D, ho, hD⟩ := hm
  have HD : Hid (∀ s : ByteArray, Maps.has D (keyS s) = hasL l s ∧ D.atKey (keyS s) (.lit (.int .i64 0)) = .lit (.int .i64 (findL l s))) := hD
  have HSM : Hid (∀ s, hasL l s = true → s.size ≤ 1048576) := hsm
  clear hD hsm
  go_enter Tryz.func41, Tryz.ntmps41
  go_wp2_with (at_range; refine wpList_range_own _ rfl _ 77 rfl 9 3 lawS Tryz.underlying77 anyInt b n D rfl ho ?_; intro w0 hrg0 hg0 hs0)
  have B0 : Below w.heap.size w w0 := (Below.refl _ _).grown hg0 (Nat.le_refl _) (fun y h => by cases h)
  go_frame
  go_loopw [3] (fun u wr => ∃ (left : Lit → Bool) (cnt m : Nat) (acc : List LinkD) (uu : Value), uu = u ∧ wr.ranges Tryz.prog 9 anyInt b w.heap.size n D left cnt ∧ wr.ownsRow (w.heap.size + 1) 111 2 uu m (cellsL acc) ∧ Hid (acc.length = m ∧ Gat l left acc) ∧ m + cnt ≤ n ∧ w.heap.size + 1 ≤ wr.heap.size ∧ Below w.heap.size w wr) (fun _ wr => wr.rangeLeft b w.heap.size)
  case atStart => exact ⟨Maps.has D, _, 0, [], _, rfl, hrg0, ⟨rfl, .inl ⟨rfl, rfl⟩⟩, ⟨rfl, Gat.start fun s => (HD.out s).1⟩, by have := ranges_cnt hrg0; omega, by omega, B0⟩
  case round =>
    obtain ⟨left, cnt, m, acc, u, rfl, hrg, hown, HA, hmc, hsz, hbel⟩ := hrel
    obtain ⟨ua, uc, rfl⟩ : ∃ a c, u = .slice a m c := by
      rcases hown.2 with ⟨h1, h2⟩ | ⟨g, cap, cur, hv, _⟩
      · exact ⟨none, 0, by rw [h1, h2]⟩
      · exact ⟨_, _, hv⟩
    have hk3 : w.heap.size < w.heap.size + 1 := Nat.lt_succ_self _
    go_wp2_with (at_next; refine wpList_next_ranges _ rfl _ rfl 9 lawS anyInt Value.string (Value.int .i64) (fun key kl hkey => keyStr_inv hkey) (fun v y hv => by obtain ⟨c, rfl, _⟩ := anyInt_inv hv; exact ⟨c, rfl⟩) b w.heap.size n D left cnt rfl hrg ?_ ?_)
    · intro hc0 hl0
      have qs : Hid (Calls Tryz.prog 93 #[.slice ua m uc, .func (.func 94) #[] #[]] wr fun e w' => e = .returned (.tuple #[]) ∧ ∃ L, w'.ownsRow (w.heap.size + 1) 111 2 (.slice ua m uc) m (cellsL L) ∧ Hid (L.length = m ∧ Asc L ∧ Alike L l ∧ SmallS L) ∧ Below w.heap.size w w') := by
        show Calls _ _ _ _ _
        have hga := HA.out.2
        by_cases hz : m = 0
        · subst hz
          have hacc : acc = [] := List.length_eq_zero_iff.1 HA.out.1
          subst hacc
          refine Calls.mono (P := Tryz.prog) (AnyF.slices_SortFunc_none Tryz.sortLinks ua uc _ wr) ?_
          rintro e w' ⟨rfl, rfl⟩
          exact ⟨rfl, [], hown, ⟨rfl, asc_nil, hga.alike hl0, hga.2.2.2⟩, hbel⟩
        · obtain ⟨g, rfl⟩ : ∃ g, ua = some ⟨g, 0, none⟩ := by
            rcases hown.2 with ⟨h1, h2⟩ | ⟨g, cap, cur, hv, _⟩
            · exact absurd h2 hz
            · simp only [Value.slice.injEq] at hv
              exact ⟨g, hv.1⟩
          have hlo := (hown.lt g rfl).1
          refine (sortLinks_ok (w.heap.size + 1) g m uc acc wr HA.out.1 (by omega) hown hga.2.2.1).mono ?_
          rintro e w' ⟨rfl, L, hp, hasc, ho', hgr⟩
          have hg' := hga.perm hp
          exact ⟨rfl, L, ho', ⟨by rw [hp.length_eq, HA.out.1], hasc, hg'.alike hl0, hg'.2.2.2⟩, hbel.grown hgr hbel.size (fun y h => by cases h; omega)⟩
      clear hrg hown HA hmc hc0 hl0
      go_wp2_with fail
      refine qs.out.mono ?_
      rintro e w2 ⟨rfl, L, ho2, hL, hb2⟩
      have HO2 : Hid _ := own_lower ho2 (Nat.le_succ _)
      clear ho2 qs
      go_wp2
      go_ret
      exact ⟨_, m, L, rfl, HO2.out, hL, hb2⟩
    · intro x c kl y1 y2 w1 cnt1 hkey hlk hv hat hrg1 hlt hg1 hs1 hen
      obtain ⟨rfl, hxs⟩ := keyOf_inv hkey
      obtain ⟨c', ec, ey⟩ := anyInt_inv hv
      obtain rfl : c = c' := by injection ec
      obtain rfl : y1 = .lit (.int .i64 c) := congrArg Prod.fst ey
      have hh : hasL l x = true := by rw [← (HD.out x).1]; exact has_true_of_atKey hat
      have hf : findL l x = c := by
        have h9 := (HD.out x).2
        rw [hat] at h9
        injection h9 with h9
        injection h9 with _ h9
        exact h9.symm
      have hx20 := HSM.out x hh
      have HG : Hid ((acc ++ [(x, c, ())]).length = m + 1 ∧ Gat l (fun z => left z && !z.sameKey (keyS x)) (acc ++ [(x, c, ())])) := ⟨by rw [List.length_append, HA.out.1]; rfl, HA.out.2.step hlk hh hf hxs⟩
      have HCE : Hid (cellsL (acc ++ [(x, c, ())]) = cellsL acc ++ [.string x, .int .i64 c]) := cellsL_snoc _ _
      have b1 : Below w.heap.size w w1 := hbel.grown hg1 hbel.size (fun y h => by cases h; exact Nat.le_refl _)
      have o1 : w1.ownsRow (w.heap.size + 1) 111 2 (.slice ua m uc) m (cellsL acc) := by
        refine hown.kept hg1 ?_
        cases e9 : (Value.slice ua m uc).ownBlock with
        | none => exact .inl rfl
        | some q => exact .inr (fun e8 => by have h7 := (hown.lt q e9).1; simp at e8; omega)
      have HRG : Hid (wr.rangeLeft b w.heap.size = cnt) := hrg.left_eq
      have HX : Hid (x.size ≤ 1048576) := hx20
      clear hown hrg hkey hlk hv hat hh hf hxs HA hx20 hg1
      go_wp2_with fail
      refine (cloneS_any x _ HX.out).mono ?_
      rintro e w2 ⟨rfl, hb2⟩
      have o2 := own_later o1 hb2
      have b2 := b1.trans (hb2.mono b1.size)
      have hrg2 := hrg1.kept (below_grown hb2) (by simp) (by simp)
      clear o1 b1 hrg1 hen
      go_wp2_with (at_builtin; refine wpList_append_src rfl _ _ 30 rfl (w.heap.size + 1) 111 i0 (.agg #[.string ByteArray.empty, .int .i64 0]) 2 24 Tryz.underlying30 hi hz0 hz1 hz2 rfl (by decide) (.slice ua m uc) m (cellsL acc) rfl (o2.alloc _) (.slice (some ⟨w2.heap.size, 0, none⟩) 1 1) 1 [.string x, .int .i64 c] rfl rfl (.inr ⟨_, 1, rfl, cells_new w2 [.string x, .int .i64 c] 111⟩) ?c2 ?c3 ?c4 ?c5 ?_)
      case c2 => intro u hu; simp at hu; rcases hu with rfl | rfl <;> rfl
      case c3 => unfold maxLen; omega
      case c4 => omega
      case c5 => have h9 := hb2.size; simp; omega
      intro v3 w3 o3 gr3
      have b3 : Below w.heap.size w w3 := (b2.alloc b2.size _).grown gr3 (by have h9 := b2.size; simp; omega) (fun y h => Nat.le_of_succ_le (o2.lt y h).1)
      have hrg3 := (hrg2.kept (World.grownBy_alloc w2 _ none) (by simp) (by simp)).kept gr3 (fun e9 => by have h7 := (o2.lt b e9.symm).1; omega) (fun e9 => by have h7 := (o2.lt w.heap.size e9.symm).1; omega)
      have hz3 : w.heap.size + 1 ≤ w3.heap.size := by have h9 := hrg3.lt; omega
      rw [← HCE.out] at o3
      have HR3 : Hid (w3.rangeLeft b w.heap.size = cnt1) := hrg3.left_eq
      clear gr3 o2 hrg2 hb2
      go_wp2
      go_roundw
      case rel => exact ⟨_, cnt1, m + 1, _, _, rfl, hrg3, o3, HG, by omega, hz3, b3⟩
      case measure => rw [HR3.out, HRG.out]; exact hlt

end Go.Proofs.YtkaegbhmeonjfaaGreat

/- DirA: The program's directory as a list: linksOf behind directoryBehind, for any number of turns of a right disk; DiskDir of the program. -/
namespace Go.Proofs.YtkaegbhmeonjfaaGreat
open Go.RowKit
set_option linter.unusedVariables false
set_option maxRecDepth 100000

theorem dir_alikeK {d : shDisk.D} (h : specOkP d) (k : Nat) : Alike (dirL d.2.2.2.2.1 (List.take (α := TurnD) k d.2.2.2.2.2.1)) (dirF (List.reverse (α := LinkD) d.2.2.2.2.1) (List.take (α := TurnD) k d.2.2.2.2.2.1)) := by
  obtain ⟨_, _, h3, _, _, h6, _⟩ := h
  obtain ⟨kp, hkp⟩ : ∃ l : List LinkD, l = d.2.2.2.2.1 := ⟨_, rfl⟩
  obtain ⟨tn, htn⟩ : ∃ l : List TurnD, l = d.2.2.2.2.2.1 := ⟨_, rfl⟩
  rw [← hkp, ← htn] at h6 ⊢
  rw [← hkp] at h3
  have hp := kept_pos h3
  have hn : namesTo kp kp.length := fun i hi hk => ⟨(h3 i hi hk).1, (h3 i hi hk).2.2⟩
  have hal : ∀ (ts : List TurnD) (l m : List LinkD), Alike l m → Pos l → turnsOkL l ts → Alike (dirL l ts) (dirF m ts) := by
    intro ts
    induction ts with
    | nil => intro l m h _ _; exact h
    | cons t ts ih =>
      intro l m hlm hpl hk
      have h8 := turn_alike hlm hpl hk.1
      exact ih (turnL l t) (turnI m t) h8.1 h8.2 hk.2
  exact hal (tn.take k) kp kp.reverse (alike_rev hn) hp (turnsOk_take h6 k)

def NamesOk (l : List LinkD) : Prop := ∀ x ∈ l, isName x.1

theorem names_turn {l : List LinkD} {t : TurnD} (h : NamesOk l) (hk : turnOkL l t) : NamesOk (turnL l t) := by
  unfold turnL
  split
  · intro x hx
    rcases mem_with hx with rfl | hx
    · exact hk.1
    · exact h x hx
  · split
    · rename_i h1 h5
      intro x hx
      rcases mem_with hx with rfl | hx
      · rcases hk.2 with ⟨h9, _⟩ | ⟨_, h9, _⟩ | ⟨h9, _⟩
        · exact absurd h9 h1
        · exact h9
        · omega
      · exact h x (mem_less (mem_less hx))
    · intro x hx
      exact h x (mem_less hx)

theorem names_dir : ∀ {ts : List TurnD} {l : List LinkD}, NamesOk l → turnsOkL l ts → NamesOk (dirL l ts)
  | [], l, h, _ => h
  | t :: ts, l, h, hk => by
    show NamesOk (dirL (turnL l t) ts)
    exact names_dir (names_turn h hk.1) hk.2

theorem names_disk {d : shDisk.D} (h : specOkP d) (k : Nat) : NamesOk (dirL d.2.2.2.2.1 (List.take (α := TurnD) k d.2.2.2.2.2.1)) := by
  obtain ⟨_, _, h3, _, _, h6, _⟩ := h
  refine names_dir (fun x hx => ?_) (turnsOk_take h6 k)
  obtain ⟨i, hi, rfl⟩ := List.mem_iff_getElem.1 hx
  exact (h3 i hi hi).1

theorem bulkL_sz (l : List LinkD) : Sh.sz (.sl shLink) l = (l.map fun x => 1 + ByteArray.size x.1).sum := by
  show List.length (α := LinkD) l + (List.map shLink.sz l).sum = _
  induction l with
  | nil => rfl
  | cons a l ih =>
    have h3 : shLink.sz a = ByteArray.size a.1 := sz_Link a
    have e2 : List.length (α := LinkD) (a :: l) + (List.map shLink.sz (a :: l)).sum = (List.length (α := LinkD) l + 1) + (shLink.sz a + (List.map shLink.sz l).sum) := rfl
    refine e2.trans ?_
    have ih' : List.length (α := LinkD) l + (List.map shLink.sz l).sum = (l.map fun x => 1 + ByteArray.size x.1).sum := ih
    simp only [List.map_cons, List.sum_cons]
    omega

theorem bulkL_le (l : List LinkD) (h : NamesOk l) : (l.map fun x => 1 + ByteArray.size x.1).sum ≤ 13 * l.length := by
  induction l with
  | nil => simp
  | cons x m ih =>
    have h1 := (h x (by simp)).2.1
    have h2 := ih fun y hy => h y (by simp [hy])
    simp only [List.map_cons, List.sum_cons, List.length_cons]
    omega

theorem take_le {α : Type} (k n : Nat) (l : List α) (h : l.length ≤ n) : (l.take k).length ≤ n := by rw [List.length_take]; omega

/-- How much a directory of a right disk holds. -/
theorem dir_sz {d : shDisk.D} (h : specOkP d) (k : Nat) : Sh.sz (.sl shLink) (dirL d.2.2.2.2.1 (List.take (α := TurnD) k d.2.2.2.2.2.1)) ≤ 1048576 := by
  have hn := names_disk h k
  have hl := dirL_len d.2.2.2.2.1 (List.take (α := TurnD) k d.2.2.2.2.2.1)
  obtain ⟨⟨_, _, _, _, _, _, _, l4, l5⟩, _⟩ := h
  have l4' : List.length (α := LinkD) d.2.2.2.2.1 ≤ 8 := l4
  have l6 : List.length (α := TurnD) (List.take (α := TurnD) k d.2.2.2.2.2.1) ≤ 40 := take_le (α := TurnD) k 40 _ l5
  have h8 := bulkL_le _ hn
  have h9 := bulkL_sz (dirL d.2.2.2.2.1 (List.take (α := TurnD) k d.2.2.2.2.2.1))
  refine Nat.le_trans (Nat.le_of_eq h9) ?_
  omega

/-- linksOf of directoryBehind: the model's directory. -/
theorem links_dir {d : shDisk.D} (h : specOkP d) (k b n : Nat) (w : World) (hm : MapIs w b n (dirF (List.reverse (α := LinkD) d.2.2.2.2.1) (List.take (α := TurnD) k d.2.2.2.2.2.1))) (hn : n ≤ 1000000) :
    Calls Tryz.prog 41 #[.map (some b)] w fun e w' => ∃ v F, e = .returned v ∧ Own (.sl shLink) w' w.heap.size [v] (dirL d.2.2.2.2.1 (List.take (α := TurnD) k d.2.2.2.2.2.1)) F ∧ F.Nodup ∧ Below w.heap.size w w' := by
  have ha := dir_alikeK h k
  refine (implLinks_ok b n _ w hm hn (fun s hs => ?_)).mono ?_
  · rw [← (ha s).1] at hs
    obtain ⟨x, hx, rfl, _⟩ := findL_mem hs
    have := (names_disk h k x hx).2.1
    omega
  · rintro e w' ⟨v, m, L, rfl, ho, hL, hb⟩
    obtain ⟨hl, hasc, hal, hsm⟩ := hL.out
    have e : L = dirL d.2.2.2.2.1 (List.take (α := TurnD) k d.2.2.2.2.2.1) := asc_eq hasc (asc_disk h k) (hal.trans ha.symm)
    subst e
    obtain ⟨F, hF, hnd, _⟩ := own_linksV hl hsm ho
    exact ⟨v, F, rfl, hF, hnd, hb⟩

end Go.Proofs.YtkaegbhmeonjfaaGreat

/- CalmI: DiskCalm of the program. By program (calmgen2.py). -/
namespace Go.Proofs.YtkaegbhmeonjfaaGreat
open Go.RowKit
set_option linter.unusedVariables false
set_option maxRecDepth 100000
set_option linter.unusedSimpArgs false

/-- A node whose content is safe. -/
def calmN (x : NodeD) : NodeD := (x.1, x.2.1, x.2.1, ())
/-- The nodes that a list of links names. -/
def keepN (kl : List LinkD) (nd : List NodeD) : List NodeD := nd.filter fun x => hasN (idsK kl) x.1
theorem keepP_snd (kl : List LinkD) (P : List (List Value × NodeD)) : (keepP kl P).map Prod.snd = keepN kl (P.map Prod.snd) := by
  unfold keepP keepN
  rw [List.filter_map]
  rfl

/-- What DiskCalm makes of a right disk. -/
def calmD (d : shDisk.D) : shDisk.D := (d.1, d.2.1, d.2.2.1, (keepN (dirL d.2.2.2.2.1 d.2.2.2.2.2.1) d.2.2.2.1).map calmN, dirL d.2.2.2.2.1 d.2.2.2.2.2.1, ([] : List TurnD), ())

theorem node_body {w : World} {c : List Value} {x : NodeD} (h : Reads shNode w c x) : ∃ p1 m1 k1 p2 m2 k2, c = [.int .i64 x.1, .slice p1 m1 k1, .slice p2 m2 k2] ∧ Reads (.sl .u8) w [.slice p1 m1 k1] x.2.1 := by
  obtain ⟨p1, m1, k1, p2, m2, k2, e, r1, r2⟩ := open_Node h
  exact ⟨p1, m1, k1, p2, m2, k2, e, r1⟩

theorem node_len {d : shDisk.D} (h : shDisk.sz d ≤ 1048576) {nd : List NodeD} (hnd : nd = d.2.2.2.1) {x : NodeD} (hx : x ∈ nd) : List.length (α := Int) x.2.1 ≤ 1048576 := by
  obtain ⟨i, hi, rfl⟩ := List.mem_iff_getElem.1 hx
  rw [sz_Disk, ← hnd] at h
  have h2 := sz_elem shNode nd i _ (List.getElem?_eq_getElem hi)
  have h3 : List.length (α := Int) (nd[i]).2.1 ≤ shNode.sz (nd[i]) := (sz_len _).1
  have h4 : Sh.sz (.sl shNode) nd = List.length (α := NodeD) nd + (List.map shNode.sz nd).sum := rfl
  have h5 : shNode.sz (nd[i]) ≤ (List.map shNode.sz nd).sum := h2
  omega

end Go.Proofs.YtkaegbhmeonjfaaGreat

/- CalmP: Sizes of what DiskCalm answers; a row of nodes as a reading; the nodes of a disk of the call's own, with their cells. -/
namespace Go.Proofs.YtkaegbhmeonjfaaGreat
open Go.RowKit
set_option linter.unusedVariables false
set_option maxRecDepth 100000

theorem bytes_sz (l : List Int) : Sh.sz (.sl .u8) l = l.length := by
  show l.length + (List.map (fun _ : Int => 0) l).sum = l.length
  induction l with
  | nil => rfl
  | cons a l ih =>
    simp at ih ⊢
    exact ih

def bodyLen (x : NodeD) : Nat := List.length (α := Int) x.2.1
def safeLen (x : NodeD) : Nat := List.length (α := Int) x.2.2.1

theorem node_szN (x : NodeD) : shNode.sz x = bodyLen x + safeLen x := by
  refine Eq.trans (sz_Node x) ?_
  have h1 : Sh.sz (.sl .u8) x.2.1 = bodyLen x := bytes_sz x.2.1
  have h2 : Sh.sz (.sl .u8) x.2.2.1 = safeLen x := bytes_sz x.2.2.1
  exact (congrArg (· + Sh.sz (.sl .u8) x.2.2.1) h1).trans (congrArg (bodyLen x + ·) h2)

theorem used_sum (l : List NodeD) : ∀ k, k ≤ l.length → (((l.take k).map bodyLen).sum : Int) ≤ usedTo l k ∧ (((l.take k).map safeLen).sum : Int) ≤ usedTo l k := by
  intro k
  induction k with
  | zero =>
    intro _
    have h0 : usedTo l 0 = 0 := usedTo_zero l
    rw [h0]; simp
  | succ k ih =>
    intro hk
    have ⟨i1, i2⟩ := ih (by omega)
    have hk' : k < l.length := by omega
    have hx : shNode.at l k = some l[k] := List.getElem?_eq_getElem hk'
    have hu : usedTo l (k + 1) = usedTo l k + (if ((bodyLen l[k] : Nat) : Int) > ((safeLen l[k] : Nat) : Int) then ((bodyLen l[k] : Nat) : Int) else ((safeLen l[k] : Nat) : Int)) := usedTo_succ l k _ hx
    rw [List.take_succ_eq_append_getElem hk', List.map_append, List.map_append, List.sum_append, List.sum_append]
    simp only [List.map_cons, List.map_nil, List.sum_cons, List.sum_nil, Nat.add_zero]
    rw [hu]
    split <;> (refine ⟨?_, ?_⟩ <;> omega)

theorem sum_two (l : List NodeD) : (List.map shNode.sz l).sum = (l.map bodyLen).sum + (l.map safeLen).sum := by
  induction l with
  | nil => rfl
  | cons x l ih =>
    have h := node_szN x
    have e : (List.map shNode.sz (x :: l)).sum = shNode.sz x + (List.map shNode.sz l).sum := rfl
    refine e.trans ?_
    simp only [List.map_cons, List.sum_cons]
    omega

theorem body_sum {d : shDisk.D} (h : specOkP d) {nd : List NodeD} (hnd : nd = d.2.2.2.1) : (nd.map bodyLen).sum ≤ 60000 ∧ nd.length ≤ 8 ∧ Sh.sz (.sl shNode) nd ≤ 200000 := by
  obtain ⟨x0, e0⟩ : ∃ x : Int, x = d.1 := ⟨_, rfl⟩
  have lims := h.1
  have h8 : nd.length ≤ 8 := by rw [hnd]; exact lims.2.2.2.2.2.2.1
  have hr : x0 ≤ 60000 := by rw [e0]; exact lims.2.1
  have hu : usedTo nd nd.length ≤ x0 := by rw [hnd, e0]; exact h.2.2.2.2.2.2
  have h1 := used_sum nd nd.length (Nat.le_refl _)
  rw [List.take_length] at h1
  have h2 := sum_two nd
  have h3 : Sh.sz (.sl shNode) nd = nd.length + (List.map shNode.sz nd).sum := rfl
  refine ⟨by omega, h8, ?_⟩
  omega

theorem keep_sum (kl : List LinkD) (l : List NodeD) : ((keepN kl l).map bodyLen).sum ≤ (l.map bodyLen).sum := by
  unfold keepN
  induction l with
  | nil => simp
  | cons x l ih =>
    rw [List.filter_cons]
    split
    · simp only [List.map_cons, List.sum_cons]; omega
    · simp only [List.map_cons, List.sum_cons]; omega

theorem calm_sz {d : shDisk.D} (h : specOkP d) : shDisk.sz (calmD d) ≤ 1048576 := by
  obtain ⟨nd, hnd⟩ : ∃ l : List NodeD, l = d.2.2.2.1 := ⟨_, rfl⟩
  obtain ⟨hb, h8, _⟩ := body_sum h hnd
  have hall : List.take (α := TurnD) (List.length (α := TurnD) d.2.2.2.2.2.1) d.2.2.2.2.2.1 = d.2.2.2.2.2.1 := List.take_length
  have hn := names_disk h (List.length (α := TurnD) d.2.2.2.2.2.1)
  have hl := dirL_len d.2.2.2.2.1 d.2.2.2.2.2.1
  rw [hall] at hn
  have lims := h.1
  have l4 : List.length (α := LinkD) d.2.2.2.2.1 ≤ 8 := lims.2.2.2.2.2.2.2.1
  have l5 : List.length (α := TurnD) d.2.2.2.2.2.1 ≤ 40 := lims.2.2.2.2.2.2.2.2
  obtain ⟨DL, hDL⟩ : ∃ l : List LinkD, l = dirL d.2.2.2.2.1 d.2.2.2.2.2.1 := ⟨_, rfl⟩
  obtain ⟨K, hK⟩ : ∃ l : List NodeD, l = keepN DL nd := ⟨_, rfl⟩
  have hk := keep_sum DL nd
  have hkl : K.length ≤ 8 := by rw [hK]; exact Nat.le_trans (List.length_filter_le _ _) h8
  rw [← hDL] at hn hl
  rw [← hK] at hk
  have hL := bulkL_le DL hn
  have hz := bulkL_sz DL
  have e1 : (calmD d).2.2.2.1 = K.map calmN := by rw [hK, hDL, hnd]; rfl
  have e2 : (calmD d).2.2.2.2.1 = DL := by rw [hDL]; rfl
  have e3 : Sh.sz (.sl shTurn) (calmD d).2.2.2.2.2.1 = 0 := rfl
  have hcalm : ∀ m : List NodeD, (List.map shNode.sz (m.map calmN)).sum = 2 * (m.map bodyLen).sum := by
    intro m
    induction m with
    | nil => rfl
    | cons x m ih =>
      have h9 := node_szN (calmN x)
      have h10 : bodyLen (calmN x) = bodyLen x := rfl
      have h11 : safeLen (calmN x) = bodyLen x := rfl
      have e : (List.map shNode.sz ((x :: m).map calmN)).sum = shNode.sz (calmN x) + (List.map shNode.sz (m.map calmN)).sum := rfl
      rw [e, ih, h9]
      simp only [List.map_cons, List.sum_cons]
      omega
  have hN : Sh.sz (.sl shNode) (K.map calmN) ≤ 200000 := by
    show List.length (α := NodeD) (K.map calmN) + (List.map shNode.sz (K.map calmN)).sum ≤ _
    have := hcalm K
    rw [List.length_map]
    omega
  rw [sz_Disk, e3]
  have hA : Sh.sz (.sl shNode) (calmD d).2.2.2.1 ≤ 200000 := by rw [e1]; exact hN
  have hB : Sh.sz (.sl shLink) (calmD d).2.2.2.2.1 ≤ 1000 := by
    rw [e2]
    refine Nat.le_trans (Nat.le_of_eq hz) ?_
    omega
  omega

/-- A disk read off its parts. -/
theorem reads_Disk {w : World} {d : shDisk.D} {v3 v4 v5 : Value} (r3 : Reads (.sl shNode) w [v3] d.2.2.2.1) (r4 : Reads (.sl shLink) w [v4] d.2.2.2.2.1) (r5 : Reads (.sl shTurn) w [v5] d.2.2.2.2.2.1) :
    Reads shDisk w [.int .i64 d.1, .int .i64 d.2.1, .int .i64 d.2.2.1, v3, v4, v5] d :=
  ⟨[_], _, rfl, rfl, [_], _, rfl, rfl, [_], _, rfl, rfl, [_], _, rfl, r3, [_], _, rfl, r4, [_], _, rfl, r5, rfl⟩

/-- A row whose elements read as nodes. -/
theorem rows_reads {w : World} {B m : Nat} {v : Value} {Cs : List (List Value)} {ds : List NodeD} (h : w.ownsRow B 70 3 v m Cs.flatten) (h3 : ∀ x ∈ Cs, x.length = 3) (hC : Cs.length = m) (hD : ds.length = m)
    (he : ∀ (i : Nat) (c : List Value) (x : NodeD), Cs[i]? = some c → ds[i]? = some x → Reads shNode w c x) : Reads (.sl shNode) w [v] ds := by
  rcases h.2 with ⟨h1, h2⟩ | ⟨g, cap, cur, hv, hg, hh, hc1, hc2, hc3, hc4⟩
  · have : ds = [] := List.eq_nil_of_length_eq_zero (by omega)
    subst this
    rw [h1]
    exact ⟨none, 0, rfl, Nat.le_refl _, Nat.zero_le _, .inl rfl⟩
  · subst hv
    refine ⟨some ⟨g, 0, none⟩, cap, by show _ = [Value.slice _ ds.length cap]; rw [hD], by show ds.length ≤ cap; omega, hc2, .inr ⟨g, 0, rfl, (Array.getElem?_eq_some_iff.1 hh).1, fun i x hi => ?_⟩⟩
    have hx : ds[i]? = some x := hi
    have hil : i < ds.length := (List.getElem?_eq_some_iff.1 hx).1
    have hc : Cs[i]? = some Cs[i] := List.getElem?_eq_getElem (by omega)
    refine ⟨Cs[i], h3 _ (List.getElem_mem (by omega)), fun j hj => ?_, he i _ x hc hx⟩
    rw [Nat.zero_add]
    exact (row_cells h h3 hc hC j hj).1

/-- The nodes of a disk of the call's own, with their cells. -/
theorem rowP_own {w : World} {B : Nat} {a : Option Addr} {n c : Nat} {nd : List NodeD} {F : List Nat} (h : Own (.sl shNode) w B [.slice a n c] nd F) : ∃ P : List (List Value × NodeD), P.map Prod.snd = nd ∧ RowP w a P ∧ ∀ p ∈ P, ∃ f, Own shNode w B p.1 p.2 f := by
  have hl : List.length (α := NodeD) nd = n := (reads_len h.reads).1
  have key : ∀ k (hk : k < nd.length), ∃ c, (∃ f, Own shNode w B c nd[k] f) ∧ ∃ b off p1 m1 k1 p2 m2 k2, a = some ⟨b, off, none⟩ ∧ b < w.heap.size ∧ c = [.int .i64 (nd[k]).1, .slice p1 m1 k1, .slice p2 m2 k2] ∧
      w.cell? ⟨b, off + k * 3, none⟩ = some (.int .i64 (nd[k]).1) ∧ w.cell? ⟨b, off + k * 3 + 1, none⟩ = some (.slice p1 m1 k1) ∧ w.cell? ⟨b, off + k * 3 + 2, none⟩ = some (.slice p2 m2 k2) := by
    intro k hk
    obtain ⟨g, cc, x, f, rfl, hg, hx, hox, _, hcell⟩ := own_get h k (by omega)
    obtain ⟨hkd, hxe⟩ := at_some' hx
    obtain rfl : nd[k] = x := hxe
    obtain ⟨p1, m1, k1, F1, p2, m2, k2, F2, e, _, o1, o2⟩ := openO_Node hox
    subst e
    refine ⟨_, ⟨f, hox⟩, g, 0, p1, m1, k1, p2, m2, k2, rfl, hg, rfl, ?_, ?_, ?_⟩
    · rw [Nat.zero_add]; exact hcell 0 (by decide)
    · rw [Nat.zero_add]; exact hcell 1 (by decide)
    · rw [Nat.zero_add]; exact hcell 2 (by decide)
  refine ⟨(List.finRange nd.length).map fun i => (Classical.choose (key i.1 i.2), nd[i.1]), ?_, ?_, ?_⟩
  · rw [List.map_map]
    apply List.ext_getElem
    · simp
    · intro i h1 h2; simp
  · intro k hk
    have hk' : k < nd.length := by simpa using hk
    have hs := Classical.choose_spec (key k hk')
    obtain ⟨_, b, off, p1, m1, k1, p2, m2, k2, ha, hb, hc, c0, c1, c2⟩ := hs
    refine ⟨b, off, p1, m1, k1, p2, m2, k2, ha, hb, ?_, ?_, c1, c2⟩
    · simpa using hc
    · simpa using c0
  · intro p hp
    obtain ⟨i, _, rfl⟩ := List.mem_map.1 hp
    exact (Classical.choose_spec (key i.1 i.2)).1

/-- What the model's loop has done when k nodes are made calm: their bodies are those of w2, their safe contents rows of the call's own. -/
structure CalmR (w w2 : World) (R1 RB RT : Nat) (v : Value) (m k : Nat) (Cs : List (List Value)) (Q : List (List Value × NodeD)) : Prop where
  row : w.ownsRow RB 70 3 v m Cs.flatten
  len3 : ∀ x ∈ Cs, x.length = 3
  lenC : Cs.length = m
  el : ∀ (i : Nat) (c : List Value) (p : List Value × NodeD), i < k → Cs[i]? = some c → Q[i]? = some p → ∃ a1 n1 c1 v2 f1 f, c = [.int .i64 p.2.1, .slice a1 n1 c1, v2] ∧ Own (.sl .u8) w2 R1 [.slice a1 n1 c1] p.2.2.1 f1 ∧ Own (.sl .u8) w RT [v2] p.2.2.1 f
  old : ∀ i, k ≤ i → Cs[i]? = (Q.map Prod.fst)[i]?

theorem CalmR.later {w w' w2 : World} {R1 RB RT m k : Nat} {v : Value} {Cs : List (List Value)} {Q : List (List Value × NodeD)} (h : CalmR w w2 R1 RB RT v m k Cs Q) (hb : Below w.heap.size w w') : CalmR w' w2 R1 RB RT v m k Cs Q :=
  ⟨own_later h.row hb, h.len3, h.lenC, fun i c p hi hc hp => by
    obtain ⟨a1, n1, c1, v2, f1, f, e, r, o⟩ := h.el i c p hi hc hp
    exact ⟨a1, n1, c1, v2, f1, f, e, r, o.later hb⟩, h.old⟩

theorem CalmR.step {w w2 : World} {R1 RB RT g cap m k : Nat} {Cs : List (List Value)} {Q : List (List Value × NodeD)} (h : CalmR w w2 R1 RB RT (.slice (some ⟨g, 0, none⟩) m cap) m k Cs Q) (hk : k < m) (hg : g < RT)
    {p : List Value × NodeD} {a1 : Option Addr} {n1 c1 : Nat} {v2 : Value} {f1 f : List Nat} (hp : Q[k]? = some p) (hr : Own (.sl .u8) w2 R1 [.slice a1 n1 c1] p.2.2.1 f1) (ho : Own (.sl .u8) w RT [v2] p.2.2.1 f) :
    CalmR (((w.setCell ⟨g, k * 3, none⟩ (.int .i64 p.2.1)).setCell ⟨g, k * 3 + 1, none⟩ (.slice a1 n1 c1)).setCell ⟨g, k * 3 + 2, none⟩ v2) w2 R1 RB RT (.slice (some ⟨g, 0, none⟩) m cap) m (k + 1) (Cs.set k [.int .i64 p.2.1, .slice a1 n1 c1, v2]) Q := by
  have hC := h.lenC
  have keep : ∀ y, y ≠ g → (((w.setCell ⟨g, k * 3, none⟩ (.int .i64 p.2.1)).setCell ⟨g, k * 3 + 1, none⟩ (.slice a1 n1 c1)).setCell ⟨g, k * 3 + 2, none⟩ v2).heap[y]? = w.heap[y]? := fun y hy => (box_other _ hy).trans ((box_other _ hy).trans (box_other _ hy))
  refine ⟨row_set3 h.row h.len3 (by omega) _ _ _, fun y hy => ?_, by rw [List.length_set]; exact hC, fun i c q hi hc hq => ?_, fun i hi => ?_⟩
  · rcases List.mem_or_eq_of_mem_set hy with h1 | h1
    · exact h.len3 y h1
    · rw [h1]; rfl
  · by_cases e : i = k
    · subst e
      rw [List.getElem?_set_self (by omega)] at hc
      rw [hp] at hq
      obtain rfl := Option.some.inj hc
      obtain rfl := Option.some.inj hq
      exact ⟨a1, n1, c1, v2, f1, f, rfl, hr, ho.keep fun y hy => keep y (fun e9 => by have := (ho.lt y hy).1; omega)⟩
    · rw [List.getElem?_set_ne (fun e9 => e e9.symm)] at hc
      obtain ⟨b1, m1, d1, u2, f3, f2, e2, r2, o2⟩ := h.el i c q (by omega) hc hq
      exact ⟨b1, m1, d1, u2, f3, f2, e2, r2, o2.keep fun y hy => keep y (fun e9 => by have := (o2.lt y hy).1; omega)⟩
  · rw [List.getElem?_set_ne (by omega)]
    exact h.old i (by omega)

theorem CalmR.reads {w w2 : World} {R1 RB RT m : Nat} {v : Value} {Cs : List (List Value)} {Q : List (List Value × NodeD)} (h : CalmR w w2 R1 RB RT v m m Cs Q) (hm : Q.length = m) (hb : ∀ q, R1 ≤ q → q < w2.heap.size → w.heap[q]? = w2.heap[q]?) : Reads (.sl shNode) w [v] (Q.map fun p => calmN p.2) := by
  have hlen : (Q.map fun p => calmN p.2).length = Q.length := List.length_map _
  refine rows_reads h.row h.len3 h.lenC (hlen.trans hm) (fun i c x hc hx => ?_)
  have hx' : (Q.map fun p => calmN p.2)[i]? = some x := hx
  rw [List.getElem?_map] at hx'
  obtain ⟨p, hp, rfl⟩ := Option.map_eq_some_iff.1 hx'
  obtain ⟨a1, n1, c1, v2, f1, f, rfl, r, o⟩ := h.el i c p (by have := (List.getElem?_eq_some_iff.1 hp).1; omega) hc hp
  exact ⟨[_], _, rfl, rfl, [_], _, rfl, (r.keep fun q hq => hb q (r.lt q hq).1 (r.lt q hq).2).reads, [_], _, rfl, o.reads, rfl⟩

end Go.Proofs.YtkaegbhmeonjfaaGreat

/- Share: How long a beginning two lists of bytes share; what the model and the program answer of it; TearSteps of both. -/
namespace Go.Proofs.YtkaegbhmeonjfaaGreat
open Go.RowKit
set_option linter.unusedVariables false
set_option maxRecDepth 100000

/-- The length of the longest beginning that both have. -/
def share : List Int → List Int → Nat
  | x :: xs, y :: ys => if x = y then share xs ys + 1 else 0
  | _, _ => 0

theorem share_le : ∀ xs ys : List Int, share xs ys ≤ xs.length ∧ share xs ys ≤ ys.length
  | [], ys => by simp [share]
  | x :: xs, [] => by simp [share]
  | x :: xs, y :: ys => by
    have := share_le xs ys
    by_cases h : x = y
    · simp [share, h]; omega
    · simp [share, h]

theorem share_eq : ∀ (xs ys : List Int) (k : Nat), k < share xs ys → xs[k]?.getD 0 = ys[k]?.getD 0
  | [], ys, k, h => by simp [share] at h
  | x :: xs, [], k, h => by simp [share] at h
  | x :: xs, y :: ys, k, h => by
    by_cases e : x = y
    · subst e
      cases k with
      | zero => simp
      | succ k =>
        simp [share] at h
        simpa using share_eq xs ys k h
    · simp [share, e] at h

theorem share_ne : ∀ xs ys : List Int, share xs ys < xs.length → share xs ys < ys.length → xs[share xs ys]?.getD 0 ≠ ys[share xs ys]?.getD 0
  | [], ys, h, _ => by simp at h
  | x :: xs, [], _, h => by simp at h
  | x :: xs, y :: ys, h1, h2 => by
    by_cases e : x = y
    · subst e
      simp [share] at h1 h2 ⊢
      exact share_ne xs ys h1 h2
    · simp [share, e]

theorem rd_cell {w : World} {a : Option Addr} {zs : List Int} {n k : Nat} (h : Rd w a zs) (hl : zs.length = n) (hk : k < n) : ∃ b off, a = some ⟨b, off, none⟩ ∧ b < w.heap.size ∧ w.cell? ⟨b, off + k, none⟩ = some (.int .u8 (zs[k]?.getD 0)) := by
  rcases h.2 with h | ⟨b, off, h1, h2, h3⟩
  · subst h; simp at hl; omega
  · exact ⟨b, off, h1, h2, h3 k (by omega)⟩

set_option maxHeartbeats 1000000 in
theorem specShare_any (a b : Option Addr) (n m ca cb : Nat) (xs ys : List Int) (w : World) (hl : Hid (xs.length = n)) (hm : Hid (ys.length = m)) (hra : Rd w a xs) (hrb : Rd w b ys) (hn : n ≤ 2097152) (hmm : m ≤ 2097152) :
    Calls Tryz.prog 80 #[.slice a n ca, .slice b m cb] w fun e w' => e = .returned (.int .i64 (share xs ys)) ∧ ∃ q, w' = w.drewN q := by
  obtain ⟨S, hS⟩ : ∃ S, S = share xs ys := ⟨_, rfl⟩
  have h1 : S ≤ n := by have := (share_le xs ys).1; have := hl.out; omega
  have h2 : S ≤ m := by have := (share_le xs ys).2; have := hm.out; omega
  have HEq : Hid (∀ k, k < S → xs[k]?.getD 0 = ys[k]?.getD 0) := fun k h => share_eq xs ys k (by omega)
  have HNe : Hid (S < n → S < m → xs[S]?.getD 0 ≠ ys[S]?.getD 0) := fun h1 h2 => by rw [hS]; exact share_ne xs ys (by have := hl.out; omega) (by have := hm.out; omega)
  rw [← hS]
  clear hS
  go_enter Tryz.func80, Tryz.ntmps80
  go_wp2
  go_loopw [5] (fun i wr => ∃ k : Nat, k ≤ S ∧ i = .int .i64 k ∧ ∃ q, wr = w.drewN q) (fun i _ => n - (intOf i).toNat)
  case atStart => exact ⟨0, Nat.zero_le _, rfl, 0, rfl⟩
  case round =>
    obtain ⟨k, hk, rfl, q, rfl⟩ := hrel
    by_cases hlt : k < S
    · obtain ⟨b1, o1, rfl, hb1, g1⟩ := rd_cell hra hl.out (show k < n by omega)
      obtain ⟨b2, o2, rfl, hb2, g2⟩ := rd_cell hrb hm.out (show k < m by omega)
      have hlt1 : (k : Int) < (n : Int) := by omega
      have hlt2 : (k : Int) < (m : Int) := by omega
      have he := HEq.out k hlt
      rw [← he] at g2
      have hbe : (xs[k]?.getD 0 == xs[k]?.getD 0) = true := by simp
      clear hra hrb he
      go_wp2
      go_quiet (fail)
      go_wp2
      go_roundw
      case rel => exact ⟨k + 1, by omega, by go_num, _, rfl⟩
      case measure => simp [intOf]; omega
    · have e : k = S := by omega
      subst e
      by_cases hk1 : k < n
      · have hlt1 : (k : Int) < (n : Int) := by omega
        by_cases hk2 : k < m
        · obtain ⟨b1, o1, rfl, hb1, g1⟩ := rd_cell hra hl.out hk1
          obtain ⟨b2, o2, rfl, hb2, g2⟩ := rd_cell hrb hm.out hk2
          have hlt2 : (k : Int) < (m : Int) := by omega
          have hbe : (xs[k]?.getD 0 == ys[k]?.getD 0) = false := by simpa using HNe.out hk1 hk2
          clear hra hrb
          go_wp2
          go_quiet (fail)
          go_wp2
          go_ret
          exact ⟨rfl, q + nq, by simp⟩
        · have hlt2 : decide ((k : Int) < (m : Int)) = false := by simp; omega
          go_wp2
          go_quiet (fail)
          go_wp2
          go_ret
          exact ⟨rfl, q + nq, by simp⟩
      · have hlt1 : decide ((k : Int) < (n : Int)) = false := by simp; omega
        go_wp2
        go_quiet (fail)
        go_wp2
        go_ret
        exact ⟨rfl, q + nq, by simp⟩

set_option maxHeartbeats 1000000 in
theorem implShare_any (a b : Option Addr) (n m ca cb : Nat) (xs ys : List Int) (w : World) (hl : Hid (xs.length = n)) (hm : Hid (ys.length = m)) (hra : Rd w a xs) (hrb : Rd w b ys) (hn : n ≤ 2097152) (hmm : m ≤ 2097152) :
    Calls Tryz.prog 127 #[.slice a n ca, .slice b m cb] w fun e w' => e = .returned (.int .i64 (share xs ys)) ∧ ∃ q, w' = w.drewN q := by
  obtain ⟨S, hS⟩ : ∃ S, S = share xs ys := ⟨_, rfl⟩
  have h1 : S ≤ n := by have := (share_le xs ys).1; have := hl.out; omega
  have h2 : S ≤ m := by have := (share_le xs ys).2; have := hm.out; omega
  have HEq : Hid (∀ k, k < S → xs[k]?.getD 0 = ys[k]?.getD 0) := fun k h => share_eq xs ys k (by omega)
  have HNe : Hid (S < n → S < m → xs[S]?.getD 0 ≠ ys[S]?.getD 0) := fun h1 h2 => by rw [hS]; exact share_ne xs ys (by have := hl.out; omega) (by have := hm.out; omega)
  rw [← hS]
  clear hS
  obtain ⟨M, hM⟩ : ∃ M : Nat, M = min n m := ⟨_, rfl⟩
  have HM : Hid (M = min n m) := hM
  have hmn : (if m < n then (m : Int) else (n : Int)) = (M : Int) := by split <;> omega
  clear hM
  go_enter Tryz.func127, Tryz.ntmps127
  go_wp2
  go_loopw [5] (fun i wr => ∃ k : Nat, k ≤ S ∧ i = .int .i64 k ∧ ∃ q, wr = w.drewN q) (fun i _ => n - (intOf i).toNat)
  case atStart => exact ⟨0, Nat.zero_le _, rfl, 0, rfl⟩
  case round =>
    obtain ⟨k, hk, rfl, q, rfl⟩ := hrel
    by_cases hlt : k < S
    · obtain ⟨b1, o1, rfl, hb1, g1⟩ := rd_cell hra hl.out (show k < n by omega)
      obtain ⟨b2, o2, rfl, hb2, g2⟩ := rd_cell hrb hm.out (show k < m by omega)
      have hlt1 : (k : Int) < (M : Int) := by have := HM.out; omega
      have he := HEq.out k hlt
      rw [← he] at g2
      have hbe : (xs[k]?.getD 0 == xs[k]?.getD 0) = true := by simp
      clear hra hrb he
      go_wp2
      go_quiet (fail)
      go_wp2
      go_roundw
      case rel => exact ⟨k + 1, by omega, by go_num, _, rfl⟩
      case measure => simp [intOf]; omega
    · have e : k = S := by omega
      subst e
      by_cases hk1 : k < M
      · have hkn : k < n := by have := HM.out; omega
        have hkm : k < m := by have := HM.out; omega
        have hlt1 : (k : Int) < (M : Int) := by omega
        obtain ⟨b1, o1, rfl, hb1, g1⟩ := rd_cell hra hl.out hkn
        obtain ⟨b2, o2, rfl, hb2, g2⟩ := rd_cell hrb hm.out hkm
        have hbe : (xs[k]?.getD 0 == ys[k]?.getD 0) = false := by simpa using HNe.out hkn hkm
        clear hra hrb
        go_wp2
        go_quiet (fail)
        go_wp2
        go_ret
        exact ⟨rfl, q + nq, by simp⟩
      · have hlt1 : decide ((k : Int) < (M : Int)) = false := by simp; omega
        go_wp2
        go_quiet (fail)
        go_wp2
        go_ret
        exact ⟨rfl, q + nq, by simp⟩

/-- How many steps there are. -/
def tsteps (xs ys : List Int) : Nat := xs.length - share xs ys + (ys.length - share xs ys)

set_option maxHeartbeats 1000000 in
theorem specSteps_any (a b : Option Addr) (n m ca cb : Nat) (xs ys : List Int) (w : World) (hl : Hid (xs.length = n)) (hm : Hid (ys.length = m)) (hra : Rd w a xs) (hrb : Rd w b ys) (hn : n ≤ 2097152) (hmm : m ≤ 2097152) :
    Calls Tryz.prog 79 #[.slice a n ca, .slice b m cb] w fun e w' => e = .returned (.int .i64 (tsteps xs ys)) ∧ ∃ q, w' = w.drewN q := by
  have h1 : share xs ys ≤ n := by have := (share_le xs ys).1; have := hl.out; omega
  have h2 : share xs ys ≤ m := by have := (share_le xs ys).2; have := hm.out; omega
  have HT : Hid (((n : Int) - (share xs ys : Nat) + m - (share xs ys : Nat)) = (tsteps xs ys : Nat)) := by
    show ((n : Int) - (share xs ys : Nat) + m - (share xs ys : Nat)) = (tsteps xs ys : Nat)
    have := hl.out; have := hm.out; unfold tsteps; omega
  go_enter Tryz.func79, Tryz.ntmps79
  go_wp2_with fail
  refine (specShare_any a b n m _ _ xs ys _ hl hm hra hrb hn hmm).mono ?_
  rintro e w1 ⟨rfl, q, rfl⟩
  go_wp2
  go_ret
  exact ⟨congrArg (fun z => Ending.returned (Value.int .i64 z)) HT.out, q, rfl⟩

set_option maxHeartbeats 1000000 in
theorem implSteps_any (a b : Option Addr) (n m ca cb : Nat) (xs ys : List Int) (w : World) (hl : Hid (xs.length = n)) (hm : Hid (ys.length = m)) (hra : Rd w a xs) (hrb : Rd w b ys) (hn : n ≤ 2097152) (hmm : m ≤ 2097152) :
    Calls Tryz.prog 128 #[.slice a n ca, .slice b m cb] w fun e w' => e = .returned (.int .i64 (tsteps xs ys)) ∧ ∃ q, w' = w.drewN q := by
  have h1 : share xs ys ≤ n := by have := (share_le xs ys).1; have := hl.out; omega
  have h2 : share xs ys ≤ m := by have := (share_le xs ys).2; have := hm.out; omega
  have HT : Hid (((n : Int) - (share xs ys : Nat) + m - (share xs ys : Nat)) = (tsteps xs ys : Nat)) := by
    show ((n : Int) - (share xs ys : Nat) + m - (share xs ys : Nat)) = (tsteps xs ys : Nat)
    have := hl.out; have := hm.out; unfold tsteps; omega
  go_enter Tryz.func128, Tryz.ntmps128
  go_wp2_with fail
  refine (implShare_any a b n m _ _ xs ys _ hl hm hra hrb hn hmm).mono ?_
  rintro e w1 ⟨rfl, q, rfl⟩
  go_wp2
  go_ret
  exact ⟨congrArg (fun z => Ending.returned (Value.int .i64 z)) HT.out, q, rfl⟩

end Go.Proofs.YtkaegbhmeonjfaaGreat

/- Tear: Tear of the model and of the program; bytes.Clone. -/
namespace Go.Proofs.YtkaegbhmeonjfaaGreat
open Go.RowKit
set_option linter.unusedVariables false
set_option maxRecDepth 100000

/-- Which step is meant. -/
def tk (xs ys : List Int) (k : Int) : Nat := if k < 0 then 0 else if (tsteps xs ys : Int) < k then tsteps xs ys else k.toNat
/-- What there is behind k steps. -/
def tearAt (xs ys : List Int) (K : Nat) : List Int := if K ≤ xs.length - share xs ys then xs.take (xs.length - K) else ys.take (share xs ys + K - (xs.length - share xs ys))
def tear (xs ys : List Int) (k : Int) : List Int := tearAt xs ys (tk xs ys k)

theorem tk_le (xs ys : List Int) (k : Int) : tk xs ys k ≤ tsteps xs ys := by
  unfold tk
  split
  · omega
  · split <;> omega

theorem tearAt_len (xs ys : List Int) (K : Nat) (h : K ≤ tsteps xs ys) : (tearAt xs ys K).length = if K ≤ xs.length - share xs ys then xs.length - K else share xs ys + K - (xs.length - share xs ys) := by
  have h1 := share_le xs ys
  unfold tsteps at h
  unfold tearAt
  split
  · rw [List.length_take]; omega
  · rw [List.length_take]; omega

theorem tear_len_le (xs ys : List Int) (k : Int) (n m : Nat) (h1 : xs.length = n) (h2 : ys.length = m) : (tear xs ys k).length ≤ n + m := by
  unfold tear tearAt
  split
  · rw [List.length_take]; omega
  · rw [List.length_take]; omega

set_option maxRecDepth 100000 in
set_option maxHeartbeats 2000000 in
theorem specTear_any (a b : Option Addr) (n m ca cb : Nat) (xs ys : List Int) (k : Int) (w : World) (hl : Hid (xs.length = n)) (hm : Hid (ys.length = m)) (hra : Rd w a xs) (hrb : Rd w b ys) (hn : n ≤ 2097152) (hmm : m ≤ 2097152)
    (hca : n ≤ ca) (hcb : m ≤ cb) (hcm : ca ≤ maxLen) (hcn : cb ≤ maxLen) (hna : a = none → ca = 0) (hnb : b = none → cb = 0) (hk1 : -9223372036854775808 ≤ k) (hk2 : k ≤ 9223372036854775807) :
    Calls Tryz.prog 35 #[.slice a n ca, .slice b m cb, .int .i64 k] w fun e w' => ∃ v, e = .returned v ∧ w'.ownsRow w.heap.size 5 1 v (tear xs ys k).length ((tear xs ys k).map (Value.int .u8)) ∧ Below w.heap.size w w' := by
  obtain ⟨i0, hi, hz0, hz1, hz2⟩ := info_parts Tryz.infoB
  have hm0 : (0 : Nat) ≤ maxLen := Nat.zero_le _
  have hlen : Hid ((tear xs ys k).length = if tk xs ys k ≤ xs.length - share xs ys then xs.length - tk xs ys k else share xs ys + tk xs ys k - (xs.length - share xs ys)) := tearAt_len xs ys (tk xs ys k) (tk_le xs ys k)
  have hval : Hid (tear xs ys k = if tk xs ys k ≤ xs.length - share xs ys then xs.take (xs.length - tk xs ys k) else ys.take (share xs ys + tk xs ys k - (xs.length - share xs ys))) := rfl
  have hkle := tk_le xs ys k
  have HK : Hid (tk xs ys k = if k < 0 then 0 else if (tsteps xs ys : Int) < k then tsteps xs ys else k.toNat) := rfl
  obtain ⟨Z, hZ⟩ : ∃ Z, Z = tear xs ys k := ⟨_, rfl⟩
  obtain ⟨K, hK⟩ : ∃ K, K = tk xs ys k := ⟨_, rfl⟩
  obtain ⟨T, hT⟩ : ∃ T, T = tsteps xs ys := ⟨_, rfl⟩
  obtain ⟨S, hS⟩ : ∃ S, S = share xs ys := ⟨_, rfl⟩
  have hT2 : T = (n - S) + (m - S) := by rw [hT, hS]; unfold tsteps; rw [hl.out, hm.out]
  have hSn : S ≤ n := by have := (share_le xs ys).1; rw [hl.out] at this; omega
  have hSm : S ≤ m := by have := (share_le xs ys).2; rw [hm.out] at this; omega
  have qsteps : Hid (∀ w', Below w.heap.size w w' → Calls Tryz.prog 79 #[.slice a n ca, .slice b m cb] w' fun e w'' => e = .returned (.int .i64 T) ∧ ∃ q, w'' = w'.drewN q) := by
    intro w' hb; rw [hT]; exact specSteps_any a b n m _ _ xs ys w' hl hm (hra.later hb) (hrb.later hb) hn hmm
  have qshare : Hid (∀ w', Below w.heap.size w w' → Calls Tryz.prog 80 #[.slice a n ca, .slice b m cb] w' fun e w'' => e = .returned (.int .i64 S) ∧ ∃ q, w'' = w'.drewN q) := by
    intro w' hb; rw [hS]; exact specShare_any a b n m _ _ xs ys w' hl hm (hra.later hb) (hrb.later hb) hn hmm
  rw [← hZ, ← hK, ← hS, hl.out] at hlen
  rw [← hZ, ← hK, ← hS, hl.out] at hval
  rw [← hK, ← hT] at HK
  rw [← hK, ← hT] at hkle
  rw [← hZ]
  clear hZ hK hT hS
  have HT2 : Hid (T = (n - S) + (m - S)) := hT2
  clear hT2
  unfold maxLen at hcm hcn
  by_cases hc0 : k < 0
  · have hKe : K = 0 := by have := HK.out; rw [if_pos hc0] at this; exact this
    subst hKe
    clear HK
    have hcmp : (0 : Int) ≤ (n : Int) - (S : Int) := by omega
    have hZ1 : Hid (Z = xs.take n) := by show Z = _; rw [hval.out, if_pos (Nat.zero_le _)]; rfl
    have hJb : n ≤ n := Nat.le_refl _
    have hZ2 : Hid (Z.length = n) := by show Z.length = _; rw [hZ1.out, List.length_take]; have := hl.out; have := hm.out; omega
    rw [hZ2.out, hZ1.out]
    clear hval hlen
    cases a with
    | none =>
      have hz := rd_none hra
      have h0 : n = 0 := by have := hl.out; rw [hz] at this; simpa using this.symm
      obtain rfl := hna rfl
      subst h0
      have hS0 : S = 0 := by omega
      subst hS0
      go_enter Tryz.func35, Tryz.ntmps35
      go_wp2_with fail
      refine (qsteps.out _ (Below.refl _ _)).mono ?_
      rintro e w1 ⟨rfl, q1, hw1⟩
      have hb1 : Below w.heap.size w w1 := by rw [hw1]; exact below_drewN (Below.refl _ _) q1
      clear hw1
      go_wp2_with fail
      refine (qshare.out _ hb1).mono ?_
      rintro e w3 ⟨rfl, q3, hw3⟩
      have hb3 : Below w.heap.size w w3 := by rw [hw3]; exact below_drewN hb1 q3
      have hown00 := World.ownsRow_lit (base := w.heap.size) (e := 5) (size := 1) w3 #[] 0 hb3.size hm0 rfl
      have hs3 := hb3.size
      clear hw3
      have HO : Hid (_) := hown00
      go_wp2_with (at_builtin; refine wpList_append_own_none rfl _ _ 43 rfl w.heap.size 5 i0 1 Tryz.underlying43 hi _ 0 _ rfl hown00 rfl ?_)
      go_wp2
      go_ret
      refine ⟨_, rfl, ?_, hb3.alloc hs3 _⟩
      rw [hz]; simpa using hown00
    | some ad =>
      go_enter Tryz.func35, Tryz.ntmps35
      go_wp2_with fail
      refine (qsteps.out _ (Below.refl _ _)).mono ?_
      rintro e w1 ⟨rfl, q1, hw1⟩
      have hb1 : Below w.heap.size w w1 := by rw [hw1]; exact below_drewN (Below.refl _ _) q1
      clear hw1
      go_wp2_with fail
      refine (qshare.out _ hb1).mono ?_
      rintro e w3 ⟨rfl, q3, hw3⟩
      have hb3 : Below w.heap.size w w3 := by rw [hw3]; exact below_drewN hb1 q3
      have hown00 := World.ownsRow_lit (base := w.heap.size) (e := 5) (size := 1) w3 #[] 0 hb3.size hm0 rfl
      have hs3 := hb3.size
      clear hw3
      have hsrc := rd_src (((rd_take hra n).later (hb3)).later ((Below.refl w3.heap.size w3).alloc (Nat.le_refl _) (.cells #[] 5)))
      have k0 : ((xs.take n).map (Value.int .u8)).length = n * 1 := by rw [List.length_map, ← hZ1.out, hZ2.out]; omega
      have k3 : 0 + n ≤ maxLen := by unfold maxLen; omega
      have k4 : (0 + n) * 1 ≤ 140737488355328 := by omega
      have k5 : w.heap.size ≤ (w3.alloc (.cells #[] 5)).heap.size := by simp; omega
      have K5 : Hid (_ ∧ _ ∧ _ ∧ _ ∧ _) := ⟨k0, hsrc, k3, k4, k5⟩
      clear k0 k3 k4 k5 hsrc
      go_wp2_with (at_builtin; refine wpList_append_own _ rfl _ _ 43 rfl w.heap.size 5 i0 (.int .u8 0) 1 1 Tryz.underlying43 hi hz0 hz1 hz2 rfl (by decide) _ _ _ rfl hown00 ad n _ ((xs.take n).map (Value.int .u8)) rfl K5.out.1 K5.out.2.1 (bytes_oneCell _) K5.out.2.2.1 K5.out.2.2.2.1 K5.out.2.2.2.2 ?_)
      intro v0 w4 hown1 hgrow1 _
      have hbel1 : Below w.heap.size w w4 := (hb3.alloc hs3 _).grown hgrow1 (by simp; omega) (fun k h => by simp [Value.ownBlock] at h; omega)
      go_wp2
      go_ret
      exact ⟨_, rfl, by simpa using hown1, hbel1⟩
  by_cases hc1 : (T : Int) < k
  · have hKe : K = T := by have := HK.out; rw [if_neg hc0, if_pos hc1] at this; exact this
    subst hKe
    clear HK
    by_cases hle : K ≤ n - S
    · have hcmp : (K : Int) ≤ (n : Int) - (S : Int) := by omega
      obtain ⟨J, hJ⟩ : ∃ J : Nat, J = n - K := ⟨_, rfl⟩
      have hJe : (n : Int) - (K : Int) = (J : Int) := by omega
      have hJb : J ≤ n := by have := HT2.out; omega
      have hZ1 : Hid (Z = xs.take J) := by show Z = _; rw [hval.out, if_pos hle, hJ]
      have HJ : Hid (J = n - K) := hJ
      clear hJ
      have hZ2 : Hid (Z.length = J) := by show Z.length = _; rw [hZ1.out, List.length_take]; have := hl.out; have := hm.out; omega
      rw [hZ2.out, hZ1.out]
      clear hval hlen
      cases a with
      | none =>
        have hz := rd_none hra
        have h0 : n = 0 := by have := hl.out; rw [hz] at this; simpa using this.symm
        obtain rfl := hna rfl
        subst h0
        have hS0 : S = 0 := by omega
        subst hS0
        have hJ0 : J = 0 := by omega
        subst hJ0
        have hK0 : K = 0 := by omega
        subst hK0
        go_enter Tryz.func35, Tryz.ntmps35
        go_wp2_with fail
        refine (qsteps.out _ (Below.refl _ _)).mono ?_
        rintro e w1 ⟨rfl, q1, hw1⟩
        have hb1 : Below w.heap.size w w1 := by rw [hw1]; exact below_drewN (Below.refl _ _) q1
        clear hw1
        go_wp2_with fail
        refine (qsteps.out _ hb1).mono ?_
        rintro e w2 ⟨rfl, q2, hw2⟩
        have hb2 : Below w.heap.size w w2 := by rw [hw2]; exact below_drewN hb1 q2
        clear hw2
        go_wp2_with fail
        refine (qshare.out _ hb2).mono ?_
        rintro e w3 ⟨rfl, q3, hw3⟩
        have hb3 : Below w.heap.size w w3 := by rw [hw3]; exact below_drewN hb2 q3
        have hown00 := World.ownsRow_lit (base := w.heap.size) (e := 5) (size := 1) w3 #[] 0 hb3.size hm0 rfl
        have hs3 := hb3.size
        clear hw3
        have HO : Hid (_) := hown00
        go_wp2_with (at_builtin; refine wpList_append_own_none rfl _ _ 43 rfl w.heap.size 5 i0 1 Tryz.underlying43 hi _ 0 _ rfl hown00 rfl ?_)
        go_wp2
        go_ret
        refine ⟨_, rfl, ?_, hb3.alloc hs3 _⟩
        rw [hz]; simpa using hown00
      | some ad =>
        go_enter Tryz.func35, Tryz.ntmps35
        go_wp2_with fail
        refine (qsteps.out _ (Below.refl _ _)).mono ?_
        rintro e w1 ⟨rfl, q1, hw1⟩
        have hb1 : Below w.heap.size w w1 := by rw [hw1]; exact below_drewN (Below.refl _ _) q1
        clear hw1
        go_wp2_with fail
        refine (qsteps.out _ hb1).mono ?_
        rintro e w2 ⟨rfl, q2, hw2⟩
        have hb2 : Below w.heap.size w w2 := by rw [hw2]; exact below_drewN hb1 q2
        clear hw2
        go_wp2_with fail
        refine (qshare.out _ hb2).mono ?_
        rintro e w3 ⟨rfl, q3, hw3⟩
        have hb3 : Below w.heap.size w w3 := by rw [hw3]; exact below_drewN hb2 q3
        have hown00 := World.ownsRow_lit (base := w.heap.size) (e := 5) (size := 1) w3 #[] 0 hb3.size hm0 rfl
        have hs3 := hb3.size
        clear hw3
        have hsrc := rd_src (((rd_take hra J).later (hb3)).later ((Below.refl w3.heap.size w3).alloc (Nat.le_refl _) (.cells #[] 5)))
        have k0 : ((xs.take J).map (Value.int .u8)).length = J * 1 := by rw [List.length_map, ← hZ1.out, hZ2.out]; omega
        have k3 : 0 + J ≤ maxLen := by unfold maxLen; omega
        have k4 : (0 + J) * 1 ≤ 140737488355328 := by omega
        have k5 : w.heap.size ≤ (w3.alloc (.cells #[] 5)).heap.size := by simp; omega
        have K5 : Hid (_ ∧ _ ∧ _ ∧ _ ∧ _) := ⟨k0, hsrc, k3, k4, k5⟩
        clear k0 k3 k4 k5 hsrc
        go_wp2_with (at_builtin; refine wpList_append_own _ rfl _ _ 43 rfl w.heap.size 5 i0 (.int .u8 0) 1 1 Tryz.underlying43 hi hz0 hz1 hz2 rfl (by decide) _ _ _ rfl hown00 ad J _ ((xs.take J).map (Value.int .u8)) rfl K5.out.1 K5.out.2.1 (bytes_oneCell _) K5.out.2.2.1 K5.out.2.2.2.1 K5.out.2.2.2.2 ?_)
        intro v0 w4 hown1 hgrow1 _
        have hbel1 : Below w.heap.size w w4 := (hb3.alloc hs3 _).grown hgrow1 (by simp; omega) (fun k h => by simp [Value.ownBlock] at h; omega)
        go_wp2
        go_ret
        exact ⟨_, rfl, by simpa using hown1, hbel1⟩
    · have hcmp : ¬ (K : Int) ≤ (n : Int) - (S : Int) := by omega
      obtain ⟨J, hJ⟩ : ∃ J : Nat, J = S + K - (n - S) := ⟨_, rfl⟩
      have hJe : (S : Int) + (K : Int) - ((n : Int) - (S : Int)) = (J : Int) := by omega
      have hJb : J ≤ m := by have := HT2.out; omega
      have hZ1 : Hid (Z = ys.take J) := by show Z = _; rw [hval.out, if_neg hle, hJ]
      have HJ : Hid (J = S + K - (n - S)) := hJ
      clear hJ
      have hZ2 : Hid (Z.length = J) := by show Z.length = _; rw [hZ1.out, List.length_take]; have := hl.out; have := hm.out; omega
      rw [hZ2.out, hZ1.out]
      clear hval hlen
      cases b with
      | none =>
        have hz := rd_none hrb
        exfalso
        have h0 : m = 0 := by have := hm.out; rw [hz] at this; simpa using this.symm
        have := HJ.out
        omega
      | some ad =>
        go_enter Tryz.func35, Tryz.ntmps35
        go_wp2_with fail
        refine (qsteps.out _ (Below.refl _ _)).mono ?_
        rintro e w1 ⟨rfl, q1, hw1⟩
        have hb1 : Below w.heap.size w w1 := by rw [hw1]; exact below_drewN (Below.refl _ _) q1
        clear hw1
        go_wp2_with fail
        refine (qsteps.out _ hb1).mono ?_
        rintro e w2 ⟨rfl, q2, hw2⟩
        have hb2 : Below w.heap.size w w2 := by rw [hw2]; exact below_drewN hb1 q2
        clear hw2
        go_wp2_with fail
        refine (qshare.out _ hb2).mono ?_
        rintro e w3 ⟨rfl, q3, hw3⟩
        have hb3 : Below w.heap.size w w3 := by rw [hw3]; exact below_drewN hb2 q3
        have hown00 := World.ownsRow_lit (base := w.heap.size) (e := 5) (size := 1) w3 #[] 0 hb3.size hm0 rfl
        have hs3 := hb3.size
        clear hw3
        have hsrc := rd_src (((rd_take hrb J).later (hb3)).later ((Below.refl w3.heap.size w3).alloc (Nat.le_refl _) (.cells #[] 5)))
        have k0 : ((ys.take J).map (Value.int .u8)).length = J * 1 := by rw [List.length_map, ← hZ1.out, hZ2.out]; omega
        have k3 : 0 + J ≤ maxLen := by unfold maxLen; omega
        have k4 : (0 + J) * 1 ≤ 140737488355328 := by omega
        have k5 : w.heap.size ≤ (w3.alloc (.cells #[] 5)).heap.size := by simp; omega
        have K5 : Hid (_ ∧ _ ∧ _ ∧ _ ∧ _) := ⟨k0, hsrc, k3, k4, k5⟩
        clear k0 k3 k4 k5 hsrc
        go_wp2_with (at_builtin; refine wpList_append_own _ rfl _ _ 43 rfl w.heap.size 5 i0 (.int .u8 0) 1 1 Tryz.underlying43 hi hz0 hz1 hz2 rfl (by decide) _ _ _ rfl hown00 ad J _ ((ys.take J).map (Value.int .u8)) rfl K5.out.1 K5.out.2.1 (bytes_oneCell _) K5.out.2.2.1 K5.out.2.2.2.1 K5.out.2.2.2.2 ?_)
        intro v0 w4 hown1 hgrow1 _
        have hbel1 : Below w.heap.size w w4 := (hb3.alloc hs3 _).grown hgrow1 (by simp; omega) (fun k h => by simp [Value.ownBlock] at h; omega)
        go_wp2
        go_ret
        exact ⟨_, rfl, by simpa using hown1, hbel1⟩
  · have hKe : k = (K : Int) := by have := HK.out; rw [if_neg hc0, if_neg hc1] at this; omega
    subst hKe
    clear HK
    by_cases hle : K ≤ n - S
    · have hcmp : (K : Int) ≤ (n : Int) - (S : Int) := by omega
      obtain ⟨J, hJ⟩ : ∃ J : Nat, J = n - K := ⟨_, rfl⟩
      have hJe : (n : Int) - (K : Int) = (J : Int) := by omega
      have hJb : J ≤ n := by have := HT2.out; omega
      have hZ1 : Hid (Z = xs.take J) := by show Z = _; rw [hval.out, if_pos hle, hJ]
      have HJ : Hid (J = n - K) := hJ
      clear hJ
      have hZ2 : Hid (Z.length = J) := by show Z.length = _; rw [hZ1.out, List.length_take]; have := hl.out; have := hm.out; omega
      rw [hZ2.out, hZ1.out]
      clear hval hlen
      cases a with
      | none =>
        have hz := rd_none hra
        have h0 : n = 0 := by have := hl.out; rw [hz] at this; simpa using this.symm
        obtain rfl := hna rfl
        subst h0
        have hS0 : S = 0 := by omega
        subst hS0
        have hJ0 : J = 0 := by omega
        subst hJ0
        have hK0 : K = 0 := by omega
        subst hK0
        go_enter Tryz.func35, Tryz.ntmps35
        go_wp2_with fail
        refine (qsteps.out _ (Below.refl _ _)).mono ?_
        rintro e w1 ⟨rfl, q1, hw1⟩
        have hb1 : Below w.heap.size w w1 := by rw [hw1]; exact below_drewN (Below.refl _ _) q1
        clear hw1
        go_wp2_with fail
        refine (qshare.out _ hb1).mono ?_
        rintro e w3 ⟨rfl, q3, hw3⟩
        have hb3 : Below w.heap.size w w3 := by rw [hw3]; exact below_drewN hb1 q3
        have hown00 := World.ownsRow_lit (base := w.heap.size) (e := 5) (size := 1) w3 #[] 0 hb3.size hm0 rfl
        have hs3 := hb3.size
        clear hw3
        have HO : Hid (_) := hown00
        go_wp2_with (at_builtin; refine wpList_append_own_none rfl _ _ 43 rfl w.heap.size 5 i0 1 Tryz.underlying43 hi _ 0 _ rfl hown00 rfl ?_)
        go_wp2
        go_ret
        refine ⟨_, rfl, ?_, hb3.alloc hs3 _⟩
        rw [hz]; simpa using hown00
      | some ad =>
        go_enter Tryz.func35, Tryz.ntmps35
        go_wp2_with fail
        refine (qsteps.out _ (Below.refl _ _)).mono ?_
        rintro e w1 ⟨rfl, q1, hw1⟩
        have hb1 : Below w.heap.size w w1 := by rw [hw1]; exact below_drewN (Below.refl _ _) q1
        clear hw1
        go_wp2_with fail
        refine (qshare.out _ hb1).mono ?_
        rintro e w3 ⟨rfl, q3, hw3⟩
        have hb3 : Below w.heap.size w w3 := by rw [hw3]; exact below_drewN hb1 q3
        have hown00 := World.ownsRow_lit (base := w.heap.size) (e := 5) (size := 1) w3 #[] 0 hb3.size hm0 rfl
        have hs3 := hb3.size
        clear hw3
        have hsrc := rd_src (((rd_take hra J).later (hb3)).later ((Below.refl w3.heap.size w3).alloc (Nat.le_refl _) (.cells #[] 5)))
        have k0 : ((xs.take J).map (Value.int .u8)).length = J * 1 := by rw [List.length_map, ← hZ1.out, hZ2.out]; omega
        have k3 : 0 + J ≤ maxLen := by unfold maxLen; omega
        have k4 : (0 + J) * 1 ≤ 140737488355328 := by omega
        have k5 : w.heap.size ≤ (w3.alloc (.cells #[] 5)).heap.size := by simp; omega
        have K5 : Hid (_ ∧ _ ∧ _ ∧ _ ∧ _) := ⟨k0, hsrc, k3, k4, k5⟩
        clear k0 k3 k4 k5 hsrc
        go_wp2_with (at_builtin; refine wpList_append_own _ rfl _ _ 43 rfl w.heap.size 5 i0 (.int .u8 0) 1 1 Tryz.underlying43 hi hz0 hz1 hz2 rfl (by decide) _ _ _ rfl hown00 ad J _ ((xs.take J).map (Value.int .u8)) rfl K5.out.1 K5.out.2.1 (bytes_oneCell _) K5.out.2.2.1 K5.out.2.2.2.1 K5.out.2.2.2.2 ?_)
        intro v0 w4 hown1 hgrow1 _
        have hbel1 : Below w.heap.size w w4 := (hb3.alloc hs3 _).grown hgrow1 (by simp; omega) (fun k h => by simp [Value.ownBlock] at h; omega)
        go_wp2
        go_ret
        exact ⟨_, rfl, by simpa using hown1, hbel1⟩
    · have hcmp : ¬ (K : Int) ≤ (n : Int) - (S : Int) := by omega
      obtain ⟨J, hJ⟩ : ∃ J : Nat, J = S + K - (n - S) := ⟨_, rfl⟩
      have hJe : (S : Int) + (K : Int) - ((n : Int) - (S : Int)) = (J : Int) := by omega
      have hJb : J ≤ m := by have := HT2.out; omega
      have hZ1 : Hid (Z = ys.take J) := by show Z = _; rw [hval.out, if_neg hle, hJ]
      have HJ : Hid (J = S + K - (n - S)) := hJ
      clear hJ
      have hZ2 : Hid (Z.length = J) := by show Z.length = _; rw [hZ1.out, List.length_take]; have := hl.out; have := hm.out; omega
      rw [hZ2.out, hZ1.out]
      clear hval hlen
      cases b with
      | none =>
        have hz := rd_none hrb
        exfalso
        have h0 : m = 0 := by have := hm.out; rw [hz] at this; simpa using this.symm
        have := HJ.out
        omega
      | some ad =>
        go_enter Tryz.func35, Tryz.ntmps35
        go_wp2_with fail
        refine (qsteps.out _ (Below.refl _ _)).mono ?_
        rintro e w1 ⟨rfl, q1, hw1⟩
        have hb1 : Below w.heap.size w w1 := by rw [hw1]; exact below_drewN (Below.refl _ _) q1
        clear hw1
        go_wp2_with fail
        refine (qshare.out _ hb1).mono ?_
        rintro e w3 ⟨rfl, q3, hw3⟩
        have hb3 : Below w.heap.size w w3 := by rw [hw3]; exact below_drewN hb1 q3
        have hown00 := World.ownsRow_lit (base := w.heap.size) (e := 5) (size := 1) w3 #[] 0 hb3.size hm0 rfl
        have hs3 := hb3.size
        clear hw3
        have hsrc := rd_src (((rd_take hrb J).later (hb3)).later ((Below.refl w3.heap.size w3).alloc (Nat.le_refl _) (.cells #[] 5)))
        have k0 : ((ys.take J).map (Value.int .u8)).length = J * 1 := by rw [List.length_map, ← hZ1.out, hZ2.out]; omega
        have k3 : 0 + J ≤ maxLen := by unfold maxLen; omega
        have k4 : (0 + J) * 1 ≤ 140737488355328 := by omega
        have k5 : w.heap.size ≤ (w3.alloc (.cells #[] 5)).heap.size := by simp; omega
        have K5 : Hid (_ ∧ _ ∧ _ ∧ _ ∧ _) := ⟨k0, hsrc, k3, k4, k5⟩
        clear k0 k3 k4 k5 hsrc
        go_wp2_with (at_builtin; refine wpList_append_own _ rfl _ _ 43 rfl w.heap.size 5 i0 (.int .u8 0) 1 1 Tryz.underlying43 hi hz0 hz1 hz2 rfl (by decide) _ _ _ rfl hown00 ad J _ ((ys.take J).map (Value.int .u8)) rfl K5.out.1 K5.out.2.1 (bytes_oneCell _) K5.out.2.2.1 K5.out.2.2.2.1 K5.out.2.2.2.2 ?_)
        intro v0 w4 hown1 hgrow1 _
        have hbel1 : Below w.heap.size w w4 := (hb3.alloc hs3 _).grown hgrow1 (by simp; omega) (fun k h => by simp [Value.ownBlock] at h; omega)
        go_wp2
        go_ret
        exact ⟨_, rfl, by simpa using hown1, hbel1⟩

theorem own_base2 {w : World} {base base' : Nat} {e : TypeId} {size : Nat} {v : Value} {n : Nat} {xs : List Value} (h : w.ownsRow base e size v n xs) (hb : base' ≤ base) : w.ownsRow base' e size v n xs := by
  refine ⟨h.1, ?_⟩
  rcases h.2 with h1 | ⟨g, cap, cur, hv, hg, r⟩
  · exact .inl h1
  · exact .inr ⟨g, cap, cur, hv, Nat.le_trans hb hg, r⟩

set_option maxRecDepth 100000 in
set_option maxHeartbeats 2000000 in
theorem implTear_any (a b : Option Addr) (n m ca cb : Nat) (xs ys : List Int) (k : Int) (w : World) (hl : Hid (xs.length = n)) (hm : Hid (ys.length = m)) (hra : Rd w a xs) (hrb : Rd w b ys) (hn : n ≤ 2097152) (hmm : m ≤ 2097152)
    (hca : n ≤ ca) (hcb : m ≤ cb) (hcm : ca ≤ maxLen) (hcn : cb ≤ maxLen) (hna : a = none → ca = 0) (hnb : b = none → cb = 0) (hk1 : -9223372036854775808 ≤ k) (hk2 : k ≤ 9223372036854775807) :
    Calls Tryz.prog 99 #[.slice a n ca, .slice b m cb, .int .i64 k] w fun e w' => ∃ v, e = .returned v ∧ w'.ownsRow w.heap.size 5 1 v (tear xs ys k).length ((tear xs ys k).map (Value.int .u8)) ∧ Below w.heap.size w w' := by
  obtain ⟨i0, hi, hz0, hz1, hz2⟩ := info_parts Tryz.infoB
  have hm0 : (0 : Nat) ≤ maxLen := Nat.zero_le _
  have hlen : Hid ((tear xs ys k).length = if tk xs ys k ≤ xs.length - share xs ys then xs.length - tk xs ys k else share xs ys + tk xs ys k - (xs.length - share xs ys)) := tearAt_len xs ys (tk xs ys k) (tk_le xs ys k)
  have hval : Hid (tear xs ys k = if tk xs ys k ≤ xs.length - share xs ys then xs.take (xs.length - tk xs ys k) else ys.take (share xs ys + tk xs ys k - (xs.length - share xs ys))) := rfl
  have hkle := tk_le xs ys k
  have HK : Hid (tk xs ys k = if k < 0 then 0 else if (tsteps xs ys : Int) < k then tsteps xs ys else k.toNat) := rfl
  obtain ⟨Z, hZ⟩ : ∃ Z, Z = tear xs ys k := ⟨_, rfl⟩
  obtain ⟨K, hK⟩ : ∃ K, K = tk xs ys k := ⟨_, rfl⟩
  obtain ⟨T, hT⟩ : ∃ T, T = tsteps xs ys := ⟨_, rfl⟩
  obtain ⟨S, hS⟩ : ∃ S, S = share xs ys := ⟨_, rfl⟩
  have hT2 : T = (n - S) + (m - S) := by rw [hT, hS]; unfold tsteps; rw [hl.out, hm.out]
  have hSn : S ≤ n := by have := (share_le xs ys).1; rw [hl.out] at this; omega
  have hSm : S ≤ m := by have := (share_le xs ys).2; rw [hm.out] at this; omega
  have qsteps : Hid (∀ w', Below w.heap.size w w' → Calls Tryz.prog 128 #[.slice a n ca, .slice b m cb] w' fun e w'' => e = .returned (.int .i64 T) ∧ ∃ q, w'' = w'.drewN q) := by
    intro w' hb; rw [hT]; exact implSteps_any a b n m _ _ xs ys w' hl hm (hra.later hb) (hrb.later hb) hn hmm
  have qshare : Hid (∀ w', Below w.heap.size w w' → Calls Tryz.prog 127 #[.slice a n ca, .slice b m cb] w' fun e w'' => e = .returned (.int .i64 S) ∧ ∃ q, w'' = w'.drewN q) := by
    intro w' hb; rw [hS]; exact implShare_any a b n m _ _ xs ys w' hl hm (hra.later hb) (hrb.later hb) hn hmm
  rw [← hZ, ← hK, ← hS, hl.out] at hlen
  rw [← hZ, ← hK, ← hS, hl.out] at hval
  rw [← hK, ← hT] at HK
  rw [← hK, ← hT] at hkle
  rw [← hZ]
  clear hZ hK hT hS
  have HT2 : Hid (T = (n - S) + (m - S)) := hT2
  clear hT2
  unfold maxLen at hcm hcn
  by_cases hc0 : k < 0
  · have hKe : K = 0 := by have := HK.out; rw [if_pos hc0] at this; exact this
    subst hKe
    clear HK
    have hmx : ¬ (T : Int) < 0 := by omega
    have hcmp : (0 : Int) ≤ (n : Int) - (S : Int) := by omega
    have hZ1 : Hid (Z = xs.take n) := by show Z = _; rw [hval.out, if_pos (Nat.zero_le _)]; rfl
    have hJb : n ≤ n := Nat.le_refl _
    have hZ2 : Hid (Z.length = n) := by show Z.length = _; rw [hZ1.out, List.length_take]; have := hl.out; have := hm.out; omega
    rw [hZ2.out, hZ1.out]
    clear hval hlen
    go_enter Tryz.func99, Tryz.ntmps99
    go_wp2_with fail
    refine (qshare.out _ (Below.refl _ _)).mono ?_
    rintro e w1 ⟨rfl, q1, hw1⟩
    have hb1 : Below w.heap.size w w1 := by rw [hw1]; exact below_drewN (Below.refl _ _) q1
    clear hw1
    go_wp2_with fail
    refine (qsteps.out _ hb1).mono ?_
    rintro e w2 ⟨rfl, q2, hw2⟩
    have hb3 : Below w.heap.size w w2 := by rw [hw2]; exact below_drewN hb1 q2
    clear hw2
    go_wp2_with fail
    refine (clone_any _ n _ (xs.take n) _ (by show _ = n; rw [← hZ1.out]; exact hZ2.out) ((rd_take hra n).later hb3) (by omega)).mono ?_
    rintro e w4 ⟨v, rfl, hown, hb4⟩
    have hb5 := hb3.trans (hb4.mono hb3.size)
    have hown5 := own_base2 hown hb3.size
    go_wp2
    go_ret
    exact ⟨_, rfl, hown5, hb5⟩
  by_cases hc1 : (T : Int) < k
  · have hKe : K = T := by have := HK.out; rw [if_neg hc0, if_pos hc1] at this; exact this
    subst hKe
    clear HK
    by_cases hle : K ≤ n - S
    · have hcmp : (K : Int) ≤ (n : Int) - (S : Int) := by omega
      obtain ⟨J, hJ⟩ : ∃ J : Nat, J = n - K := ⟨_, rfl⟩
      have hJe : (n : Int) - (K : Int) = (J : Int) := by omega
      have hJb : J ≤ n := by have := HT2.out; omega
      have hZ1 : Hid (Z = xs.take J) := by show Z = _; rw [hval.out, if_pos hle, hJ]
      have HJ : Hid (J = n - K) := hJ
      clear hJ
      have hZ2 : Hid (Z.length = J) := by show Z.length = _; rw [hZ1.out, List.length_take]; have := hl.out; have := hm.out; omega
      rw [hZ2.out, hZ1.out]
      clear hval hlen
      go_enter Tryz.func99, Tryz.ntmps99
      go_wp2_with fail
      refine (qshare.out _ (Below.refl _ _)).mono ?_
      rintro e w1 ⟨rfl, q1, hw1⟩
      have hb1 : Below w.heap.size w w1 := by rw [hw1]; exact below_drewN (Below.refl _ _) q1
      clear hw1
      go_wp2_with fail
      refine (qsteps.out _ hb1).mono ?_
      rintro e w2 ⟨rfl, q2, hw2⟩
      have hb3 : Below w.heap.size w w2 := by rw [hw2]; exact below_drewN hb1 q2
      clear hw2
      go_wp2_with fail
      refine (clone_any _ J _ (xs.take J) _ (by show _ = J; rw [← hZ1.out]; exact hZ2.out) ((rd_take hra J).later hb3) (by omega)).mono ?_
      rintro e w4 ⟨v, rfl, hown, hb4⟩
      have hb5 := hb3.trans (hb4.mono hb3.size)
      have hown5 := own_base2 hown hb3.size
      go_wp2
      go_ret
      exact ⟨_, rfl, hown5, hb5⟩
    · have hcmp : ¬ (K : Int) ≤ (n : Int) - (S : Int) := by omega
      obtain ⟨J, hJ⟩ : ∃ J : Nat, J = S + K - (n - S) := ⟨_, rfl⟩
      have hJe : (S : Int) + (K : Int) - ((n : Int) - (S : Int)) = (J : Int) := by omega
      have hJb : J ≤ m := by have := HT2.out; omega
      have hZ1 : Hid (Z = ys.take J) := by show Z = _; rw [hval.out, if_neg hle, hJ]
      have HJ : Hid (J = S + K - (n - S)) := hJ
      clear hJ
      have hZ2 : Hid (Z.length = J) := by show Z.length = _; rw [hZ1.out, List.length_take]; have := hl.out; have := hm.out; omega
      rw [hZ2.out, hZ1.out]
      clear hval hlen
      go_enter Tryz.func99, Tryz.ntmps99
      go_wp2_with fail
      refine (qshare.out _ (Below.refl _ _)).mono ?_
      rintro e w1 ⟨rfl, q1, hw1⟩
      have hb1 : Below w.heap.size w w1 := by rw [hw1]; exact below_drewN (Below.refl _ _) q1
      clear hw1
      go_wp2_with fail
      refine (qsteps.out _ hb1).mono ?_
      rintro e w2 ⟨rfl, q2, hw2⟩
      have hb3 : Below w.heap.size w w2 := by rw [hw2]; exact below_drewN hb1 q2
      clear hw2
      go_wp2_with fail
      refine (clone_any _ J _ (ys.take J) _ (by show _ = J; rw [← hZ1.out]; exact hZ2.out) ((rd_take hrb J).later hb3) (by omega)).mono ?_
      rintro e w4 ⟨v, rfl, hown, hb4⟩
      have hb5 := hb3.trans (hb4.mono hb3.size)
      have hown5 := own_base2 hown hb3.size
      go_wp2
      go_ret
      exact ⟨_, rfl, hown5, hb5⟩
  · have hKe : k = (K : Int) := by have := HK.out; rw [if_neg hc0, if_neg hc1] at this; omega
    subst hKe
    clear HK
    by_cases hle : K ≤ n - S
    · have hcmp : (K : Int) ≤ (n : Int) - (S : Int) := by omega
      obtain ⟨J, hJ⟩ : ∃ J : Nat, J = n - K := ⟨_, rfl⟩
      have hJe : (n : Int) - (K : Int) = (J : Int) := by omega
      have hJb : J ≤ n := by have := HT2.out; omega
      have hZ1 : Hid (Z = xs.take J) := by show Z = _; rw [hval.out, if_pos hle, hJ]
      have HJ : Hid (J = n - K) := hJ
      clear hJ
      have hZ2 : Hid (Z.length = J) := by show Z.length = _; rw [hZ1.out, List.length_take]; have := hl.out; have := hm.out; omega
      rw [hZ2.out, hZ1.out]
      clear hval hlen
      go_enter Tryz.func99, Tryz.ntmps99
      go_wp2_with fail
      refine (qshare.out _ (Below.refl _ _)).mono ?_
      rintro e w1 ⟨rfl, q1, hw1⟩
      have hb1 : Below w.heap.size w w1 := by rw [hw1]; exact below_drewN (Below.refl _ _) q1
      clear hw1
      go_wp2_with fail
      refine (qsteps.out _ hb1).mono ?_
      rintro e w2 ⟨rfl, q2, hw2⟩
      have hb3 : Below w.heap.size w w2 := by rw [hw2]; exact below_drewN hb1 q2
      clear hw2
      go_wp2_with fail
      refine (clone_any _ J _ (xs.take J) _ (by show _ = J; rw [← hZ1.out]; exact hZ2.out) ((rd_take hra J).later hb3) (by omega)).mono ?_
      rintro e w4 ⟨v, rfl, hown, hb4⟩
      have hb5 := hb3.trans (hb4.mono hb3.size)
      have hown5 := own_base2 hown hb3.size
      go_wp2
      go_ret
      exact ⟨_, rfl, hown5, hb5⟩
    · have hcmp : ¬ (K : Int) ≤ (n : Int) - (S : Int) := by omega
      obtain ⟨J, hJ⟩ : ∃ J : Nat, J = S + K - (n - S) := ⟨_, rfl⟩
      have hJe : (S : Int) + (K : Int) - ((n : Int) - (S : Int)) = (J : Int) := by omega
      have hJb : J ≤ m := by have := HT2.out; omega
      have hZ1 : Hid (Z = ys.take J) := by show Z = _; rw [hval.out, if_neg hle, hJ]
      have HJ : Hid (J = S + K - (n - S)) := hJ
      clear hJ
      have hZ2 : Hid (Z.length = J) := by show Z.length = _; rw [hZ1.out, List.length_take]; have := hl.out; have := hm.out; omega
      rw [hZ2.out, hZ1.out]
      clear hval hlen
      go_enter Tryz.func99, Tryz.ntmps99
      go_wp2_with fail
      refine (qshare.out _ (Below.refl _ _)).mono ?_
      rintro e w1 ⟨rfl, q1, hw1⟩
      have hb1 : Below w.heap.size w w1 := by rw [hw1]; exact below_drewN (Below.refl _ _) q1
      clear hw1
      go_wp2_with fail
      refine (qsteps.out _ hb1).mono ?_
      rintro e w2 ⟨rfl, q2, hw2⟩
      have hb3 : Below w.heap.size w w2 := by rw [hw2]; exact below_drewN hb1 q2
      clear hw2
      go_wp2_with fail
      refine (clone_any _ J _ (ys.take J) _ (by show _ = J; rw [← hZ1.out]; exact hZ2.out) ((rd_take hrb J).later hb3) (by omega)).mono ?_
      rintro e w4 ⟨v, rfl, hown, hb4⟩
      have hb5 := hb3.trans (hb4.mono hb3.size)
      have hown5 := own_base2 hown hb3.size
      go_wp2
      go_ret
      exact ⟨_, rfl, hown5, hb5⟩

end Go.Proofs.YtkaegbhmeonjfaaGreat

/- CrashP: What DiskCrash answers, as data, and how great it is. -/
namespace Go.Proofs.YtkaegbhmeonjfaaGreat
open Go.RowKit
set_option linter.unusedVariables false
set_option maxRecDepth 100000

/-- The cut of a place. -/
def cutAt (cuts : List Int) (i : Nat) : Int := if cuts.length = 0 then 0 else cuts[i % cuts.length]?.getD 0
/-- A node that is torn. -/
def crashN (k : Int) (x : NodeD) : NodeD := (x.1, tear x.2.2.1 x.2.1 k, tear x.2.2.1 x.2.1 k, ())
def crashFrom (cuts : List Int) : Nat → List NodeD → List NodeD
  | _, [] => []
  | i, x :: l => crashN (cutAt cuts i) x :: crashFrom cuts (i + 1) l
/-- How many turns are made. -/
def turnsN (turns : Int) (n : Nat) : Nat := if turns < 0 then 0 else if (n : Int) < turns then n else turns.toNat
/-- What DiskCrash makes of a right disk. -/
def crashD (d : shDisk.D) (turns : Int) (cuts : List Int) : shDisk.D :=
  (d.1, (-1 : Int), d.2.2.1, crashFrom cuts 0 (keepN (dirL d.2.2.2.2.1 (List.take (α := TurnD) (turnsN turns (List.length (α := TurnD) d.2.2.2.2.2.1)) d.2.2.2.2.2.1)) d.2.2.2.1), dirL d.2.2.2.2.1 (List.take (α := TurnD) (turnsN turns (List.length (α := TurnD) d.2.2.2.2.2.1)) d.2.2.2.2.2.1), ([] : List TurnD), ())

theorem turnsN_le (turns : Int) (n : Nat) : turnsN turns n ≤ n := by
  unfold turnsN
  split
  · omega
  · split <;> omega

theorem crash_at (cuts : List Int) : ∀ (l : List NodeD) (s i : Nat), (crashFrom cuts s l)[i]? = (l[i]?).map fun x => crashN (cutAt cuts (s + i)) x := by
  intro l
  induction l with
  | nil => intro s i; simp [crashFrom]
  | cons x l ih =>
    intro s i
    cases i with
    | zero => simp [crashFrom]
    | succ i =>
      have h := ih (s + 1) i
      have e : s + 1 + i = s + (i + 1) := by omega
      rw [e] at h
      simpa [crashFrom] using h

theorem crash_len (cuts : List Int) : ∀ (l : List NodeD) (s : Nat), (crashFrom cuts s l).length = l.length := by
  intro l
  induction l with
  | nil => intro s; rfl
  | cons x l ih => intro s; simp [crashFrom, ih (s + 1)]

theorem crash_szN (k : Int) (x : NodeD) : shNode.sz (crashN k x) ≤ 2 * (bodyLen x + safeLen x) := by
  have h := node_szN (crashN k x)
  have h1 : bodyLen (crashN k x) = (tear x.2.2.1 x.2.1 k).length := rfl
  have h2 : safeLen (crashN k x) = (tear x.2.2.1 x.2.1 k).length := rfl
  have h3 := tear_len_le x.2.2.1 x.2.1 k (safeLen x) (bodyLen x) rfl rfl
  omega

theorem crash_sum (cuts : List Int) : ∀ (l : List NodeD) (s : Nat), (List.map shNode.sz (crashFrom cuts s l)).sum ≤ 2 * ((l.map bodyLen).sum + (l.map safeLen).sum) := by
  intro l
  induction l with
  | nil => intro s; exact Nat.zero_le _
  | cons x l ih =>
    intro s
    have h1 := ih (s + 1)
    have h2 := crash_szN (cutAt cuts s) x
    have e : (List.map shNode.sz (crashFrom cuts s (x :: l))).sum = shNode.sz (crashN (cutAt cuts s) x) + (List.map shNode.sz (crashFrom cuts (s + 1) l)).sum := rfl
    rw [e]
    simp only [List.map_cons, List.sum_cons]
    omega

theorem filter_sum (f : NodeD → Nat) (q : NodeD → Bool) (l : List NodeD) : ((l.filter q).map f).sum ≤ (l.map f).sum := by
  induction l with
  | nil => simp
  | cons x l ih =>
    rw [List.filter_cons]
    split
    · simp only [List.map_cons, List.sum_cons]; omega
    · simp only [List.map_cons, List.sum_cons]; omega

theorem safe_sum {d : shDisk.D} (h : specOkP d) {nd : List NodeD} (hnd : nd = d.2.2.2.1) : (nd.map safeLen).sum ≤ 60000 := by
  obtain ⟨x0, e0⟩ : ∃ x : Int, x = d.1 := ⟨_, rfl⟩
  have lims := h.1
  have hr : x0 ≤ 60000 := by rw [e0]; exact lims.2.1
  have hu : usedTo nd nd.length ≤ x0 := by rw [hnd, e0]; exact h.2.2.2.2.2.2
  have h1 := used_sum nd nd.length (Nat.le_refl _)
  rw [List.take_length] at h1
  omega

theorem dirK_sz {d : shDisk.D} (h : specOkP d) (k : Nat) : Sh.sz (.sl shLink) (dirL d.2.2.2.2.1 (List.take (α := TurnD) k d.2.2.2.2.2.1)) ≤ 1000 := by
  obtain ⟨DL, hDL⟩ : ∃ l : List LinkD, l = dirL d.2.2.2.2.1 (List.take (α := TurnD) k d.2.2.2.2.2.1) := ⟨_, rfl⟩
  have hn := names_disk h k
  have hl := dirL_len d.2.2.2.2.1 (List.take (α := TurnD) k d.2.2.2.2.2.1)
  have l4 : List.length (α := LinkD) d.2.2.2.2.1 ≤ 8 := h.1.2.2.2.2.2.2.2.1
  have l5 : List.length (α := TurnD) d.2.2.2.2.2.1 ≤ 40 := h.1.2.2.2.2.2.2.2.2
  have l6 : List.length (α := TurnD) (List.take (α := TurnD) k d.2.2.2.2.2.1) ≤ 40 := take_le k 40 _ l5
  rw [← hDL] at hn hl ⊢
  have hL := bulkL_le DL hn
  have hz := bulkL_sz DL
  refine Nat.le_trans (Nat.le_of_eq hz) ?_
  omega

theorem crash_sz {d : shDisk.D} (h : specOkP d) (turns : Int) (cuts : List Int) : shDisk.sz (crashD d turns cuts) ≤ 1048576 := by
  obtain ⟨nd, hnd⟩ : ∃ l : List NodeD, l = d.2.2.2.1 := ⟨_, rfl⟩
  obtain ⟨hb, h8, _⟩ := body_sum h hnd
  have hsf := safe_sum h hnd
  obtain ⟨K, hK⟩ : ∃ K, K = turnsN turns (List.length (α := TurnD) d.2.2.2.2.2.1) := ⟨_, rfl⟩
  have hz := dirK_sz h K
  obtain ⟨DL, hDL⟩ : ∃ l : List LinkD, l = dirL d.2.2.2.2.1 (List.take (α := TurnD) K d.2.2.2.2.2.1) := ⟨_, rfl⟩
  rw [← hDL] at hz
  obtain ⟨N, hN⟩ : ∃ l : List NodeD, l = keepN DL nd := ⟨_, rfl⟩
  have hk1 : (N.map bodyLen).sum ≤ (nd.map bodyLen).sum := by rw [hN]; exact filter_sum _ _ _
  have hk2 : (N.map safeLen).sum ≤ (nd.map safeLen).sum := by rw [hN]; exact filter_sum _ _ _
  have hkl : N.length ≤ 8 := by rw [hN]; exact Nat.le_trans (List.length_filter_le _ _) h8
  have e1 : (crashD d turns cuts).2.2.2.1 = crashFrom cuts 0 N := by rw [hN, hDL, hnd, hK]; rfl
  have e2 : (crashD d turns cuts).2.2.2.2.1 = DL := by rw [hDL, hK]; rfl
  have e3 : Sh.sz (.sl shTurn) (crashD d turns cuts).2.2.2.2.2.1 = 0 := rfl
  have hS : Sh.sz (.sl shNode) (crashFrom cuts 0 N) ≤ 300000 := by
    show List.length (α := NodeD) (crashFrom cuts 0 N) + (List.map shNode.sz (crashFrom cuts 0 N)).sum ≤ _
    have h1 := crash_sum cuts N 0
    have h2 := crash_len cuts N 0
    omega
  have hA : Sh.sz (.sl shNode) (crashD d turns cuts).2.2.2.1 ≤ 300000 := by rw [e1]; exact hS
  have hB : Sh.sz (.sl shLink) (crashD d turns cuts).2.2.2.2.1 ≤ 1000 := by rw [e2]; exact hz
  rw [sz_Disk, e3]
  omega

end Go.Proofs.YtkaegbhmeonjfaaGreat

/- Ints: What the helpers of the exact laws do to slices of ints: toIntS copies, eqIntS compares. For slices of at most 1048576 bytes. -/
namespace Go.Proofs.YtkaegbhmeonjfaaGreat
open Go.RowKit
set_option linter.unusedVariables false
set_option maxRecDepth 100000

theorem Tryz.infoI : (Tryz.prog.info? 3).map (fun i => (i.zero, i.size, i.bytes)) = some (some (.int .i64 0), 1, 8) := by kernel_rfl

/-- The address a leads to the bytes zs in w. -/
def RdI (w : World) (a : Option Addr) (zs : List Int) : Prop :=
  (zs = [] ∨ ∃ b off, a = some ⟨b, off, none⟩ ∧ b < w.heap.size ∧ ∀ i, i < zs.length → w.cell? ⟨b, off + i, none⟩ = some (.int .i64 (zs[i]?.getD 0)))

theorem RdI.later {w w' : World} {a : Option Addr} {zs : List Int} (h : RdI w a zs) (hb : Below w.heap.size w w') : RdI w' a zs := by
  rcases h with h2 | ⟨b, off, ha, hlt, hc⟩
  · exact .inl h2
  · exact .inr ⟨b, off, ha, Nat.lt_of_lt_of_le hlt hb.size, fun i hi => (hb.cell (p := ⟨b, off + i, none⟩) hlt).trans (hc i hi)⟩

/-- What toIntS has laid behind k rounds. -/
def halfI (zs : List Int) (n k : Nat) : List Int := (List.range n).map fun i => if i < k then zs[i]?.getD 0 else 0

theorem halfI_zero (zs : List Int) (n : Nat) : (madeCells #[Value.int .i64 0] n).toList = (halfI zs n 0).map (Value.int .i64) := by
  rw [toList_madeCells_one]
  apply List.ext_getElem
  · simp [halfI]
  · intro i h1 h2
    simp [halfI]

theorem halfI_full (zs : List Int) (n : Nat) (h : zs.length = n) : halfI zs n n = zs := by
  apply List.ext_getElem
  · simp [halfI, h]
  · intro i h1 h2
    simp [halfI] at h1
    simp [halfI, h1, h2]

theorem halfI_set (zs : List Int) (n k : Nat) (hk : k < n) : ((halfI zs n k).map (Value.int .i64)).set k (.int .i64 (zs[k]?.getD 0)) = (halfI zs n (k + 1)).map (Value.int .i64) := by
  apply List.ext_getElem
  · simp [halfI]
  · intro i h1 h2
    simp [halfI] at h1 h2
    rw [List.getElem_set]
    by_cases e : k = i
    · subst e; simp [halfI]
    · by_cases h : i < k
      · simp [halfI, e, h, Nat.lt_succ_of_lt h]
      · have : ¬ i < k + 1 := by omega
        simp [halfI, e, h, this]

set_option maxHeartbeats 400000 in
theorem toIntS_any (a : Option Addr) (n cap : Nat) (zs : List Int) (w : World) (hl : Hid (zs.length = n)) (hr : RdI w a zs) (hn : n ≤ 1048576) :
    Calls Tryz.prog 9 #[.slice a n cap] w fun e w' => e = .returned (.slice (some ⟨w.heap.size, 0, none⟩) n n) ∧
      w'.ownsRow w.heap.size 3 1 (.slice (some ⟨w.heap.size, 0, none⟩) n n) n (zs.map (Value.int .i64)) ∧ Below w.heap.size w w' := by
  obtain ⟨i0, hi, hz0, hz1, hz2⟩ := info_parts Tryz.infoI
  go_enter Tryz.func9, Tryz.ntmps9
  go_wp2_with (at_make; refine wpList_make_full _ rfl _ _ 27 rfl w.heap.size 3 i0 (.int .i64 0) 1 Tryz.underlying27 hi hz0 hz1 _ _ _ _ n rfl rfl rfl rfl ?b2 ?b3 (Nat.le_refl _) ?_)
  case b2 => rw [hz2]; omega
  case b3 => unfold maxLen; omega
  intro w0 hown0 hgrow0
  rw [halfI_zero zs] at hown0
  go_wp2
  go_loopw [4] (fun i wr => ∃ k : Nat, k ≤ n ∧ i = .int .i64 k ∧ wr.ownsRow w.heap.size 3 1 (.slice (some ⟨w.heap.size, 0, none⟩) n n) n ((halfI zs n k).map (Value.int .i64)) ∧ Below w.heap.size w wr)
    (fun i _ => n - (intOf i).toNat)
  case atStart => exact ⟨0, Nat.zero_le _, rfl, hown0, (Below.refl _ _).grown hgrow0 (Nat.le_refl _) (fun k h => by cases h)⟩
  case round =>
    obtain ⟨k, hk, rfl, hown, hb⟩ := hrel
    by_cases hlt : k < n
    · obtain ⟨b, off, rfl, hbl, hc⟩ : ∃ b off, a = some ⟨b, off, none⟩ ∧ b < w.heap.size ∧ ∀ i, i < n → w.cell? ⟨b, off + i, none⟩ = some (.int .i64 (zs[i]?.getD 0)) := by
        rcases hr with h | ⟨b, off, h1, h2, h3⟩
        · have := hl.out; subst h; simp at this; omega
        · exact ⟨b, off, h1, h2, fun i hi => h3 i (by have := hl.out; omega)⟩
      have hcr : wr.cell? ⟨b, off + k, none⟩ = some (.int .i64 (zs[k]?.getD 0)) := (hb.cell (p := ⟨b, off + k, none⟩) hbl).trans (hc k hlt)
      have hfz := hown.frozenAt k
      have hco : ∃ u, wr.cell? ⟨w.heap.size, k, none⟩ = some u := by rw [hown.cellAt k (by omega)]; exact ⟨_, List.getElem?_eq_getElem (by simp [halfI]; omega)⟩
      obtain ⟨u, hco⟩ := hco
      have hst := hown.stored k (.int .i64 (zs[k]?.getD 0))
      rw [halfI_set zs n k hlt] at hst
      have HS : Hid (_ ∧ _) := hst
      have hbs : Below w.heap.size w (wr.setCell ⟨w.heap.size, k, none⟩ (.int .i64 (zs[k]?.getD 0))) := hb.setCell (Nat.le_refl _) _
      clear hst hc
      go_wp2
      go_roundw
      case rel => exact ⟨k + 1, by omega, by go_num, HS.out.1, hbs⟩
      case measure => simp [intOf]; omega
    · have e : k = n := by omega
      subst e
      rw [halfI_full zs k hl.out] at hown
      go_wp2
      go_ret
      exact ⟨rfl, hown, hb⟩

end Go.Proofs.YtkaegbhmeonjfaaGreat

/- IMarks: What the helpers of the exact laws do to slices of ints, more: eqIntS over two readings of one list says true; markIntS writes 1, 2, 3 .. (as bytes) into a row of the call's own; heldIntS finds them again. -/
namespace Go.Proofs.YtkaegbhmeonjfaaGreat
open Go.RowKit
set_option linter.unusedVariables false
set_option maxRecDepth 100000

set_option maxHeartbeats 400000 in
theorem eqIntS_same (a b : Option Addr) (n ca cb : Nat) (zs : List Int) (w : World) (hl : Hid (zs.length = n)) (hra : RdI w a zs) (hrb : RdI w b zs) (hn : n ≤ 2097152) :
    Calls Tryz.prog 12 #[.slice a n ca, .slice b n cb] w fun e w' => e = .returned (.bool true) ∧ ∃ q, w' = w.drewN q := by
  have hnn : ((n : Int) != (n : Int)) = false := by simp
  go_enter Tryz.func12, Tryz.ntmps12
  go_wp2
  go_loopw [5] (fun i wr => ∃ k : Nat, k ≤ n ∧ i = .int .i64 k ∧ ∃ q, wr = w.drewN q) (fun i _ => n - (intOf i).toNat)
  case atStart => exact ⟨0, Nat.zero_le _, rfl, 0, rfl⟩
  case round =>
    obtain ⟨k, hk, rfl, q, rfl⟩ := hrel
    by_cases hlt : k < n
    · have hne : zs ≠ [] := by intro h; have := hl.out; subst h; simp at this; omega
      obtain ⟨b1, o1, rfl, hb1, hc1⟩ := hra.resolve_left hne
      obtain ⟨b2, o2, rfl, hb2, hc2⟩ := hrb.resolve_left hne
      have g1 : w.cell? ⟨b1, o1 + k, none⟩ = some (.int .i64 (zs[k]?.getD 0)) := hc1 k (by have := hl.out; omega)
      have g2 : w.cell? ⟨b2, o2 + k, none⟩ = some (.int .i64 (zs[k]?.getD 0)) := hc2 k (by have := hl.out; omega)
      have hlt' : (k : Int) < (n : Int) := by omega
      clear hc1 hc2 hne hra hrb
      go_wp2
      go_quiet (fail)
      go_wp2
      go_roundw
      case rel => exact ⟨k + 1, by omega, by go_num, _, rfl⟩
      case measure => simp [intOf]; omega
    · go_wp2
      go_ret
      exact ⟨rfl, q, rfl⟩

/-- The marks 1 .. k laid over xs. -/
def markedI (xs : List Int) (k : Nat) : List Int := (List.range xs.length).map fun i => if i < k then ((i : Int) + 1)  else xs[i]?.getD 0

theorem markedI_zero (xs : List Int) : markedI xs 0 = xs := by
  apply List.ext_getElem
  · simp [markedI]
  · intro i h1 h2
    simp [markedI, h2]

theorem markedI_set (xs : List Int) (k : Nat) : ((markedI xs k).map (Value.int .i64)).set k (.int .i64 (((k : Int) + 1) )) = (markedI xs (k + 1)).map (Value.int .i64) := by
  apply List.ext_getElem
  · simp [markedI]
  · intro i h1 h2
    simp [markedI] at h1 h2
    rw [List.getElem_set]
    by_cases e : k = i
    · subst e; simp [markedI]
    · by_cases h : i < k
      · simp [markedI, e, h, Nat.lt_succ_of_lt h]
      · have : ¬ i < k + 1 := by omega
        simp [markedI, e, h, this]

set_option maxHeartbeats 400000 in
theorem markIntS_any (g n cap base : Nat) (xs : List Int) (w : World) (hl : Hid (xs.length = n)) (hn : n ≤ 2097152)
    (hown0 : w.ownsRow base 3 1 (.slice (some ⟨g, 0, none⟩) n cap) n (xs.map (Value.int .i64))) :
    Calls Tryz.prog 14 #[.slice (some ⟨g, 0, none⟩) n cap, .int .i64 1] w fun e w' => e = .returned (.int .i64 ((n : Int) + 1)) ∧
      w'.ownsRow base 3 1 (.slice (some ⟨g, 0, none⟩) n cap) n ((markedI xs n).map (Value.int .i64)) ∧ w.grownBy w' (some g) := by
  go_enter Tryz.func14, Tryz.ntmps14
  go_wp2
  go_loopw [1, 5] (fun m i wr => ∃ k : Nat, k ≤ n ∧ m = .int .i64 ((k : Int) + 1) ∧ i = .int .i64 k ∧ wr.ownsRow base 3 1 (.slice (some ⟨g, 0, none⟩) n cap) n ((markedI xs k).map (Value.int .i64)) ∧ w.grownBy wr (some g))
    (fun _ i _ => n - (intOf i).toNat)
  case atStart => exact ⟨0, Nat.zero_le _, rfl, rfl, by rw [markedI_zero]; exact hown0, World.grownBy.refl _ _⟩
  case round =>
    obtain ⟨k, hk, rfl, rfl, hown, hb⟩ := hrel
    by_cases hlt : k < n
    · have hfz := hown.frozenAt k
      have hco : ∃ u, wr.cell? ⟨g, k, none⟩ = some u := by rw [hown.cellAt k (by omega)]; exact ⟨_, List.getElem?_eq_getElem (by have := hl.out; simp [markedI]; omega)⟩
      obtain ⟨u, hco⟩ := hco
      have hst := hown.stored k (.int .i64 (((k : Int) + 1) ))
      rw [markedI_set xs k] at hst
      have HS : Hid (_ ∧ _) := hst
      have HB := grownBy_trans hb HS.out.2
      clear hst hb hown
      go_wp2
      go_roundw
      case rel => exact ⟨k + 1, by omega, by go_num, by go_num, HS.out.1, HB⟩
      case measure => simp [intOf]; omega
    · have e : k = n := by omega
      subst e
      go_wp2
      go_ret
      exact ⟨rfl, hown, hb⟩

set_option maxHeartbeats 400000 in
/-- No element: nothing is written. -/
theorem markIntS_none (a : Option Addr) (cap : Nat) (w : World) :
    Calls Tryz.prog 14 #[.slice a 0 cap, .int .i64 1] w fun e w' => e = .returned (.int .i64 1) ∧ w' = w := by
  go_enter Tryz.func14, Tryz.ntmps14
  go_wp2
  go_loop [1, 5] (fun m i => m = .int .i64 1 ∧ i = .int .i64 0) (fun _ _ => 0)
  case atStart => exact ⟨rfl, rfl⟩
  case round =>
    obtain ⟨rfl, rfl⟩ := hrel
    go_wp2
    go_ret
    exact ⟨rfl, rfl⟩

theorem rdI_of {w : World} {a : Option Addr} {len cap : Nat} {zs : List Int}
    (h : (a = none ∧ len = 0 ∧ cap = 0 ∧ zs = []) ∨
      ∃ x, a = some x ∧ len ≤ cap ∧ cap ≤ maxLen ∧ zs.length = cap ∧ (∀ i, i < zs.length → w.cell? (x.add i) = some (.int .i64 (zs.getD i 0))) ∧ ∀ n ∈ zs, (Lit.int .i64 n).wf = true) :
    RdI w a (zs.take len) ∧ (zs.take len).length = len ∧ len ≤ maxLen := by
  rcases h with ⟨rfl, rfl, rfl, rfl⟩ | ⟨x, rfl, hl, hm, hz, hc, hw⟩
  · exact ⟨.inl rfl, rfl, Nat.zero_le _⟩
  · refine ⟨?_, by rw [List.length_take]; omega, by omega⟩
    by_cases h0 : len = 0
    · left; subst h0; rfl
    · right
      obtain ⟨b, off, spot⟩ := x
      have h1 := hc 0 (by omega)
      have hspot : spot = none := by simpa [Addr.add] using World.cell?_spot h1
      subst hspot
      refine ⟨b, off, rfl, ?_, ?_⟩
      · exact World.block_lt_of_cell? w _ h1
      · intro i hi
        rw [List.length_take] at hi
        have h2 := hc i (by omega)
        have h3 : i < len := by omega
        have h4 : i < zs.length := by omega
        have e : (⟨b, off, none⟩ : Addr).add i = ⟨b, off + i, none⟩ := by cases i <;> simp [Addr.add]
        rw [e] at h2
        simpa [h3, h4] using h2

theorem rdI_own {w : World} {base g n cap : Nat} {zs : List Int} (hl : zs.length = n)
    (h : w.ownsRow base 3 1 (.slice (some ⟨g, 0, none⟩) n cap) n (zs.map (Value.int .i64))) : RdI w (some ⟨g, 0, none⟩) zs := by
  refine .inr ⟨g, 0, rfl, (h.lt g rfl).2, fun i hi => ?_⟩
  rw [Nat.zero_add, h.cellAt i (by omega)]
  simp [hi]

theorem rdI_kept {w w' : World} {a : Option Addr} {zs : List Int} {row : Option Nat} (h : RdI w a zs) (hg : w.grownBy w' row) (hne : ∀ x, a = some x → some x.block ≠ row) : RdI w' a zs := by
  rcases h with h2 | ⟨b, off, rfl, hlt, hc⟩
  · exact .inl h2
  · exact .inr ⟨b, off, rfl, Nat.lt_of_lt_of_le hlt hg.size, fun i hi => hg.cell (hc i hi) (hne ⟨b, off, none⟩ rfl)⟩

theorem eqIntS_true (a b : Option Addr) (n ca cb : Nat) (zs : List Int) (w : World) (hl : Hid (zs.length = n)) (hra : RdI w a zs) (hrb : RdI w b zs) (hn : n ≤ 2097152) :
    Calls Tryz.prog 12 #[.slice a n ca, .slice b n cb] w fun e w' => e = .returned (.bool true) ∧ Below w.heap.size w w' := by
  refine (eqIntS_same a b n ca cb zs w hl hra hrb hn).mono ?_
  rintro e w' ⟨rfl, q, rfl⟩
  exact ⟨rfl, below_drewN (Below.refl _ _) q⟩

end Go.Proofs.YtkaegbhmeonjfaaGreat
