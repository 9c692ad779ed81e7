/-
  Joined: ClS, LnkI, DirA, CalmI, CalmP.
-/
import Derived.Test.YtkaegbhmeonjfaaGreatShelf
import Derived.Test.YtkaegbhmeonjfaaGreatJ0FnExactDiskCrash
import Derived.Test.YtkaegbhmeonjfaaGreatJ9FnExactDiskCrash
import Derived.Test.YtkaegbhmeonjfaaGreatJ6FnExactDiskCrash
import Derived.Test.YtkaegbhmeonjfaaGreatJ2FnExactDiskCrash
import Derived.Maps.RangeWalk
import Derived.Test.YtkaegbhmeonjfaaGreatJ3FnExactDiskCrash
import Derived.Deep.RegionHeld3
/- ClS: strings.Clone of the program. -/
namespace Go.Proofs.YtkaegbhmeonjfaaGreat
open Go.RowKit
set_option linter.unusedVariables false
set_option maxRecDepth 100000

set_option maxHeartbeats 400000 in
theorem cloneS_any (s : ByteArray) (w : World) (h : s.size ≤ 1048576) :
    Calls Tryz.prog 92 #[.string s] w fun e w' => e = .returned (.string s) ∧ Below w.heap.size w w' := by
  go_enter Tryz.func92, Tryz.ntmps92
  go_wp2_with fail
  refine (Tryz.stringslite_Clone s _ (by omega)).mono ?_
  rintro e w' ⟨rfl, hb⟩
  go_wp2
  go_ret
  exact ⟨rfl, hb⟩

end Go.Proofs.YtkaegbhmeonjfaaGreat

/- LnkI: linksOf of the program: the links of a map, gathered in whatever order they come, then set in the order of their names. -/
namespace Go.Proofs.YtkaegbhmeonjfaaGreat
open Go.RowKit Go.Maps
open Go.MapKept Go.ChangeMaps
set_option linter.unusedVariables false
set_option maxRecDepth 100000
set_option linter.unusedSimpArgs false

theorem keyS_self (s : ByteArray) : (keyS s).sameKey (keyS s) = true := by simp [keyS, Lit.sameKey]
theorem keyS_other {s t : ByteArray} (h : s ≠ t) : (keyS s).sameKey (keyS t) = false := sameKey_ne (keyS_inj h)

theorem keyOf_inv {x : ByteArray} {kl : Lit} (h : keyOf Tryz.prog 9 (.string x) = some kl) : kl = keyS x ∧ x.size ≤ maxLen := by
  simp [keyOf, Tryz.underlying9, mapKey] at h
  obtain ⟨h1, h2⟩ := h
  exact ⟨h2.symm, h1⟩

theorem keyStr_inv {key : Value} {kl : Lit} (h : keyOf Tryz.prog 9 key = some kl) : ∃ s, key = .string s := by
  cases key <;> simp [keyOf, Tryz.underlying9, mapKey] at h
  exact ⟨_, rfl⟩

theorem ranges_cnt {w : World} {b r n cnt : Nat} {D : DataW Unit} {left : Lit → Bool} (h : w.ranges Tryz.prog 9 anyInt b r n D left cnt) : cnt ≤ n := by
  obtain ⟨es, clock, since, seen, c0, _, _, hs, _, _, _, hc, _⟩ := h
  have : (leftOf es seen).size ≤ es.size := by unfold leftOf; exact Array.size_filter_le
  omega

/-- What is gathered of the links l while 'left' says what is still to come. -/
def Gat (l : List LinkD) (left : Lit → Bool) (acc : List LinkD) : Prop :=
  (∀ s, hasL acc s = (hasL l s && !left (keyS s))) ∧ (∀ x ∈ acc, x.2.1 = findL l x.1) ∧ (acc.Pairwise fun x y => x.1 ≠ y.1) ∧ SmallS acc

theorem hasL_snoc (l : List LinkD) (x : LinkD) (s : ByteArray) : hasL (l ++ [x]) s = (hasL l s || decide (x.1 = s)) := by simp [hasL]

theorem Gat.start {l : List LinkD} {left : Lit → Bool} (h : ∀ s, left (keyS s) = hasL l s) : Gat l left [] := by
  refine ⟨fun s => ?_, fun x hx => (by cases hx), List.Pairwise.nil, fun x hx => (by cases hx)⟩
  rw [h s, hasL_nil]; cases hasL l s <;> rfl

theorem Gat.step {l acc : List LinkD} {left : Lit → Bool} (h : Gat l left acc) {x : ByteArray} {c : Int} (hl : left (keyS x) = true) (hh : hasL l x = true) (hc : findL l x = c) (hs : x.size ≤ maxLen) :
    Gat l (fun z => left z && !z.sameKey (keyS x)) (acc ++ [(x, c, ())]) := by
  obtain ⟨h1, h2, h3, h4⟩ := h
  refine ⟨fun s => ?_, fun y hy => ?_, ?_, fun y hy => ?_⟩
  · rw [hasL_snoc, h1 s]
    show _ = (hasL l s && !(left (keyS s) && !(keyS s).sameKey (keyS x)))
    by_cases e : x = s
    · subst e; rw [keyS_self, hh]; simp
    · rw [keyS_other (fun e' => e e'.symm)]; simp [e]
  · rcases List.mem_append.1 hy with hy | hy
    · exact h2 y hy
    · rw [List.mem_singleton.1 hy]; exact hc.symm
  · refine List.pairwise_append.2 ⟨h3, List.pairwise_singleton _ _, fun y hy z hz => ?_⟩
    rw [List.mem_singleton.1 hz]
    intro e
    have : hasL acc x = true := by
      have := hasL_mem hy
      rw [e] at this; exact this
    rw [h1 x, hl] at this
    simp at this
  · rcases List.mem_append.1 hy with hy | hy
    · exact h4 y hy
    · rw [List.mem_singleton.1 hy]; exact hs

theorem Gat.perm {l acc acc' : List LinkD} {left : Lit → Bool} (h : Gat l left acc) (hp : acc'.Perm acc) : Gat l left acc' := by
  obtain ⟨h1, h2, h3, h4⟩ := h
  refine ⟨fun s => ?_, fun x hx => h2 x (hp.mem_iff.1 hx), (List.Perm.pairwise_iff (fun hxy => fun e => hxy e.symm) hp).2 h3, fun x hx => h4 x (hp.mem_iff.1 hx)⟩
  rw [← h1 s]
  unfold hasL
  rw [Bool.eq_iff_iff, List.any_eq_true, List.any_eq_true]
  exact ⟨fun ⟨x, hx, e⟩ => ⟨x, hp.mem_iff.1 hx, e⟩, fun ⟨x, hx, e⟩ => ⟨x, hp.mem_iff.2 hx, e⟩⟩

theorem Gat.alike {l acc : List LinkD} {left : Lit → Bool} (h : Gat l left acc) (h0 : ∀ kl, left kl = false) : Alike acc l := fun s => by
  obtain ⟨h1, h2, h3, h4⟩ := h
  have e : hasL acc s = hasL l s := by rw [h1 s, h0]; simp
  refine ⟨e, ?_⟩
  cases c : hasL acc s with
  | false => rw [findL_none c, findL_none (by rw [← e]; exact c)]
  | true =>
    obtain ⟨x, hx, rfl, hx2⟩ := findL_mem c
    rw [← hx2]; exact h2 x hx

set_option maxRecDepth 100000 in
set_option maxHeartbeats 4000000 in
theorem implLinks_ok (b n : Nat) (l : List LinkD) (w : World) (hm : MapIs w b n l) (hn : n ≤ 1000000) (hsm : ∀ s, hasL l s = true → s.size ≤ 1048576) :
    Calls Tryz.prog 41 #[.map (some b)] w fun e w' => ∃ v m L, e = .returned v ∧ w'.ownsRow w.heap.size 111 2 v m (cellsL L) ∧ Hid (L.length = m ∧ Asc L ∧ Alike L l ∧ SmallS L) ∧ Below w.heap.size w w' := by
  obtain ⟨i0, hi, hz0, hz1, hz2⟩ := info_parts infoLink
  have hbl := hm.lt
  obtain ⟨D, ho, hD⟩ := hm
  have HD : Hid (∀ s : ByteArray, Maps.has D (keyS s) = hasL l s ∧ D.atKey (keyS s) (.lit (.int .i64 0)) = .lit (.int .i64 (findL l s))) := hD
  have HSM : Hid (∀ s, hasL l s = true → s.size ≤ 1048576) := hsm
  clear hD hsm
  go_enter Tryz.func41, Tryz.ntmps41
  go_wp2_with (at_range; refine wpList_range_own _ rfl _ 77 rfl 9 3 lawS Tryz.underlying77 anyInt b n D rfl ho ?_; intro w0 hrg0 hg0 hs0)
  have B0 : Below w.heap.size w w0 := (Below.refl _ _).grown hg0 (Nat.le_refl _) (fun y h => by cases h)
  go_frame
  go_loopw [3] (fun u wr => ∃ (left : Lit → Bool) (cnt m : Nat) (acc : List LinkD) (uu : Value), uu = u ∧ wr.ranges Tryz.prog 9 anyInt b w.heap.size n D left cnt ∧ wr.ownsRow (w.heap.size + 1) 111 2 uu m (cellsL acc) ∧ Hid (acc.length = m ∧ Gat l left acc) ∧ m + cnt ≤ n ∧ w.heap.size + 1 ≤ wr.heap.size ∧ Below w.heap.size w wr) (fun _ wr => wr.rangeLeft b w.heap.size)
  case atStart => exact ⟨Maps.has D, _, 0, [], _, rfl, hrg0, ⟨rfl, .inl ⟨rfl, rfl⟩⟩, ⟨rfl, Gat.start fun s => (HD.out s).1⟩, by have := ranges_cnt hrg0; omega, by omega, B0⟩
  case round =>
    obtain ⟨left, cnt, m, acc, u, rfl, hrg, hown, HA, hmc, hsz, hbel⟩ := hrel
    obtain ⟨ua, uc, rfl⟩ : ∃ a c, u = .slice a m c := by
      rcases hown.2 with ⟨h1, h2⟩ | ⟨g, cap, cur, hv, _⟩
      · exact ⟨none, 0, by rw [h1, h2]⟩
      · exact ⟨_, _, hv⟩
    have hk3 : w.heap.size < w.heap.size + 1 := Nat.lt_succ_self _
    go_wp2_with (at_next; refine wpList_next_ranges _ rfl _ rfl 9 lawS anyInt Value.string (Value.int .i64) (fun key kl hkey => keyStr_inv hkey) (fun v y hv => by obtain ⟨c, rfl, _⟩ := anyInt_inv hv; exact ⟨c, rfl⟩) b w.heap.size n D left cnt rfl hrg ?_ ?_)
    · intro hc0 hl0
      have qs : Hid (Calls Tryz.prog 93 #[.slice ua m uc, .func (.func 94) #[] #[]] wr fun e w' => e = .returned (.tuple #[]) ∧ ∃ L, w'.ownsRow (w.heap.size + 1) 111 2 (.slice ua m uc) m (cellsL L) ∧ Hid (L.length = m ∧ Asc L ∧ Alike L l ∧ SmallS L) ∧ Below w.heap.size w w') := by
        show Calls _ _ _ _ _
        have hga := HA.out.2
        by_cases hz : m = 0
        · subst hz
          have hacc : acc = [] := List.length_eq_zero_iff.1 HA.out.1
          subst hacc
          refine Calls.mono (P := Tryz.prog) (AnyF.slices_SortFunc_none Tryz.sortLinks ua uc _ wr) ?_
          rintro e w' ⟨rfl, rfl⟩
          exact ⟨rfl, [], hown, ⟨rfl, asc_nil, hga.alike hl0, hga.2.2.2⟩, hbel⟩
        · obtain ⟨g, rfl⟩ : ∃ g, ua = some ⟨g, 0, none⟩ := by
            rcases hown.2 with ⟨h1, h2⟩ | ⟨g, cap, cur, hv, _⟩
            · exact absurd h2 hz
            · simp only [Value.slice.injEq] at hv
              exact ⟨g, hv.1⟩
          have hlo := (hown.lt g rfl).1
          refine (sortLinks_ok (w.heap.size + 1) g m uc acc wr HA.out.1 (by omega) hown hga.2.2.1).mono ?_
          rintro e w' ⟨rfl, L, hp, hasc, ho', hgr⟩
          have hg' := hga.perm hp
          exact ⟨rfl, L, ho', ⟨by rw [hp.length_eq, HA.out.1], hasc, hg'.alike hl0, hg'.2.2.2⟩, hbel.grown hgr hbel.size (fun y h => by cases h; omega)⟩
      clear hrg hown HA hmc hc0 hl0
      go_wp2_with fail
      refine qs.out.mono ?_
      rintro e w2 ⟨rfl, L, ho2, hL, hb2⟩
      have HO2 : Hid _ := own_lower ho2 (Nat.le_succ _)
      clear ho2 qs
      go_wp2
      go_ret
      exact ⟨_, m, L, rfl, HO2.out, hL, hb2⟩
    · intro x c kl y1 y2 w1 cnt1 hkey hlk hv hat hrg1 hlt hg1 hs1 hen
      obtain ⟨rfl, hxs⟩ := keyOf_inv hkey
      obtain ⟨c', ec, ey⟩ := anyInt_inv hv
      obtain rfl : c = c' := by injection ec
      obtain rfl : y1 = .lit (.int .i64 c) := congrArg Prod.fst ey
      have hh : hasL l x = true := by rw [← (HD.out x).1]; exact has_true_of_atKey hat
      have hf : findL l x = c := by
        have h9 := (HD.out x).2
        rw [hat] at h9
        injection h9 with h9
        injection h9 with _ h9
        exact h9.symm
      have hx20 := HSM.out x hh
      have HG : Hid ((acc ++ [(x, c, ())]).length = m + 1 ∧ Gat l (fun z => left z && !z.sameKey (keyS x)) (acc ++ [(x, c, ())])) := ⟨by rw [List.length_append, HA.out.1]; rfl, HA.out.2.step hlk hh hf hxs⟩
      have HCE : Hid (cellsL (acc ++ [(x, c, ())]) = cellsL acc ++ [.string x, .int .i64 c]) := cellsL_snoc _ _
      have b1 : Below w.heap.size w w1 := hbel.grown hg1 hbel.size (fun y h => by cases h; exact Nat.le_refl _)
      have o1 : w1.ownsRow (w.heap.size + 1) 111 2 (.slice ua m uc) m (cellsL acc) := by
        refine hown.kept hg1 ?_
        cases e9 : (Value.slice ua m uc).ownBlock with
        | none => exact .inl rfl
        | some q => exact .inr (fun e8 => by have h7 := (hown.lt q e9).1; simp at e8; omega)
      have HRG : Hid (wr.rangeLeft b w.heap.size = cnt) := hrg.left_eq
      have HX : Hid (x.size ≤ 1048576) := hx20
      clear hown hrg hkey hlk hv hat hh hf hxs HA hx20 hg1
      go_wp2_with fail
      refine (cloneS_any x _ HX.out).mono ?_
      rintro e w2 ⟨rfl, hb2⟩
      have o2 := own_later o1 hb2
      have b2 := b1.trans (hb2.mono b1.size)
      have hrg2 := hrg1.kept (below_grown hb2) (by simp) (by simp)
      clear o1 b1 hrg1 hen
      go_wp2_with (at_builtin; refine wpList_append_src rfl _ _ 30 rfl (w.heap.size + 1) 111 i0 (.agg #[.string ByteArray.empty, .int .i64 0]) 2 24 Tryz.underlying30 hi hz0 hz1 hz2 rfl (by decide) (.slice ua m uc) m (cellsL acc) rfl (o2.alloc _) (.slice (some ⟨w2.heap.size, 0, none⟩) 1 1) 1 [.string x, .int .i64 c] rfl rfl (.inr ⟨_, 1, rfl, cells_new w2 [.string x, .int .i64 c] 111⟩) ?c2 ?c3 ?c4 ?c5 ?_)
      case c2 => intro u hu; simp at hu; rcases hu with rfl | rfl <;> rfl
      case c3 => unfold maxLen; omega
      case c4 => omega
      case c5 => have h9 := hb2.size; simp; omega
      intro v3 w3 o3 gr3
      have b3 : Below w.heap.size w w3 := (b2.alloc b2.size _).grown gr3 (by have h9 := b2.size; simp; omega) (fun y h => Nat.le_of_succ_le (o2.lt y h).1)
      have hrg3 := (hrg2.kept (World.grownBy_alloc w2 _ none) (by simp) (by simp)).kept gr3 (fun e9 => by have h7 := (o2.lt b e9.symm).1; omega) (fun e9 => by have h7 := (o2.lt w.heap.size e9.symm).1; omega)
      have hz3 : w.heap.size + 1 ≤ w3.heap.size := by have h9 := hrg3.lt; omega
      rw [← HCE.out] at o3
      have HR3 : Hid (w3.rangeLeft b w.heap.size = cnt1) := hrg3.left_eq
      clear gr3 o2 hrg2 hb2
      go_wp2
      go_roundw
      case rel => exact ⟨_, cnt1, m + 1, _, _, rfl, hrg3, o3, HG, by omega, hz3, b3⟩
      case measure => rw [HR3.out, HRG.out]; exact hlt

end Go.Proofs.YtkaegbhmeonjfaaGreat

/- DirA: The program's directory as a list: linksOf behind directoryBehind, for any number of turns of a right disk; DiskDir of the program. -/
namespace Go.Proofs.YtkaegbhmeonjfaaGreat
open Go.RowKit
set_option linter.unusedVariables false
set_option maxRecDepth 100000

theorem dir_alikeK {d : shDisk.D} (h : specOkP d) (k : Nat) : Alike (dirL d.2.2.2.2.1 (List.take (α := TurnD) k d.2.2.2.2.2.1)) (dirF (List.reverse (α := LinkD) d.2.2.2.2.1) (List.take (α := TurnD) k d.2.2.2.2.2.1)) := by
  obtain ⟨_, _, h3, _, _, h6, _⟩ := h
  obtain ⟨kp, hkp⟩ : ∃ l : List LinkD, l = d.2.2.2.2.1 := ⟨_, rfl⟩
  obtain ⟨tn, htn⟩ : ∃ l : List TurnD, l = d.2.2.2.2.2.1 := ⟨_, rfl⟩
  rw [← hkp, ← htn] at h6 ⊢
  rw [← hkp] at h3
  have hp := kept_pos h3
  have hn : namesTo kp kp.length := fun i hi hk => ⟨(h3 i hi hk).1, (h3 i hi hk).2.2⟩
  have hal : ∀ (ts : List TurnD) (l m : List LinkD), Alike l m → Pos l → turnsOkL l ts → Alike (dirL l ts) (dirF m ts) := by
    intro ts
    induction ts with
    | nil => intro l m h _ _; exact h
    | cons t ts ih =>
      intro l m hlm hpl hk
      have h8 := turn_alike hlm hpl hk.1
      exact ih (turnL l t) (turnI m t) h8.1 h8.2 hk.2
  exact hal (tn.take k) kp kp.reverse (alike_rev hn) hp (turnsOk_take h6 k)

def NamesOk (l : List LinkD) : Prop := ∀ x ∈ l, isName x.1

theorem names_turn {l : List LinkD} {t : TurnD} (h : NamesOk l) (hk : turnOkL l t) : NamesOk (turnL l t) := by
  unfold turnL
  split
  · intro x hx
    rcases mem_with hx with rfl | hx
    · exact hk.1
    · exact h x hx
  · split
    · rename_i h1 h5
      intro x hx
      rcases mem_with hx with rfl | hx
      · rcases hk.2 with ⟨h9, _⟩ | ⟨_, h9, _⟩ | ⟨h9, _⟩
        · exact absurd h9 h1
        · exact h9
        · omega
      · exact h x (mem_less (mem_less hx))
    · intro x hx
      exact h x (mem_less hx)

theorem names_dir : ∀ {ts : List TurnD} {l : List LinkD}, NamesOk l → turnsOkL l ts → NamesOk (dirL l ts)
  | [], l, h, _ => h
  | t :: ts, l, h, hk => by
    show NamesOk (dirL (turnL l t) ts)
    exact names_dir (names_turn h hk.1) hk.2

theorem names_disk {d : shDisk.D} (h : specOkP d) (k : Nat) : NamesOk (dirL d.2.2.2.2.1 (List.take (α := TurnD) k d.2.2.2.2.2.1)) := by
  obtain ⟨_, _, h3, _, _, h6, _⟩ := h
  refine names_dir (fun x hx => ?_) (turnsOk_take h6 k)
  obtain ⟨i, hi, rfl⟩ := List.mem_iff_getElem.1 hx
  exact (h3 i hi hi).1

theorem bulkL_sz (l : List LinkD) : Sh.sz (.sl shLink) l = (l.map fun x => 1 + ByteArray.size x.1).sum := by
  show List.length (α := LinkD) l + (List.map shLink.sz l).sum = _
  induction l with
  | nil => rfl
  | cons a l ih =>
    have h3 : shLink.sz a = ByteArray.size a.1 := sz_Link a
    have e2 : List.length (α := LinkD) (a :: l) + (List.map shLink.sz (a :: l)).sum = (List.length (α := LinkD) l + 1) + (shLink.sz a + (List.map shLink.sz l).sum) := rfl
    refine e2.trans ?_
    have ih' : List.length (α := LinkD) l + (List.map shLink.sz l).sum = (l.map fun x => 1 + ByteArray.size x.1).sum := ih
    simp only [List.map_cons, List.sum_cons]
    omega

theorem bulkL_le (l : List LinkD) (h : NamesOk l) : (l.map fun x => 1 + ByteArray.size x.1).sum ≤ 13 * l.length := by
  induction l with
  | nil => simp
  | cons x m ih =>
    have h1 := (h x (by simp)).2.1
    have h2 := ih fun y hy => h y (by simp [hy])
    simp only [List.map_cons, List.sum_cons, List.length_cons]
    omega

theorem take_le {α : Type} (k n : Nat) (l : List α) (h : l.length ≤ n) : (l.take k).length ≤ n := by rw [List.length_take]; omega

/-- How much a directory of a right disk holds. -/
theorem dir_sz {d : shDisk.D} (h : specOkP d) (k : Nat) : Sh.sz (.sl shLink) (dirL d.2.2.2.2.1 (List.take (α := TurnD) k d.2.2.2.2.2.1)) ≤ 1048576 := by
  have hn := names_disk h k
  have hl := dirL_len d.2.2.2.2.1 (List.take (α := TurnD) k d.2.2.2.2.2.1)
  obtain ⟨⟨_, _, _, _, _, _, _, l4, l5⟩, _⟩ := h
  have l4' : List.length (α := LinkD) d.2.2.2.2.1 ≤ 8 := l4
  have l6 : List.length (α := TurnD) (List.take (α := TurnD) k d.2.2.2.2.2.1) ≤ 40 := take_le (α := TurnD) k 40 _ l5
  have h8 := bulkL_le _ hn
  have h9 := bulkL_sz (dirL d.2.2.2.2.1 (List.take (α := TurnD) k d.2.2.2.2.2.1))
  refine Nat.le_trans (Nat.le_of_eq h9) ?_
  omega

/-- linksOf of directoryBehind: the model's directory. -/
theorem links_dir {d : shDisk.D} (h : specOkP d) (k b n : Nat) (w : World) (hm : MapIs w b n (dirF (List.reverse (α := LinkD) d.2.2.2.2.1) (List.take (α := TurnD) k d.2.2.2.2.2.1))) (hn : n ≤ 1000000) :
    Calls Tryz.prog 41 #[.map (some b)] w fun e w' => ∃ v F, e = .returned v ∧ Own (.sl shLink) w' w.heap.size [v] (dirL d.2.2.2.2.1 (List.take (α := TurnD) k d.2.2.2.2.2.1)) F ∧ F.Nodup ∧ Below w.heap.size w w' := by
  have ha := dir_alikeK h k
  refine (implLinks_ok b n _ w hm hn (fun s hs => ?_)).mono ?_
  · rw [← (ha s).1] at hs
    obtain ⟨x, hx, rfl, _⟩ := findL_mem hs
    have := (names_disk h k x hx).2.1
    omega
  · rintro e w' ⟨v, m, L, rfl, ho, hL, hb⟩
    obtain ⟨hl, hasc, hal, hsm⟩ := hL.out
    have e : L = dirL d.2.2.2.2.1 (List.take (α := TurnD) k d.2.2.2.2.2.1) := asc_eq hasc (asc_disk h k) (hal.trans ha.symm)
    subst e
    obtain ⟨F, hF, hnd, _⟩ := own_linksV hl hsm ho
    exact ⟨v, F, rfl, hF, hnd, hb⟩

end Go.Proofs.YtkaegbhmeonjfaaGreat

/- CalmI: DiskCalm of the program. By program (calmgen2.py). -/
namespace Go.Proofs.YtkaegbhmeonjfaaGreat
open Go.RowKit
set_option linter.unusedVariables false
set_option maxRecDepth 100000
set_option linter.unusedSimpArgs false

/-- A node whose content is safe. -/
def calmN (x : NodeD) : NodeD := (x.1, x.2.1, x.2.1, ())
/-- The nodes that a list of links names. -/
def keepN (kl : List LinkD) (nd : List NodeD) : List NodeD := nd.filter fun x => hasN (idsK kl) x.1
theorem keepP_snd (kl : List LinkD) (P : List (List Value × NodeD)) : (keepP kl P).map Prod.snd = keepN kl (P.map Prod.snd) := by
  unfold keepP keepN
  rw [List.filter_map]
  rfl

/-- What DiskCalm makes of a right disk. -/
def calmD (d : shDisk.D) : shDisk.D := (d.1, d.2.1, d.2.2.1, (keepN (dirL d.2.2.2.2.1 d.2.2.2.2.2.1) d.2.2.2.1).map calmN, dirL d.2.2.2.2.1 d.2.2.2.2.2.1, ([] : List TurnD), ())

theorem node_body {w : World} {c : List Value} {x : NodeD} (h : Reads shNode w c x) : ∃ p1 m1 k1 p2 m2 k2, c = [.int .i64 x.1, .slice p1 m1 k1, .slice p2 m2 k2] ∧ Reads (.sl .u8) w [.slice p1 m1 k1] x.2.1 := by
  obtain ⟨p1, m1, k1, p2, m2, k2, e, r1, r2⟩ := open_Node h
  exact ⟨p1, m1, k1, p2, m2, k2, e, r1⟩

theorem node_len {d : shDisk.D} (h : shDisk.sz d ≤ 1048576) {nd : List NodeD} (hnd : nd = d.2.2.2.1) {x : NodeD} (hx : x ∈ nd) : List.length (α := Int) x.2.1 ≤ 1048576 := by
  obtain ⟨i, hi, rfl⟩ := List.mem_iff_getElem.1 hx
  rw [sz_Disk, ← hnd] at h
  have h2 := sz_elem shNode nd i _ (List.getElem?_eq_getElem hi)
  have h3 : List.length (α := Int) (nd[i]).2.1 ≤ shNode.sz (nd[i]) := (sz_len _).1
  have h4 : Sh.sz (.sl shNode) nd = List.length (α := NodeD) nd + (List.map shNode.sz nd).sum := rfl
  have h5 : shNode.sz (nd[i]) ≤ (List.map shNode.sz nd).sum := h2
  omega

end Go.Proofs.YtkaegbhmeonjfaaGreat

/- CalmP: Sizes of what DiskCalm answers; a row of nodes as a reading; the nodes of a disk of the call's own, with their cells. -/
namespace Go.Proofs.YtkaegbhmeonjfaaGreat
open Go.RowKit
set_option linter.unusedVariables false
set_option maxRecDepth 100000

theorem bytes_sz (l : List Int) : Sh.sz (.sl .u8) l = l.length := by
  show l.length + (List.map (fun _ : Int => 0) l).sum = l.length
  induction l with
  | nil => rfl
  | cons a l ih =>
    simp at ih ⊢
    exact ih

def bodyLen (x : NodeD) : Nat := List.length (α := Int) x.2.1
def safeLen (x : NodeD) : Nat := List.length (α := Int) x.2.2.1

theorem node_szN (x : NodeD) : shNode.sz x = bodyLen x + safeLen x := by
  refine Eq.trans (sz_Node x) ?_
  have h1 : Sh.sz (.sl .u8) x.2.1 = bodyLen x := bytes_sz x.2.1
  have h2 : Sh.sz (.sl .u8) x.2.2.1 = safeLen x := bytes_sz x.2.2.1
  exact (congrArg (· + Sh.sz (.sl .u8) x.2.2.1) h1).trans (congrArg (bodyLen x + ·) h2)

theorem used_sum (l : List NodeD) : ∀ k, k ≤ l.length → (((l.take k).map bodyLen).sum : Int) ≤ usedTo l k ∧ (((l.take k).map safeLen).sum : Int) ≤ usedTo l k := by
  intro k
  induction k with
  | zero =>
    intro _
    have h0 : usedTo l 0 = 0 := usedTo_zero l
    rw [h0]; simp
  | succ k ih =>
    intro hk
    have ⟨i1, i2⟩ := ih (by omega)
    have hk' : k < l.length := by omega
    have hx : shNode.at l k = some l[k] := List.getElem?_eq_getElem hk'
    have hu : usedTo l (k + 1) = usedTo l k + (if ((bodyLen l[k] : Nat) : Int) > ((safeLen l[k] : Nat) : Int) then ((bodyLen l[k] : Nat) : Int) else ((safeLen l[k] : Nat) : Int)) := usedTo_succ l k _ hx
    rw [List.take_succ_eq_append_getElem hk', List.map_append, List.map_append, List.sum_append, List.sum_append]
    simp only [List.map_cons, List.map_nil, List.sum_cons, List.sum_nil, Nat.add_zero]
    rw [hu]
    split <;> (refine ⟨?_, ?_⟩ <;> omega)

theorem sum_two (l : List NodeD) : (List.map shNode.sz l).sum = (l.map bodyLen).sum + (l.map safeLen).sum := by
  induction l with
  | nil => rfl
  | cons x l ih =>
    have h := node_szN x
    have e : (List.map shNode.sz (x :: l)).sum = shNode.sz x + (List.map shNode.sz l).sum := rfl
    refine e.trans ?_
    simp only [List.map_cons, List.sum_cons]
    omega

theorem body_sum {d : shDisk.D} (h : specOkP d) {nd : List NodeD} (hnd : nd = d.2.2.2.1) : (nd.map bodyLen).sum ≤ 60000 ∧ nd.length ≤ 8 ∧ Sh.sz (.sl shNode) nd ≤ 200000 := by
  obtain ⟨x0, e0⟩ : ∃ x : Int, x = d.1 := ⟨_, rfl⟩
  have lims := h.1
  have h8 : nd.length ≤ 8 := by rw [hnd]; exact lims.2.2.2.2.2.2.1
  have hr : x0 ≤ 60000 := by rw [e0]; exact lims.2.1
  have hu : usedTo nd nd.length ≤ x0 := by rw [hnd, e0]; exact h.2.2.2.2.2.2
  have h1 := used_sum nd nd.length (Nat.le_refl _)
  rw [List.take_length] at h1
  have h2 := sum_two nd
  have h3 : Sh.sz (.sl shNode) nd = nd.length + (List.map shNode.sz nd).sum := rfl
  refine ⟨by omega, h8, ?_⟩
  omega

theorem keep_sum (kl : List LinkD) (l : List NodeD) : ((keepN kl l).map bodyLen).sum ≤ (l.map bodyLen).sum := by
  unfold keepN
  induction l with
  | nil => simp
  | cons x l ih =>
    rw [List.filter_cons]
    split
    · simp only [List.map_cons, List.sum_cons]; omega
    · simp only [List.map_cons, List.sum_cons]; omega

theorem calm_sz {d : shDisk.D} (h : specOkP d) : shDisk.sz (calmD d) ≤ 1048576 := by
  obtain ⟨nd, hnd⟩ : ∃ l : List NodeD, l = d.2.2.2.1 := ⟨_, rfl⟩
  obtain ⟨hb, h8, _⟩ := body_sum h hnd
  have hall : List.take (α := TurnD) (List.length (α := TurnD) d.2.2.2.2.2.1) d.2.2.2.2.2.1 = d.2.2.2.2.2.1 := List.take_length
  have hn := names_disk h (List.length (α := TurnD) d.2.2.2.2.2.1)
  have hl := dirL_len d.2.2.2.2.1 d.2.2.2.2.2.1
  rw [hall] at hn
  have lims := h.1
  have l4 : List.length (α := LinkD) d.2.2.2.2.1 ≤ 8 := lims.2.2.2.2.2.2.2.1
  have l5 : List.length (α := TurnD) d.2.2.2.2.2.1 ≤ 40 := lims.2.2.2.2.2.2.2.2
  obtain ⟨DL, hDL⟩ : ∃ l : List LinkD, l = dirL d.2.2.2.2.1 d.2.2.2.2.2.1 := ⟨_, rfl⟩
  obtain ⟨K, hK⟩ : ∃ l : List NodeD, l = keepN DL nd := ⟨_, rfl⟩
  have hk := keep_sum DL nd
  have hkl : K.length ≤ 8 := by rw [hK]; exact Nat.le_trans (List.length_filter_le _ _) h8
  rw [← hDL] at hn hl
  rw [← hK] at hk
  have hL := bulkL_le DL hn
  have hz := bulkL_sz DL
  have e1 : (calmD d).2.2.2.1 = K.map calmN := by rw [hK, hDL, hnd]; rfl
  have e2 : (calmD d).2.2.2.2.1 = DL := by rw [hDL]; rfl
  have e3 : Sh.sz (.sl shTurn) (calmD d).2.2.2.2.2.1 = 0 := rfl
  have hcalm : ∀ m : List NodeD, (List.map shNode.sz (m.map calmN)).sum = 2 * (m.map bodyLen).sum := by
    intro m
    induction m with
    | nil => rfl
    | cons x m ih =>
      have h9 := node_szN (calmN x)
      have h10 : bodyLen (calmN x) = bodyLen x := rfl
      have h11 : safeLen (calmN x) = bodyLen x := rfl
      have e : (List.map shNode.sz ((x :: m).map calmN)).sum = shNode.sz (calmN x) + (List.map shNode.sz (m.map calmN)).sum := rfl
      rw [e, ih, h9]
      simp only [List.map_cons, List.sum_cons]
      omega
  have hN : Sh.sz (.sl shNode) (K.map calmN) ≤ 200000 := by
    show List.length (α := NodeD) (K.map calmN) + (List.map shNode.sz (K.map calmN)).sum ≤ _
    have := hcalm K
    rw [List.length_map]
    omega
  rw [sz_Disk, e3]
  have hA : Sh.sz (.sl shNode) (calmD d).2.2.2.1 ≤ 200000 := by rw [e1]; exact hN
  have hB : Sh.sz (.sl shLink) (calmD d).2.2.2.2.1 ≤ 1000 := by
    rw [e2]
    refine Nat.le_trans (Nat.le_of_eq hz) ?_
    omega
  omega

/-- A disk read off its parts. -/
theorem reads_Disk {w : World} {d : shDisk.D} {v3 v4 v5 : Value} (r3 : Reads (.sl shNode) w [v3] d.2.2.2.1) (r4 : Reads (.sl shLink) w [v4] d.2.2.2.2.1) (r5 : Reads (.sl shTurn) w [v5] d.2.2.2.2.2.1) :
    Reads shDisk w [.int .i64 d.1, .int .i64 d.2.1, .int .i64 d.2.2.1, v3, v4, v5] d :=
  ⟨[_], _, rfl, rfl, [_], _, rfl, rfl, [_], _, rfl, rfl, [_], _, rfl, r3, [_], _, rfl, r4, [_], _, rfl, r5, rfl⟩

/-- A row whose elements read as nodes. -/
theorem rows_reads {w : World} {B m : Nat} {v : Value} {Cs : List (List Value)} {ds : List NodeD} (h : w.ownsRow B 70 3 v m Cs.flatten) (h3 : ∀ x ∈ Cs, x.length = 3) (hC : Cs.length = m) (hD : ds.length = m)
    (he : ∀ (i : Nat) (c : List Value) (x : NodeD), Cs[i]? = some c → ds[i]? = some x → Reads shNode w c x) : Reads (.sl shNode) w [v] ds := by
  rcases h.2 with ⟨h1, h2⟩ | ⟨g, cap, cur, hv, hg, hh, hc1, hc2, hc3, hc4⟩
  · have : ds = [] := List.eq_nil_of_length_eq_zero (by omega)
    subst this
    rw [h1]
    exact ⟨none, 0, rfl, Nat.le_refl _, Nat.zero_le _, .inl rfl⟩
  · subst hv
    refine ⟨some ⟨g, 0, none⟩, cap, by show _ = [Value.slice _ ds.length cap]; rw [hD], by show ds.length ≤ cap; omega, hc2, .inr ⟨g, 0, rfl, (Array.getElem?_eq_some_iff.1 hh).1, fun i x hi => ?_⟩⟩
    have hx : ds[i]? = some x := hi
    have hil : i < ds.length := (List.getElem?_eq_some_iff.1 hx).1
    have hc : Cs[i]? = some Cs[i] := List.getElem?_eq_getElem (by omega)
    refine ⟨Cs[i], h3 _ (List.getElem_mem (by omega)), fun j hj => ?_, he i _ x hc hx⟩
    rw [Nat.zero_add]
    exact (row_cells h h3 hc hC j hj).1

/-- The nodes of a disk of the call's own, with their cells. -/
theorem rowP_own {w : World} {B : Nat} {a : Option Addr} {n c : Nat} {nd : List NodeD} {F : List Nat} (h : Own (.sl shNode) w B [.slice a n c] nd F) : ∃ P : List (List Value × NodeD), P.map Prod.snd = nd ∧ RowP w a P ∧ ∀ p ∈ P, ∃ f, Own shNode w B p.1 p.2 f := by
  have hl : List.length (α := NodeD) nd = n := (reads_len h.reads).1
  have key : ∀ k (hk : k < nd.length), ∃ c, (∃ f, Own shNode w B c nd[k] f) ∧ ∃ b off p1 m1 k1 p2 m2 k2, a = some ⟨b, off, none⟩ ∧ b < w.heap.size ∧ c = [.int .i64 (nd[k]).1, .slice p1 m1 k1, .slice p2 m2 k2] ∧
      w.cell? ⟨b, off + k * 3, none⟩ = some (.int .i64 (nd[k]).1) ∧ w.cell? ⟨b, off + k * 3 + 1, none⟩ = some (.slice p1 m1 k1) ∧ w.cell? ⟨b, off + k * 3 + 2, none⟩ = some (.slice p2 m2 k2) := by
    intro k hk
    obtain ⟨g, cc, x, f, rfl, hg, hx, hox, _, hcell⟩ := own_get h k (by omega)
    obtain ⟨hkd, hxe⟩ := at_some' hx
    obtain rfl : nd[k] = x := hxe
    obtain ⟨p1, m1, k1, F1, p2, m2, k2, F2, e, _, o1, o2⟩ := openO_Node hox
    subst e
    refine ⟨_, ⟨f, hox⟩, g, 0, p1, m1, k1, p2, m2, k2, rfl, hg, rfl, ?_, ?_, ?_⟩
    · rw [Nat.zero_add]; exact hcell 0 (by decide)
    · rw [Nat.zero_add]; exact hcell 1 (by decide)
    · rw [Nat.zero_add]; exact hcell 2 (by decide)
  refine ⟨(List.finRange nd.length).map fun i => (Classical.choose (key i.1 i.2), nd[i.1]), ?_, ?_, ?_⟩
  · rw [List.map_map]
    apply List.ext_getElem
    · simp
    · intro i h1 h2; simp
  · intro k hk
    have hk' : k < nd.length := by simpa using hk
    have hs := Classical.choose_spec (key k hk')
    obtain ⟨_, b, off, p1, m1, k1, p2, m2, k2, ha, hb, hc, c0, c1, c2⟩ := hs
    refine ⟨b, off, p1, m1, k1, p2, m2, k2, ha, hb, ?_, ?_, c1, c2⟩
    · simpa using hc
    · simpa using c0
  · intro p hp
    obtain ⟨i, _, rfl⟩ := List.mem_map.1 hp
    exact (Classical.choose_spec (key i.1 i.2)).1

/-- What the model's loop has done when k nodes are made calm: their bodies are those of w2, their safe contents rows of the call's own. -/
structure CalmR (w w2 : World) (R1 RB RT : Nat) (v : Value) (m k : Nat) (Cs : List (List Value)) (Q : List (List Value × NodeD)) : Prop where
  row : w.ownsRow RB 70 3 v m Cs.flatten
  len3 : ∀ x ∈ Cs, x.length = 3
  lenC : Cs.length = m
  el : ∀ (i : Nat) (c : List Value) (p : List Value × NodeD), i < k → Cs[i]? = some c → Q[i]? = some p → ∃ a1 n1 c1 v2 f1 f, c = [.int .i64 p.2.1, .slice a1 n1 c1, v2] ∧ Own (.sl .u8) w2 R1 [.slice a1 n1 c1] p.2.2.1 f1 ∧ Own (.sl .u8) w RT [v2] p.2.2.1 f
  old : ∀ i, k ≤ i → Cs[i]? = (Q.map Prod.fst)[i]?

theorem CalmR.later {w w' w2 : World} {R1 RB RT m k : Nat} {v : Value} {Cs : List (List Value)} {Q : List (List Value × NodeD)} (h : CalmR w w2 R1 RB RT v m k Cs Q) (hb : Below w.heap.size w w') : CalmR w' w2 R1 RB RT v m k Cs Q :=
  ⟨own_later h.row hb, h.len3, h.lenC, fun i c p hi hc hp => by
    obtain ⟨a1, n1, c1, v2, f1, f, e, r, o⟩ := h.el i c p hi hc hp
    exact ⟨a1, n1, c1, v2, f1, f, e, r, o.later hb⟩, h.old⟩

theorem CalmR.step {w w2 : World} {R1 RB RT g cap m k : Nat} {Cs : List (List Value)} {Q : List (List Value × NodeD)} (h : CalmR w w2 R1 RB RT (.slice (some ⟨g, 0, none⟩) m cap) m k Cs Q) (hk : k < m) (hg : g < RT)
    {p : List Value × NodeD} {a1 : Option Addr} {n1 c1 : Nat} {v2 : Value} {f1 f : List Nat} (hp : Q[k]? = some p) (hr : Own (.sl .u8) w2 R1 [.slice a1 n1 c1] p.2.2.1 f1) (ho : Own (.sl .u8) w RT [v2] p.2.2.1 f) :
    CalmR (((w.setCell ⟨g, k * 3, none⟩ (.int .i64 p.2.1)).setCell ⟨g, k * 3 + 1, none⟩ (.slice a1 n1 c1)).setCell ⟨g, k * 3 + 2, none⟩ v2) w2 R1 RB RT (.slice (some ⟨g, 0, none⟩) m cap) m (k + 1) (Cs.set k [.int .i64 p.2.1, .slice a1 n1 c1, v2]) Q := by
  have hC := h.lenC
  have keep : ∀ y, y ≠ g → (((w.setCell ⟨g, k * 3, none⟩ (.int .i64 p.2.1)).setCell ⟨g, k * 3 + 1, none⟩ (.slice a1 n1 c1)).setCell ⟨g, k * 3 + 2, none⟩ v2).heap[y]? = w.heap[y]? := fun y hy => (box_other _ hy).trans ((box_other _ hy).trans (box_other _ hy))
  refine ⟨row_set3 h.row h.len3 (by omega) _ _ _, fun y hy => ?_, by rw [List.length_set]; exact hC, fun i c q hi hc hq => ?_, fun i hi => ?_⟩
  · rcases List.mem_or_eq_of_mem_set hy with h1 | h1
    · exact h.len3 y h1
    · rw [h1]; rfl
  · by_cases e : i = k
    · subst e
      rw [List.getElem?_set_self (by omega)] at hc
      rw [hp] at hq
      obtain rfl := Option.some.inj hc
      obtain rfl := Option.some.inj hq
      exact ⟨a1, n1, c1, v2, f1, f, rfl, hr, ho.keep fun y hy => keep y (fun e9 => by have := (ho.lt y hy).1; omega)⟩
    · rw [List.getElem?_set_ne (fun e9 => e e9.symm)] at hc
      obtain ⟨b1, m1, d1, u2, f3, f2, e2, r2, o2⟩ := h.el i c q (by omega) hc hq
      exact ⟨b1, m1, d1, u2, f3, f2, e2, r2, o2.keep fun y hy => keep y (fun e9 => by have := (o2.lt y hy).1; omega)⟩
  · rw [List.getElem?_set_ne (by omega)]
    exact h.old i (by omega)

theorem CalmR.reads {w w2 : World} {R1 RB RT m : Nat} {v : Value} {Cs : List (List Value)} {Q : List (List Value × NodeD)} (h : CalmR w w2 R1 RB RT v m m Cs Q) (hm : Q.length = m) (hb : ∀ q, R1 ≤ q → q < w2.heap.size → w.heap[q]? = w2.heap[q]?) : Reads (.sl shNode) w [v] (Q.map fun p => calmN p.2) := by
  have hlen : (Q.map fun p => calmN p.2).length = Q.length := List.length_map _
  refine rows_reads h.row h.len3 h.lenC (hlen.trans hm) (fun i c x hc hx => ?_)
  have hx' : (Q.map fun p => calmN p.2)[i]? = some x := hx
  rw [List.getElem?_map] at hx'
  obtain ⟨p, hp, rfl⟩ := Option.map_eq_some_iff.1 hx'
  obtain ⟨a1, n1, c1, v2, f1, f, rfl, r, o⟩ := h.el i c p (by have := (List.getElem?_eq_some_iff.1 hp).1; omega) hc hp
  exact ⟨[_], _, rfl, rfl, [_], _, rfl, (r.keep fun q hq => hb q (r.lt q hq).1 (r.lt q hq).2).reads, [_], _, rfl, o.reads, rfl⟩

end Go.Proofs.YtkaegbhmeonjfaaGreat
