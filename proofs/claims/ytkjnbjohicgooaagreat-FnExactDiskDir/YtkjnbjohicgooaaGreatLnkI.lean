/-
  linksOf of the program: the links of a map, gathered in whatever order they come, then set in the order of their names.
-/
import Derived.Test.YtkjnbjohicgooaaGreatLnkS
import Derived.Test.YtkjnbjohicgooaaGreatMapO
import Derived.Test.YtkjnbjohicgooaaGreatAppS
import Derived.Test.YtkjnbjohicgooaaGreatClS
import Derived.Maps.RangeWalk
namespace Go.Proofs.YtkjnbjohicgooaaGreat
open Go.RowKit Go.Maps
open Go.MapKept Go.ChangeMaps
set_option linter.unusedVariables false
set_option maxRecDepth 100000
set_option linter.unusedSimpArgs false

theorem keyS_self (s : ByteArray) : (keyS s).sameKey (keyS s) = true := by simp [keyS, Lit.sameKey]
theorem keyS_other {s t : ByteArray} (h : s ≠ t) : (keyS s).sameKey (keyS t) = false := sameKey_ne (keyS_inj h)

theorem keyOf_inv {x : ByteArray} {kl : Lit} (h : keyOf Tryz.prog 9 (.string x) = some kl) : kl = keyS x ∧ x.size ≤ maxLen := by
  simp [keyOf, Tryz.underlying9, mapKey] at h
  obtain ⟨h1, h2⟩ := h
  exact ⟨h2.symm, h1⟩

theorem keyStr_inv {key : Value} {kl : Lit} (h : keyOf Tryz.prog 9 key = some kl) : ∃ s, key = .string s := by
  cases key <;> simp [keyOf, Tryz.underlying9, mapKey] at h
  exact ⟨_, rfl⟩

theorem ranges_cnt {w : World} {b r n cnt : Nat} {D : DataW Unit} {left : Lit → Bool} (h : w.ranges Tryz.prog 9 anyInt b r n D left cnt) : cnt ≤ n := by
  obtain ⟨es, clock, since, seen, c0, _, _, hs, _, _, _, hc, _⟩ := h
  have : (leftOf es seen).size ≤ es.size := by unfold leftOf; exact Array.size_filter_le
  omega

/-- What is gathered of the links l while 'left' says what is still to come. -/
def Gat (l : List LinkD) (left : Lit → Bool) (acc : List LinkD) : Prop :=
  (∀ s, hasL acc s = (hasL l s && !left (keyS s))) ∧ (∀ x ∈ acc, x.2.1 = findL l x.1) ∧ (acc.Pairwise fun x y => x.1 ≠ y.1) ∧ SmallS acc

theorem hasL_snoc (l : List LinkD) (x : LinkD) (s : ByteArray) : hasL (l ++ [x]) s = (hasL l s || decide (x.1 = s)) := by simp [hasL]

theorem Gat.start {l : List LinkD} {left : Lit → Bool} (h : ∀ s, left (keyS s) = hasL l s) : Gat l left [] := by
  refine ⟨fun s => ?_, fun x hx => (by cases hx), List.Pairwise.nil, fun x hx => (by cases hx)⟩
  rw [h s, hasL_nil]; cases hasL l s <;> rfl

theorem Gat.step {l acc : List LinkD} {left : Lit → Bool} (h : Gat l left acc) {x : ByteArray} {c : Int} (hl : left (keyS x) = true) (hh : hasL l x = true) (hc : findL l x = c) (hs : x.size ≤ maxLen) :
    Gat l (fun z => left z && !z.sameKey (keyS x)) (acc ++ [(x, c, ())]) := by
  obtain ⟨h1, h2, h3, h4⟩ := h
  refine ⟨fun s => ?_, fun y hy => ?_, ?_, fun y hy => ?_⟩
  · rw [hasL_snoc, h1 s]
    show _ = (hasL l s && !(left (keyS s) && !(keyS s).sameKey (keyS x)))
    by_cases e : x = s
    · subst e; rw [keyS_self, hh]; simp
    · rw [keyS_other (fun e' => e e'.symm)]; simp [e]
  · rcases List.mem_append.1 hy with hy | hy
    · exact h2 y hy
    · rw [List.mem_singleton.1 hy]; exact hc.symm
  · refine List.pairwise_append.2 ⟨h3, List.pairwise_singleton _ _, fun y hy z hz => ?_⟩
    rw [List.mem_singleton.1 hz]
    intro e
    have : hasL acc x = true := by
      have := hasL_mem hy
      rw [e] at this; exact this
    rw [h1 x, hl] at this
    simp at this
  · rcases List.mem_append.1 hy with hy | hy
    · exact h4 y hy
    · rw [List.mem_singleton.1 hy]; exact hs

theorem Gat.perm {l acc acc' : List LinkD} {left : Lit → Bool} (h : Gat l left acc) (hp : acc'.Perm acc) : Gat l left acc' := by
  obtain ⟨h1, h2, h3, h4⟩ := h
  refine ⟨fun s => ?_, fun x hx => h2 x (hp.mem_iff.1 hx), (List.Perm.pairwise_iff (fun hxy => fun e => hxy e.symm) hp).2 h3, fun x hx => h4 x (hp.mem_iff.1 hx)⟩
  rw [← h1 s]
  unfold hasL
  rw [Bool.eq_iff_iff, List.any_eq_true, List.any_eq_true]
  exact ⟨fun ⟨x, hx, e⟩ => ⟨x, hp.mem_iff.1 hx, e⟩, fun ⟨x, hx, e⟩ => ⟨x, hp.mem_iff.2 hx, e⟩⟩

theorem Gat.alike {l acc : List LinkD} {left : Lit → Bool} (h : Gat l left acc) (h0 : ∀ kl, left kl = false) : Alike acc l := fun s => by
  obtain ⟨h1, h2, h3, h4⟩ := h
  have e : hasL acc s = hasL l s := by rw [h1 s, h0]; simp
  refine ⟨e, ?_⟩
  cases c : hasL acc s with
  | false => rw [findL_none c, findL_none (by rw [← e]; exact c)]
  | true =>
    obtain ⟨x, hx, rfl, hx2⟩ := findL_mem c
    rw [← hx2]; exact h2 x hx

set_option maxRecDepth 100000 in
set_option maxHeartbeats 4000000 in
theorem implLinks_ok (b n : Nat) (l : List LinkD) (w : World) (hm : MapIs w b n l) (hn : n ≤ 1000000) (hsm : ∀ s, hasL l s = true → s.size ≤ 1048576) :
    Calls Tryz.prog 46 #[.map (some b)] w fun e w' => ∃ v m L, e = .returned v ∧ w'.ownsRow w.heap.size 81 2 v m (cellsL L) ∧ Hid (L.length = m ∧ Asc L ∧ Alike L l ∧ SmallS L) ∧ Below w.heap.size w w' := by
  obtain ⟨i0, hi, hz0, hz1, hz2⟩ := info_parts infoLink
  have hbl := hm.lt
  obtain ⟨D, ho, hD⟩ := hm
  have HD : Hid (∀ s : ByteArray, Maps.has D (keyS s) = hasL l s ∧ D.atKey (keyS s) (.lit (.int .i64 0)) = .lit (.int .i64 (findL l s))) := hD
  have HSM : Hid (∀ s, hasL l s = true → s.size ≤ 1048576) := hsm
  clear hD hsm
  go_enter Tryz.func46, Tryz.ntmps46
  go_wp2_with (at_range; refine wpList_range_own _ rfl _ 77 rfl 9 3 lawS Tryz.underlying77 anyInt b n D rfl ho ?_; intro w0 hrg0 hg0 hs0)
  have B0 : Below w.heap.size w w0 := (Below.refl _ _).grown hg0 (Nat.le_refl _) (fun y h => by cases h)
  go_frame
  go_loopw [3] (fun u wr => ∃ (left : Lit → Bool) (cnt m : Nat) (acc : List LinkD) (uu : Value), uu = u ∧ wr.ranges Tryz.prog 9 anyInt b w.heap.size n D left cnt ∧ wr.ownsRow (w.heap.size + 1) 81 2 uu m (cellsL acc) ∧ Hid (acc.length = m ∧ Gat l left acc) ∧ m + cnt ≤ n ∧ w.heap.size + 1 ≤ wr.heap.size ∧ Below w.heap.size w wr) (fun _ wr => wr.rangeLeft b w.heap.size)
  case atStart => exact ⟨Maps.has D, _, 0, [], _, rfl, hrg0, ⟨rfl, .inl ⟨rfl, rfl⟩⟩, ⟨rfl, Gat.start fun s => (HD.out s).1⟩, by have := ranges_cnt hrg0; omega, by omega, B0⟩
  case round =>
    obtain ⟨left, cnt, m, acc, u, rfl, hrg, hown, HA, hmc, hsz, hbel⟩ := hrel
    obtain ⟨ua, uc, rfl⟩ : ∃ a c, u = .slice a m c := by
      rcases hown.2 with ⟨h1, h2⟩ | ⟨g, cap, cur, hv, _⟩
      · exact ⟨none, 0, by rw [h1, h2]⟩
      · exact ⟨_, _, hv⟩
    have hk3 : w.heap.size < w.heap.size + 1 := Nat.lt_succ_self _
    go_wp2_with (at_next; refine wpList_next_ranges _ rfl _ rfl 9 lawS anyInt Value.string (Value.int .i64) (fun key kl hkey => keyStr_inv hkey) (fun v y hv => by obtain ⟨c, rfl, _⟩ := anyInt_inv hv; exact ⟨c, rfl⟩) b w.heap.size n D left cnt rfl hrg ?_ ?_)
    · intro hc0 hl0
      have qs : Hid (Calls Tryz.prog 96 #[.slice ua m uc, .func (.func 97) #[] #[]] wr fun e w' => e = .returned (.tuple #[]) ∧ ∃ L, w'.ownsRow (w.heap.size + 1) 81 2 (.slice ua m uc) m (cellsL L) ∧ Hid (L.length = m ∧ Asc L ∧ Alike L l ∧ SmallS L) ∧ Below w.heap.size w w') := by
        show Calls _ _ _ _ _
        have hga := HA.out.2
        by_cases hz : m = 0
        · subst hz
          have hacc : acc = [] := List.length_eq_zero_iff.1 HA.out.1
          subst hacc
          refine Calls.mono (P := Tryz.prog) (AnyF.slices_SortFunc_none Tryz.sortLinks ua uc _ wr) ?_
          rintro e w' ⟨rfl, rfl⟩
          exact ⟨rfl, [], hown, ⟨rfl, asc_nil, hga.alike hl0, hga.2.2.2⟩, hbel⟩
        · obtain ⟨g, rfl⟩ : ∃ g, ua = some ⟨g, 0, none⟩ := by
            rcases hown.2 with ⟨h1, h2⟩ | ⟨g, cap, cur, hv, _⟩
            · exact absurd h2 hz
            · simp only [Value.slice.injEq] at hv
              exact ⟨g, hv.1⟩
          have hlo := (hown.lt g rfl).1
          refine (sortLinks_ok (w.heap.size + 1) g m uc acc wr HA.out.1 (by omega) hown hga.2.2.1).mono ?_
          rintro e w' ⟨rfl, L, hp, hasc, ho', hgr⟩
          have hg' := hga.perm hp
          exact ⟨rfl, L, ho', ⟨by rw [hp.length_eq, HA.out.1], hasc, hg'.alike hl0, hg'.2.2.2⟩, hbel.grown hgr hbel.size (fun y h => by cases h; omega)⟩
      clear hrg hown HA hmc hc0 hl0
      go_wp2_with fail
      refine qs.out.mono ?_
      rintro e w2 ⟨rfl, L, ho2, hL, hb2⟩
      have HO2 : Hid _ := own_lower ho2 (Nat.le_succ _)
      clear ho2 qs
      go_wp2
      go_ret
      exact ⟨_, m, L, rfl, HO2.out, hL, hb2⟩
    · intro x c kl y1 y2 w1 cnt1 hkey hlk hv hat hrg1 hlt hg1 hs1 hen
      obtain ⟨rfl, hxs⟩ := keyOf_inv hkey
      obtain ⟨c', ec, ey⟩ := anyInt_inv hv
      obtain rfl : c = c' := by injection ec
      obtain rfl : y1 = .lit (.int .i64 c) := congrArg Prod.fst ey
      have hh : hasL l x = true := by rw [← (HD.out x).1]; exact has_true_of_atKey hat
      have hf : findL l x = c := by
        have h9 := (HD.out x).2
        rw [hat] at h9
        injection h9 with h9
        injection h9 with _ h9
        exact h9.symm
      have hx20 := HSM.out x hh
      have HG : Hid ((acc ++ [(x, c, ())]).length = m + 1 ∧ Gat l (fun z => left z && !z.sameKey (keyS x)) (acc ++ [(x, c, ())])) := ⟨by rw [List.length_append, HA.out.1]; rfl, HA.out.2.step hlk hh hf hxs⟩
      have HCE : Hid (cellsL (acc ++ [(x, c, ())]) = cellsL acc ++ [.string x, .int .i64 c]) := cellsL_snoc _ _
      have b1 : Below w.heap.size w w1 := hbel.grown hg1 hbel.size (fun y h => by cases h; exact Nat.le_refl _)
      have o1 : w1.ownsRow (w.heap.size + 1) 81 2 (.slice ua m uc) m (cellsL acc) := by
        refine hown.kept hg1 ?_
        cases e9 : (Value.slice ua m uc).ownBlock with
        | none => exact .inl rfl
        | some q => exact .inr (fun e8 => by have h7 := (hown.lt q e9).1; simp at e8; omega)
      have HRG : Hid (wr.rangeLeft b w.heap.size = cnt) := hrg.left_eq
      have HX : Hid (x.size ≤ 1048576) := hx20
      clear hown hrg hkey hlk hv hat hh hf hxs HA hx20 hg1
      go_wp2_with fail
      refine (cloneS_any x _ HX.out).mono ?_
      rintro e w2 ⟨rfl, hb2⟩
      have o2 := own_later o1 hb2
      have b2 := b1.trans (hb2.mono b1.size)
      have hrg2 := hrg1.kept (below_grown hb2) (by simp) (by simp)
      clear o1 b1 hrg1 hen
      go_wp2_with (at_builtin; refine wpList_append_src rfl _ _ 28 rfl (w.heap.size + 1) 81 i0 (.agg #[.string ByteArray.empty, .int .i64 0]) 2 24 Tryz.underlying28 hi hz0 hz1 hz2 rfl (by decide) (.slice ua m uc) m (cellsL acc) rfl (o2.alloc _) (.slice (some ⟨w2.heap.size, 0, none⟩) 1 1) 1 [.string x, .int .i64 c] rfl rfl (.inr ⟨_, 1, rfl, cells_new w2 [.string x, .int .i64 c] 81⟩) ?c2 ?c3 ?c4 ?c5 ?_)
      case c2 => intro u hu; simp at hu; rcases hu with rfl | rfl <;> rfl
      case c3 => unfold maxLen; omega
      case c4 => omega
      case c5 => have h9 := hb2.size; simp; omega
      intro v3 w3 o3 gr3
      have b3 : Below w.heap.size w w3 := (b2.alloc b2.size _).grown gr3 (by have h9 := b2.size; simp; omega) (fun y h => Nat.le_of_succ_le (o2.lt y h).1)
      have hrg3 := (hrg2.kept (World.grownBy_alloc w2 _ none) (by simp) (by simp)).kept gr3 (fun e9 => by have h7 := (o2.lt b e9.symm).1; omega) (fun e9 => by have h7 := (o2.lt w.heap.size e9.symm).1; omega)
      have hz3 : w.heap.size + 1 ≤ w3.heap.size := by have h9 := hrg3.lt; omega
      rw [← HCE.out] at o3
      have HR3 : Hid (w3.rangeLeft b w.heap.size = cnt1) := hrg3.left_eq
      clear gr3 o2 hrg2 hb2
      go_wp2
      go_roundw
      case rel => exact ⟨_, cnt1, m + 1, _, _, rfl, hrg3, o3, HG, by omega, hz3, b3⟩
      case measure => rw [HR3.out, HRG.out]; exact hlt

end Go.Proofs.YtkjnbjohicgooaaGreat
