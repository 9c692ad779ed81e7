/-
  Slices of ints in the words of shapes: the helpers of the exact laws for them, a slice being one value.
-/
import Derived.Test.YthgbionamelloaaDoorVB
import Derived.Test.YthgbionamelloaaDoorInts
import Derived.Test.YthgbionamelloaaDoorIMarks
namespace Go.Proofs.YthgbionamelloaaDoor
open Go.RowKit
set_option linter.unusedVariables false

theorem cnt_ints (d : List Int) : Sh.cnt (.sl .int) d = d.length := by
  show (List.map (fun _ => 1) d).sum = d.length
  induction d with
  | nil => rfl
  | cons a l ih => simp [ih]; omega

theorem cntTo_ints (d : List Int) (i : Nat) (h : i ≤ d.length) : cntTo .int d i = i := by
  have h1 : cntTo .int d i = Sh.cnt (.sl .int) (List.take (α := Int) i d) := rfl
  exact h1.trans ((cnt_ints (List.take (α := Int) i d)).trans (by rw [List.length_take]; omega))

theorem sz_ints (d : List Int) : Sh.sz (.sl .int) d = d.length := by
  show List.length d + (List.map (fun _ => 0) d).sum = d.length
  rw [sum_zero]; rfl

/-- A slice of ints, in the elder words. -/
theorem reads_ints {w : World} {a : Option Addr} {n cap : Nat} {d : List Int} (h : Reads (.sl .int) w [Value.slice a n cap] d) : List.length d = n ∧ RdI w a d ∧ n ≤ cap ∧ cap ≤ maxLen := by
  obtain ⟨ad, cp, e, hl, hm, h0⟩ := h
  simp only [List.cons.injEq, Value.slice.injEq, and_true] at e
  obtain ⟨rfl, hn, rfl⟩ := e
  refine ⟨hn.symm, ?_, by omega, hm⟩
  rcases h0 with h | ⟨b, off, ha, hlt, hx⟩
  · exact .inl (List.eq_nil_of_length_eq_zero h)
  · refine .inr ⟨b, off, ha, hlt, fun i hi => ?_⟩
    obtain ⟨c, hc, hcell, hr⟩ := hx i d[i] (List.getElem?_eq_getElem hi)
    have h1 := hcell 0 (by decide)
    obtain rfl := hr
    simp only [Sh.size_int, Nat.mul_one, Nat.add_zero] at h1
    rw [h1]; simp [hi]

theorem reads_mkI {w : World} {a : Option Addr} {n cap : Nat} {zs : List Int} (h : RdI w a zs) (hl : zs.length = n) (hc : n ≤ cap) (hm : cap ≤ maxLen) : Reads (.sl .int) w [.slice a n cap] zs := by
  refine ⟨a, cap, by subst hl; rfl, ?_, hm, ?_⟩
  · show zs.length ≤ cap; omega
  · rcases h with h0 | ⟨b, off, h1, h2, h3⟩
    · left; show zs.length = 0; rw [h0]; rfl
    · right
      refine ⟨b, off, h1, h2, fun i x hx => ?_⟩
      have hx' : zs[i]? = some x := hx
      have hi : i < zs.length := (List.getElem?_eq_some_iff.1 hx').1
      refine ⟨[.int .i64 x], rfl, fun j hj => ?_, rfl⟩
      have hj0 : j = 0 := by have : j < 1 := hj; omega
      subst hj0
      have h5 : w.cell? ⟨b, off + i, none⟩ = some (.int .i64 x) := by rw [h3 i hi, hx']; rfl
      simpa [Sh.size_int] using h5

/-- A row of ints of the call's own, in these words. -/
theorem own_ints {w : World} {B g n cap : Nat} {d : List Int} (hl : d.length = n) (h : w.ownsRow B 3 1 (.slice (some ⟨g, 0, none⟩) n cap) n (d.map (Value.int .i64))) :
    Own (.sl .int) w B [.slice (some ⟨g, 0, none⟩) n cap] d [g] := by
  rcases h.2 with ⟨h1, _⟩ | ⟨g', cap', cur, hv, hg, hh, h1, h2, h3, h4⟩
  · simp at h1
  · simp only [Value.slice.injEq, Option.some.injEq, Addr.mk.injEq, and_true, true_and] at hv
    obtain ⟨rfl, rfl⟩ := hv
    refine .inr ⟨g, cap, 3, cur, d.map (fun x => [Value.int .i64 x]), d.map (fun _ => []), ?_, hg, hh, ?_, h2, h3, ?_, ?_, ?_, ?_, ?_⟩
    · show _ = [Value.slice _ d.length cap]; rw [hl]
    · show d.length ≤ cap; omega
    · show cur.toList.take (d.length * 1) = _
      rw [hl, h4]
      exact (flatten_single (Value.int .i64) d).symm
    · show (d.map _).length = d.length; simp
    · show (d.map _).length = d.length; simp
    · have : ∀ l : List Int, (l.map fun _ => ([] : List Nat)).flatten = [] := by
        intro l; induction l with
        | nil => rfl
        | cons a l ih => simp [ih]
      rw [this]
    · intro i c x f hc hx hf
      have hx' : d[i]? = some x := hx
      rw [List.getElem?_map, hx'] at hc hf
      obtain rfl : [Value.int .i64 x] = c := Option.some.inj hc
      obtain rfl : [] = f := Option.some.inj hf
      exact ⟨rfl, rfl⟩

theorem own_rowI {w : World} {B n : Nat} {v : Value} {d : List Int} (hl : d.length = n) (h : w.ownsRow B 3 1 v n (d.map (Value.int .i64))) : ∃ F, Own (.sl .int) w B [v] d F ∧ F.Nodup := by
  rcases h.2 with ⟨h1, h2⟩ | ⟨g, cap, cur, hv, _⟩
  · refine ⟨[], .inl ⟨by rw [h1], ?_, rfl⟩, by simp⟩
    show d.length = 0; omega
  · subst hv
    exact ⟨[g], own_ints hl h, by simp⟩

set_option maxHeartbeats 400000 in
theorem szIntS_any (a : Option Addr) (n cap : Nat) (d : List Int) (left : Int) (w : World) (hr : Reads (.sl .int) w [.slice a n cap] d) (h0 : 0 ≤ left) (h1 : left ≤ 1048576) :
    Calls Tryd.prog 13 #[.slice a n cap, .int .i64 left] w fun e w' => e = .returned (.int .i64 (szAns (Sh.sz (.sl .int) d) left)) ∧ Below w.heap.size w w' := by
  obtain ⟨hl, _, hc1, hc2⟩ := reads_ints hr
  have hs : Sh.sz (.sl .int) d = n := by rw [sz_ints, hl]
  rw [hs]
  unfold maxLen at hc2
  clear hr hs
  by_cases h : (n : Int) ≤ left
  · rw [szAns_yes h]
    have h2 : ¬ (left - (n : Int) < 0) := by omega
    go_enter Tryd.func13, Tryd.ntmps13
    go_wp2
    go_ret
    exact ⟨rfl, Below.refl _ _⟩
  · rw [szAns_no h]
    have h2 : (left - (n : Int) < 0) := by omega
    go_enter Tryd.func13, Tryd.ntmps13
    go_wp2
    go_ret
    exact ⟨rfl, Below.refl _ _⟩

theorem toIntS_own (a : Option Addr) (n cap : Nat) (d : List Int) (w : World) (hr : Reads (.sl .int) w [.slice a n cap] d) (hn : Sh.sz (.sl .int) d ≤ 1048576) :
    Calls Tryd.prog 18 #[.slice a n cap] w fun e w' => ∃ (g : Nat) (F : List Nat), e = .returned (.slice (some ⟨g, 0, none⟩) n n) ∧ Own (.sl .int) w' w.heap.size [.slice (some ⟨g, 0, none⟩) n n] d F ∧ F.Nodup ∧ Below w.heap.size w w' := by
  obtain ⟨hl, hrd, hc1, hc2⟩ := reads_ints hr
  have hs : Sh.sz (.sl .int) d = n := by rw [sz_ints, hl]
  refine (toIntS_any a n cap d w hl hrd (by omega)).mono ?_
  rintro e w' ⟨rfl, ho, hb⟩
  exact ⟨_, _, rfl, own_ints hl ho, by simp, hb⟩

theorem eqIntS_reads (a b : Option Addr) (n ca cb : Nat) (d : List Int) (w : World) (hr1 : Reads (.sl .int) w [.slice a n ca] d) (hr2 : Reads (.sl .int) w [.slice b n cb] d) (hn : Sh.sz (.sl .int) d ≤ 1048576) :
    Calls Tryd.prog 26 #[.slice a n ca, .slice b n cb] w fun e w' => e = .returned (.bool true) ∧ Below w.heap.size w w' := by
  obtain ⟨hl, hrd1, hc1, hc2⟩ := reads_ints hr1
  obtain ⟨_, hrd2, _, _⟩ := reads_ints hr2
  have hs : Sh.sz (.sl .int) d = n := by rw [sz_ints, hl]
  refine (eqIntS_same a b n ca cb d w hl hrd1 hrd2 (by omega)).mono ?_
  rintro e w' ⟨rfl, q, rfl⟩
  exact ⟨rfl, (Below.refl _ _).trans ⟨rfl, rfl, rfl, Nat.le_refl _, fun _ _ => rfl⟩⟩

theorem toIntS_v (v : Value) (d : List Int) (w : World) (hr : Reads (.sl .int) w [v] d) (hs : d.length ≤ 1048576) :
    Calls Tryd.prog 18 #[v] w fun e w' => ∃ v' F, e = .returned v' ∧ Own (.sl .int) w' w.heap.size [v'] d F ∧ F.Nodup ∧ Below w.heap.size w w' := by
  obtain ⟨a, c, rfl, _, _⟩ := reads_val hr
  refine (toIntS_own a _ c d w hr (by rw [sz_ints]; exact hs)).mono ?_
  rintro e w' ⟨g, F, rfl, ho, hn, hb⟩
  exact ⟨_, F, rfl, ho, hn, hb⟩

theorem eqIntS_v (v1 v2 : Value) (d : List Int) (w : World) (h1 : Reads (.sl .int) w [v1] d) (h2 : Reads (.sl .int) w [v2] d) (hs : d.length ≤ 1048576) :
    Calls Tryd.prog 26 #[v1, v2] w fun e w' => e = .returned (.bool true) ∧ Below w.heap.size w w' := by
  obtain ⟨a, c, rfl, _, _⟩ := reads_val h1
  obtain ⟨b, c2, rfl, _, _⟩ := reads_val h2
  exact eqIntS_reads a b _ c c2 d w h1 h2 (by rw [sz_ints]; exact hs)

set_option maxRecDepth 100000 in
set_option maxHeartbeats 1000000 in
theorem markIntS_own (a : Option Addr) (n cap B k : Nat) (d : List Int) (F : List Nat) (w : World) (ho : Own (.sl .int) w B [.slice a n cap] d F) (hnd : F.Nodup) (hk : k + Sh.cnt (.sl .int) d ≤ 1000000000000) :
    Calls Tryd.prog 27 #[.slice a n cap, .int .i64 k] w fun e w' => e = .returned (.int .i64 ((k + Sh.cnt (.sl .int) d : Nat) : Int)) ∧ Own (.sl .int) w' B [.slice a n cap] (Sh.mk (.sl .int) d k) F ∧ Touch w w' F := by
  obtain ⟨hl0, hm, hg⟩ := own_len ho
  have hl : List.length (α := Int) d = n := hl0
  rw [cnt_ints] at hk ⊢
  have HO : Hid (Own (.sl .int) w B [.slice a n cap] d F ∧ F.Nodup) := ⟨ho, hnd⟩
  have HL : Hid (d.length = n) := hl
  rw [hl] at hk ⊢
  clear ho hnd hl hl0
  unfold maxLen at hm
  go_enter Tryd.func27, Tryd.ntmps27
  go_wp2
  go_loopw [1, 5] (fun m i wr => ∃ j : Nat, j ≤ n ∧ m = .int .i64 ((k + j : Nat) : Int) ∧ i = .int .i64 j ∧ Hid (Own (.sl .int) wr B [.slice a n cap] (mkTo .int d k j) F) ∧ Touch w wr F) (fun _ i _ => n - (intOf i).toNat)
  case atStart => exact ⟨0, Nat.zero_le _, by simp, rfl, (congrArg (fun z => Own (.sl .int) w B [.slice a n cap] z F) (mkTo_zero .int d k)).mpr HO.out.1, Touch.refl _ _⟩
  case round =>
    obtain ⟨j, hj, rfl, rfl, ho, ht⟩ := hrel
    by_cases hlt : j < n
    · obtain ⟨g, rfl⟩ := hg.resolve_left (by omega)
      have hxd : Sh.at .int d j = some (d[j]'(by have := HL.out; omega)) := List.getElem?_eq_getElem _
      obtain ⟨t, cur, c, x, f, hh, hx, hoe, hnf, hgf, hfF, hgF, hBg, hcur, hclose⟩ := own_elem ho.out HO.out.2 j hlt
      obtain ⟨rfl, rfl⟩ := hoe
      have hc0 : wr.cell? ⟨g, j, none⟩ = some (.int .i64 x) := box_cell hh (by have := hcur 0 (by decide); simpa [Sh.size_int] using this)
      have hf0 : wr.frozen? ⟨g, j, none⟩ = false := box_frozen hh
      have hset : Own (.sl .int) (wr.setCell ⟨g, j, none⟩ (.int .i64 ((k + j : Nat) : Int))) B [.slice (some ⟨g, 0, none⟩) n cap] (mkTo .int d k (j + 1)) F := by
        have h1 := mkTo_set .int d k j _ hxd
        rw [cntTo_ints d j (by have := HL.out; omega)] at h1
        rw [← h1]
        refine hclose _ [.int .i64 ((k + j : Nat) : Int)] _ ⟨rfl, rfl⟩ ?_ ?_
        · rw [box_set _ hh, set_toArray1]; rfl
        · intro y _ hy _; exact box_other _ hy
      have ht2 : Touch w (wr.setCell ⟨g, j, none⟩ (.int .i64 ((k + j : Nat) : Int))) F := ht.trans (Touch.set wr g j _ hgF)
      have HH : Hid (_ ∧ _) := ⟨hset, ht2⟩
      clear hh hx hcur hclose hset ht2 hfF hgF hBg hnf hgf ho ht hxd
      go_wp2
      go_roundw
      case rel => exact ⟨j + 1, by omega, by congr 1, by go_num, HH.out.1, HH.out.2⟩
      case measure => simp [intOf]; omega
    · have e : j = n := by omega
      subst e
      have hfin : Own (.sl .int) wr B [.slice a j cap] (Sh.mk (.sl .int) d k) F := (congrArg (fun z => Own (.sl .int) wr B [.slice a j cap] z F) (mkTo_all .int d k j (Nat.le_of_eq HL.out))).mp ho.out
      have HH : Hid (Own (.sl .int) wr B [.slice a j cap] (Sh.mk (.sl .int) d k) F) := hfin
      clear hfin ho
      go_wp2
      go_ret
      exact ⟨rfl, HH.out, ht⟩

theorem markIntS_v (v : Value) (B : Nat) (k : Int) (kn : Nat) (d : List Int) (F : List Nat) (w : World) (hkn : k = kn) (ho : Own (.sl .int) w B [v] d F) (hnd : F.Nodup) (hk0 : 1 ≤ kn) (hk : kn + Sh.cnt (.sl .int) d ≤ 1000000000000) :
    Calls Tryd.prog 27 #[v, .int .i64 k] w fun e w' => e = .returned (.int .i64 ((kn + Sh.cnt (.sl .int) d : Nat) : Int)) ∧ Own (.sl .int) w' B [v] (Sh.mk (.sl .int) d kn) F ∧ Touch w w' F := by
  obtain ⟨a, c, rfl, _, _⟩ := own_val ho
  subst hkn
  exact markIntS_own a _ c B kn d F w ho hnd hk

end Go.Proofs.YthgbionamelloaaDoor
