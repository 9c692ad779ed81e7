/-
  Joined: VI, CrashC.
-/
import Derived.Test.YtkaegbhmeonjfaaGreatJ1FnExactDiskCrash
import Derived.Test.YtkaegbhmeonjfaaGreatJ14FnExactDiskCrash
import Derived.Test.YtkaegbhmeonjfaaGreatJ15FnExactDiskCrash
import Derived.Test.YtkaegbhmeonjfaaGreatJ13FnExactDiskCrash
import Derived.Test.YtkaegbhmeonjfaaGreatJ3FnExactDiskCrash
import Derived.Deep.RegionHeld3
/- VI: Slices of ints in the words of shapes: the helpers of the exact laws for them, a slice being one value. -/
namespace Go.Proofs.YtkaegbhmeonjfaaGreat
open Go.RowKit
set_option linter.unusedVariables false
set_option maxRecDepth 100000

theorem cnt_ints (d : List Int) : Sh.cnt (.sl .int) d = d.length := by
  show (List.map (fun _ => 1) d).sum = d.length
  induction d with
  | nil => rfl
  | cons a l ih => simp [ih]; omega

theorem cntTo_ints (d : List Int) (i : Nat) (h : i ≤ d.length) : cntTo .int d i = i := by
  have h1 : cntTo .int d i = Sh.cnt (.sl .int) (List.take (α := Int) i d) := rfl
  exact h1.trans ((cnt_ints (List.take (α := Int) i d)).trans (by rw [List.length_take]; omega))

theorem sz_ints (d : List Int) : Sh.sz (.sl .int) d = d.length := by
  show List.length d + (List.map (fun _ => 0) d).sum = d.length
  rw [sum_zero]; rfl

/-- A slice of ints, in the elder words. -/
theorem reads_ints {w : World} {a : Option Addr} {n cap : Nat} {d : List Int} (h : Reads (.sl .int) w [Value.slice a n cap] d) : List.length d = n ∧ RdI w a d ∧ n ≤ cap ∧ cap ≤ maxLen := by
  obtain ⟨ad, cp, e, hl, hm, h0⟩ := h
  simp only [List.cons.injEq, Value.slice.injEq, and_true] at e
  obtain ⟨rfl, hn, rfl⟩ := e
  refine ⟨hn.symm, ?_, by omega, hm⟩
  rcases h0 with h | ⟨b, off, ha, hlt, hx⟩
  · exact .inl (List.eq_nil_of_length_eq_zero h)
  · refine .inr ⟨b, off, ha, hlt, fun i hi => ?_⟩
    obtain ⟨c, hc, hcell, hr⟩ := hx i d[i] (List.getElem?_eq_getElem hi)
    have h1 := hcell 0 (by decide)
    obtain rfl := hr
    simp only [Sh.size_int, Nat.mul_one, Nat.add_zero] at h1
    rw [h1]; simp [hi]

theorem reads_mkI {w : World} {a : Option Addr} {n cap : Nat} {zs : List Int} (h : RdI w a zs) (hl : zs.length = n) (hc : n ≤ cap) (hm : cap ≤ maxLen) : Reads (.sl .int) w [.slice a n cap] zs := by
  refine ⟨a, cap, by subst hl; rfl, ?_, hm, ?_⟩
  · show zs.length ≤ cap; omega
  · rcases h with h0 | ⟨b, off, h1, h2, h3⟩
    · left; show zs.length = 0; rw [h0]; rfl
    · right
      refine ⟨b, off, h1, h2, fun i x hx => ?_⟩
      have hx' : zs[i]? = some x := hx
      have hi : i < zs.length := (List.getElem?_eq_some_iff.1 hx').1
      refine ⟨[.int .i64 x], rfl, fun j hj => ?_, rfl⟩
      have hj0 : j = 0 := by have : j < 1 := hj; omega
      subst hj0
      have h5 : w.cell? ⟨b, off + i, none⟩ = some (.int .i64 x) := by rw [h3 i hi, hx']; rfl
      simpa [Sh.size_int] using h5

/-- A row of ints of the call's own, in these words. -/
theorem own_ints {w : World} {B g n cap : Nat} {d : List Int} (hl : d.length = n) (h : w.ownsRow B 3 1 (.slice (some ⟨g, 0, none⟩) n cap) n (d.map (Value.int .i64))) :
    Own (.sl .int) w B [.slice (some ⟨g, 0, none⟩) n cap] d [g] := by
  rcases h.2 with ⟨h1, _⟩ | ⟨g', cap', cur, hv, hg, hh, h1, h2, h3, h4⟩
  · simp at h1
  · simp only [Value.slice.injEq, Option.some.injEq, Addr.mk.injEq, and_true, true_and] at hv
    obtain ⟨rfl, rfl⟩ := hv
    refine .inr ⟨g, cap, 3, cur, d.map (fun x => [Value.int .i64 x]), d.map (fun _ => []), ?_, hg, hh, ?_, h2, h3, ?_, ?_, ?_, ?_, ?_⟩
    · show _ = [Value.slice _ d.length cap]; rw [hl]
    · show d.length ≤ cap; omega
    · show cur.toList.take (d.length * 1) = _
      rw [hl, h4]
      exact (flatten_single (Value.int .i64) d).symm
    · show (d.map _).length = d.length; simp
    · show (d.map _).length = d.length; simp
    · have : ∀ l : List Int, (l.map fun _ => ([] : List Nat)).flatten = [] := by
        intro l; induction l with
        | nil => rfl
        | cons a l ih => simp [ih]
      rw [this]
    · intro i c x f hc hx hf
      have hx' : d[i]? = some x := hx
      rw [List.getElem?_map, hx'] at hc hf
      obtain rfl : [Value.int .i64 x] = c := Option.some.inj hc
      obtain rfl : [] = f := Option.some.inj hf
      exact ⟨rfl, rfl⟩

theorem own_rowI {w : World} {B n : Nat} {v : Value} {d : List Int} (hl : d.length = n) (h : w.ownsRow B 3 1 v n (d.map (Value.int .i64))) : ∃ F, Own (.sl .int) w B [v] d F ∧ F.Nodup := by
  rcases h.2 with ⟨h1, h2⟩ | ⟨g, cap, cur, hv, _⟩
  · refine ⟨[], .inl ⟨by rw [h1], ?_, rfl⟩, by simp⟩
    show d.length = 0; omega
  · subst hv
    exact ⟨[g], own_ints hl h, by simp⟩

theorem toIntS_own (a : Option Addr) (n cap : Nat) (d : List Int) (w : World) (hr : Reads (.sl .int) w [.slice a n cap] d) (hn : Sh.sz (.sl .int) d ≤ 1048576) :
    Calls Tryz.prog 9 #[.slice a n cap] w fun e w' => ∃ (g : Nat) (F : List Nat), e = .returned (.slice (some ⟨g, 0, none⟩) n n) ∧ Own (.sl .int) w' w.heap.size [.slice (some ⟨g, 0, none⟩) n n] d F ∧ F.Nodup ∧ Below w.heap.size w w' := by
  obtain ⟨hl, hrd, hc1, hc2⟩ := reads_ints hr
  have hs : Sh.sz (.sl .int) d = n := by rw [sz_ints, hl]
  refine (toIntS_any a n cap d w hl hrd (by omega)).mono ?_
  rintro e w' ⟨rfl, ho, hb⟩
  exact ⟨_, _, rfl, own_ints hl ho, by simp, hb⟩

theorem eqIntS_reads (a b : Option Addr) (n ca cb : Nat) (d : List Int) (w : World) (hr1 : Reads (.sl .int) w [.slice a n ca] d) (hr2 : Reads (.sl .int) w [.slice b n cb] d) (hn : Sh.sz (.sl .int) d ≤ 1048576) :
    Calls Tryz.prog 12 #[.slice a n ca, .slice b n cb] w fun e w' => e = .returned (.bool true) ∧ Below w.heap.size w w' := by
  obtain ⟨hl, hrd1, hc1, hc2⟩ := reads_ints hr1
  obtain ⟨_, hrd2, _, _⟩ := reads_ints hr2
  have hs : Sh.sz (.sl .int) d = n := by rw [sz_ints, hl]
  refine (eqIntS_same a b n ca cb d w hl hrd1 hrd2 (by omega)).mono ?_
  rintro e w' ⟨rfl, q, rfl⟩
  exact ⟨rfl, (Below.refl _ _).trans ⟨rfl, rfl, rfl, Nat.le_refl _, fun _ _ => rfl⟩⟩

theorem toIntS_v (v : Value) (d : List Int) (w : World) (hr : Reads (.sl .int) w [v] d) (hs : d.length ≤ 1048576) :
    Calls Tryz.prog 9 #[v] w fun e w' => ∃ v' F, e = .returned v' ∧ Own (.sl .int) w' w.heap.size [v'] d F ∧ F.Nodup ∧ Below w.heap.size w w' := by
  obtain ⟨a, c, rfl, _, _⟩ := reads_val hr
  refine (toIntS_own a _ c d w hr (by rw [sz_ints]; exact hs)).mono ?_
  rintro e w' ⟨g, F, rfl, ho, hn, hb⟩
  exact ⟨_, F, rfl, ho, hn, hb⟩

theorem eqIntS_v (v1 v2 : Value) (d : List Int) (w : World) (h1 : Reads (.sl .int) w [v1] d) (h2 : Reads (.sl .int) w [v2] d) (hs : d.length ≤ 1048576) :
    Calls Tryz.prog 12 #[v1, v2] w fun e w' => e = .returned (.bool true) ∧ Below w.heap.size w w' := by
  obtain ⟨a, c, rfl, _, _⟩ := reads_val h1
  obtain ⟨b, c2, rfl, _, _⟩ := reads_val h2
  exact eqIntS_reads a b _ c c2 d w h1 h2 (by rw [sz_ints]; exact hs)

set_option maxRecDepth 100000 in
set_option maxHeartbeats 1000000 in
theorem markIntS_own (a : Option Addr) (n cap B k : Nat) (d : List Int) (F : List Nat) (w : World) (ho : Own (.sl .int) w B [.slice a n cap] d F) (hnd : F.Nodup) (hk : k + Sh.cnt (.sl .int) d ≤ 1000000000000) :
    Calls Tryz.prog 14 #[.slice a n cap, .int .i64 k] w fun e w' => e = .returned (.int .i64 ((k + Sh.cnt (.sl .int) d : Nat) : Int)) ∧ Own (.sl .int) w' B [.slice a n cap] (Sh.mk (.sl .int) d k) F ∧ Touch w w' F := by
  obtain ⟨hl0, hm, hg⟩ := own_len ho
  have hl : List.length (α := Int) d = n := hl0
  rw [cnt_ints] at hk ⊢
  have HO : Hid (Own (.sl .int) w B [.slice a n cap] d F ∧ F.Nodup) := ⟨ho, hnd⟩
  have HL : Hid (d.length = n) := hl
  rw [hl] at hk ⊢
  clear ho hnd hl hl0
  unfold maxLen at hm
  go_enter Tryz.func14, Tryz.ntmps14
  go_wp2
  go_loopw [1, 5] (fun m i wr => ∃ j : Nat, j ≤ n ∧ m = .int .i64 ((k + j : Nat) : Int) ∧ i = .int .i64 j ∧ Hid (Own (.sl .int) wr B [.slice a n cap] (mkTo .int d k j) F) ∧ Touch w wr F) (fun _ i _ => n - (intOf i).toNat)
  case atStart => exact ⟨0, Nat.zero_le _, by simp, rfl, (congrArg (fun z => Own (.sl .int) w B [.slice a n cap] z F) (mkTo_zero .int d k)).mpr HO.out.1, Touch.refl _ _⟩
  case round =>
    obtain ⟨j, hj, rfl, rfl, ho, ht⟩ := hrel
    by_cases hlt : j < n
    · obtain ⟨g, rfl⟩ := hg.resolve_left (by omega)
      have hxd : Sh.at .int d j = some (d[j]'(by have := HL.out; omega)) := List.getElem?_eq_getElem _
      obtain ⟨t, cur, c, x, f, hh, hx, hoe, hnf, hgf, hfF, hgF, hBg, hcur, hclose⟩ := own_elem ho.out HO.out.2 j hlt
      obtain ⟨rfl, rfl⟩ := hoe
      have hc0 : wr.cell? ⟨g, j, none⟩ = some (.int .i64 x) := box_cell hh (by have := hcur 0 (by decide); simpa [Sh.size_int] using this)
      have hf0 : wr.frozen? ⟨g, j, none⟩ = false := box_frozen hh
      have hset : Own (.sl .int) (wr.setCell ⟨g, j, none⟩ (.int .i64 ((k + j : Nat) : Int))) B [.slice (some ⟨g, 0, none⟩) n cap] (mkTo .int d k (j + 1)) F := by
        have h1 := mkTo_set .int d k j _ hxd
        rw [cntTo_ints d j (by have := HL.out; omega)] at h1
        rw [← h1]
        refine hclose _ [.int .i64 ((k + j : Nat) : Int)] _ ⟨rfl, rfl⟩ ?_ ?_
        · rw [box_set _ hh, set_toArray1]; rfl
        · intro y _ hy _; exact box_other _ hy
      have ht2 : Touch w (wr.setCell ⟨g, j, none⟩ (.int .i64 ((k + j : Nat) : Int))) F := ht.trans (Touch.set wr g j _ hgF)
      have HH : Hid (_ ∧ _) := ⟨hset, ht2⟩
      clear hh hx hcur hclose hset ht2 hfF hgF hBg hnf hgf ho ht hxd
      go_wp2
      go_roundw
      case rel => exact ⟨j + 1, by omega, by congr 1, by go_num, HH.out.1, HH.out.2⟩
      case measure => simp [intOf]; omega
    · have e : j = n := by omega
      subst e
      have hfin : Own (.sl .int) wr B [.slice a j cap] (Sh.mk (.sl .int) d k) F := (congrArg (fun z => Own (.sl .int) wr B [.slice a j cap] z F) (mkTo_all .int d k j (Nat.le_of_eq HL.out))).mp ho.out
      have HH : Hid (Own (.sl .int) wr B [.slice a j cap] (Sh.mk (.sl .int) d k) F) := hfin
      clear hfin ho
      go_wp2
      go_ret
      exact ⟨rfl, HH.out, ht⟩

theorem markIntS_v (v : Value) (B : Nat) (k : Int) (kn : Nat) (d : List Int) (F : List Nat) (w : World) (hkn : k = kn) (ho : Own (.sl .int) w B [v] d F) (hnd : F.Nodup) (hk0 : 1 ≤ kn) (hk : kn + Sh.cnt (.sl .int) d ≤ 1000000000000) :
    Calls Tryz.prog 14 #[v, .int .i64 k] w fun e w' => e = .returned (.int .i64 ((kn + Sh.cnt (.sl .int) d : Nat) : Int)) ∧ Own (.sl .int) w' B [v] (Sh.mk (.sl .int) d kn) F ∧ Touch w w' F := by
  obtain ⟨a, c, rfl, _, _⟩ := own_val ho
  subst hkn
  exact markIntS_own a _ c B kn d F w ho hnd hk

end Go.Proofs.YtkaegbhmeonjfaaGreat

/- CrashC: cutOf and tearing of the program, and what the function value that tearing hands out does. By program (crashgen.py). -/
namespace Go.Proofs.YtkaegbhmeonjfaaGreat
open Go.RowKit
set_option linter.unusedVariables false
set_option maxRecDepth 100000
set_option linter.unusedSimpArgs false

theorem tear_byt {xs ys : List Int} (k : Int) (hx : ∀ i : Nat, 0 ≤ xs[i]?.getD 0 ∧ xs[i]?.getD 0 ≤ 255) (hy : ∀ i : Nat, 0 ≤ ys[i]?.getD 0 ∧ ys[i]?.getD 0 ≤ 255) : ∀ i : Nat, 0 ≤ (tear xs ys k)[i]?.getD 0 ∧ (tear xs ys k)[i]?.getD 0 ≤ 255 := by
  intro i
  unfold tear tearAt
  split
  · by_cases h : i < xs.length - tk xs ys k
    · rw [List.getElem?_take_of_lt h]; exact hx i
    · rw [List.getElem?_eq_none (by rw [List.length_take]; omega)]; exact ⟨by decide, by decide⟩
  · by_cases h : i < share xs ys + tk xs ys k - (xs.length - share xs ys)
    · rw [List.getElem?_take_of_lt h]; exact hy i
    · rw [List.getElem?_eq_none (by rw [List.length_take]; omega)]; exact ⟨by decide, by decide⟩

/-- Tear of the program, up to its answer's own memory. -/
theorem implTearV (a b : Option Addr) (n m ca cb : Nat) (xs ys : List Int) (k : Int) (B1 B2 : Nat) (F1 F2 : List Nat) (w : World) (h1 : Own (.sl .u8) w B1 [.slice a n ca] xs F1) (h2 : Own (.sl .u8) w B2 [.slice b m cb] ys F2) (hn : n ≤ 1048576) (hm : m ≤ 1048576) (hk1 : -9223372036854775808 ≤ k) (hk2 : k ≤ 9223372036854775807) :
    Calls Tryz.prog 99 #[.slice a n ca, .slice b m cb, .int .i64 k] w fun e w' => ∃ va nv vc F, e = .returned (.slice va nv vc) ∧ Own (.sl .u8) w' w.heap.size [.slice va nv vc] (tear xs ys k) F ∧ F.Nodup ∧ Below w.heap.size w w' := by
  obtain ⟨l1, r1, c1, cm1⟩ := reads_bytes h1.reads
  obtain ⟨l2, r2, c2, cm2⟩ := reads_bytes h2.reads
  have z1 : a = none → ca = 0 := fun e => by subst e; exact (own_nil h1).2.1
  have z2 : b = none → cb = 0 := fun e => by subst e; exact (own_nil h2).2.1
  refine (implTear_any a b n m ca cb xs ys k w l1 l2 r1 r2 (by omega) (by omega) c1 c2 cm1 cm2 z1 z2 hk1 hk2).mono ?_
  rintro e w' ⟨v, rfl, ho, hb⟩
  obtain ⟨F, hF, hnd⟩ := own_row rfl (tear_byt k r1.1 r2.1) ho
  obtain ⟨va, vc, rfl, _⟩ := own_val hF
  exact ⟨va, _, vc, F, rfl, hF, hnd, hb⟩

set_option maxRecDepth 100000 in
set_option maxHeartbeats 2000000 in
theorem cutOf_ok (a : Option Addr) (n c : Nat) (cuts : List Int) (i : Nat) (w : World) (hr : Reads (.sl .int) w [.slice a n c] cuts) (hn : n ≤ 1048576) (hi : i ≤ 1048576) :
    Calls Tryz.prog 44 #[.slice a n c, .int .i64 i] w fun e w' => e = .returned (.int .i64 (cutAt cuts i)) ∧ Below w.heap.size w w' := by
  obtain ⟨hl, hrd, _, _⟩ := reads_ints hr
  by_cases h0 : n = 0
  · subst h0
    have HV : Hid (cutAt cuts i = 0) := by show _ = _; unfold cutAt; rw [if_pos hl]
    clear hl hrd hr
    go_enter Tryz.func44, Tryz.ntmps44
    go_wp2
    go_ret
    exact ⟨by rw [HV.out]; rfl, Below.refl _ _⟩
  · have hne : cuts ≠ [] := by intro h; subst h; simp at hl; omega
    obtain ⟨b, off, rfl, hb, hc⟩ := hrd.resolve_left hne
    have hlt : i % n < n := Nat.mod_lt _ (by omega)
    obtain ⟨y, hy⟩ : ∃ y, y = cuts[i % n]?.getD 0 := ⟨_, rfl⟩
    have HV : Hid (cutAt cuts i = y) := by show _ = _; unfold cutAt; rw [if_neg (by omega), hl, hy]
    have g0 : w.cell? ⟨b, off + i % n, none⟩ = some (.int .i64 y) := by rw [hy]; exact hc (i % n) (by omega)
    have hz : ((n : Int) == 0) = false := by simp; omega
    have hz2 : ¬ ((n : Int) = 0) := by omega
    clear hc hne hl hr hy
    go_enter Tryz.func44, Tryz.ntmps44
    go_wp2
    go_ret
    exact ⟨by rw [HV.out]; rfl, Below.refl _ _⟩

set_option maxRecDepth 100000 in
set_option maxHeartbeats 1000000 in
theorem tearing_ok (id : Int) (p1 : Option Addr) (m1 k1 : Nat) (p2 : Option Addr) (m2 k2 : Nat) (w : World) :
    Calls Tryz.prog 43 #[.agg #[.int .i64 id, .slice p1 m1 k1, .slice p2 m2 k2]] w fun e w' => e = .returned (.func (.func 97) #[] #[.pointer (some ⟨w.heap.size, 0, none⟩)]) ∧ w'.heap[w.heap.size]? = some (.cells #[.int .i64 id, .slice p1 m1 k1, .slice p2 m2 k2] 70 (0, 0)) ∧ Below w.heap.size w w' := by
  have HB : Hid ((w.alloc (.cells #[.int .i64 id, .slice p1 m1 k1, .slice p2 m2 k2] 70)).heap[w.heap.size]? = some (.cells #[.int .i64 id, .slice p1 m1 k1, .slice p2 m2 k2] 70 (0, 0))) := heap_alloc_new w _
  go_enter Tryz.func43, Tryz.ntmps43
  go_wp2
  go_ret
  exact ⟨rfl, HB.out, (Below.refl _ _).alloc (Nat.le_refl _) _⟩

set_option maxRecDepth 100000 in
set_option maxHeartbeats 4000000 in
theorem torn_ok (id k : Int) (p1 : Option Addr) (m1 k1 : Nat) (p2 : Option Addr) (m2 k2 : Nat) (zb zs : List Int) (b B1 B2 : Nat) (F1 F2 : List Nat) (w : World) (h1 : Own (.sl .u8) w B1 [.slice p1 m1 k1] zb F1) (h2 : Own (.sl .u8) w B2 [.slice p2 m2 k2] zs F2) (hm1 : m1 ≤ 1048576) (hm2 : m2 ≤ 1048576) (hk1 : -9223372036854775808 ≤ k) (hk2 : k ≤ 9223372036854775807)
    (hbx : w.heap[b]? = some (.cells #[.int .i64 id, .slice p1 m1 k1, .slice p2 m2 k2] 70 (0, 0))) :
    Calls Tryz.prog 97 #[.int .i64 k, .pointer (some ⟨b, 0, none⟩)] w fun e w' => ∃ a1 n1 c1 a2 n2 c2 F, e = .returned (.agg #[.int .i64 id, .slice a1 n1 c1, .slice a2 n2 c2]) ∧ Own shNode w' w.heap.size [.int .i64 id, .slice a1 n1 c1, .slice a2 n2 c2] ((id, tear zs zb k, tear zs zb k, ()) : NodeD) F ∧ F.Nodup ∧ Below w.heap.size w w' := by
  have hbl : b < w.heap.size := lt_heap hbx
  have hlen : (tear zs zb k).length ≤ 2097152 := by
    have h3 := tear_len_le zs zb k m2 m1 (reads_bytes h2.reads).1 (reads_bytes h1.reads).1
    omega
  obtain ⟨W0, hW0⟩ : ∃ W0, W0 = w.alloc (.cells #[.int .i64 0, .slice none 0 0, .slice none 0 0] 70) := ⟨_, rfl⟩
  have bW0 : Below w.heap.size w W0 := by rw [hW0]; exact (Below.refl _ _).alloc (Nat.le_refl _) _
  have hR : W0.heap[w.heap.size]? = some (.cells #[.int .i64 0, .slice none 0 0, .slice none 0 0] 70 (0, 0)) := by rw [hW0]; exact heap_alloc_new w _
  have zW0 : W0.heap.size = w.heap.size + 1 := by rw [hW0]; simp
  have HW0 : Hid (W0 = _) := hW0
  have bD : Below W0.heap.size W0 W0.drew := (Below.refl _ _).drew
  have BW : Hid (∀ w', Below W0.heap.size W0 w' → w'.heap[b]? = some (.cells #[.int .i64 id, .slice p1 m1 k1, .slice p2 m2 k2] 70 (0, 0))) := fun w' h' => (h'.block b (by omega)).trans ((bW0.block b hbl).trans hbx)
  have BS : Hid (∀ w' : World, w'.heap[b]? = some (.cells #[.int .i64 id, .slice p1 m1 k1, .slice p2 m2 k2] 70 (0, 0)) → w'.cell? ⟨b, 0, none⟩ = some (.int .i64 id) ∧ w'.cell? ⟨b, 2, none⟩ = some (.slice p2 m2 k2) ∧ w'.cell? ⟨b, 1, none⟩ = some (.slice p1 m1 k1)) := fun w' i => ⟨box_cell i rfl, box_cell i rfl, box_cell i rfl⟩
  have BX : Hid (∀ w', Below W0.heap.size W0 w' → w'.cell? ⟨b, 0, none⟩ = some (.int .i64 id) ∧ w'.cell? ⟨b, 2, none⟩ = some (.slice p2 m2 k2) ∧ w'.cell? ⟨b, 1, none⟩ = some (.slice p1 m1 k1)) := fun w' h' => BS.out w' (BW.out w' h')
  have qtr : Hid (∀ w', Below w.heap.size w w' → Calls Tryz.prog 99 #[.slice p2 m2 k2, .slice p1 m1 k1, .int .i64 k] w' fun e w'' => ∃ va nv vc F, e = .returned (.slice va nv vc) ∧ Own (.sl .u8) w'' w'.heap.size [.slice va nv vc] (tear zs zb k) F ∧ F.Nodup ∧ Below w'.heap.size w' w'') := fun w' h' => implTearV p2 p1 m2 m1 k2 k1 zs zb k B2 B1 F2 F1 w' (h2.later h') (h1.later h') hm2 hm1 hk1 hk2
  obtain ⟨Z, hZ⟩ : ∃ Z, Z = tear zs zb k := ⟨_, rfl⟩
  rw [← hZ] at qtr hlen ⊢
  have HL : Hid (Z.length ≤ 2097152) := hlen
  have HR0 : Hid (W0.heap[w.heap.size]? = some (.cells #[.int .i64 0, .slice none 0 0, .slice none 0 0] 70 (0, 0))) := hR
  clear hW0 hR hZ h1 h2 hbx hlen
  go_enter Tryz.func97, Tryz.ntmps97
  go_wp2_with fail
  rw [← HW0.out]
  refine wp_region_held_drew (S := fun w' => w'.cell? ⟨b, 0, none⟩ = some (.int .i64 id) ∧ w'.cell? ⟨b, 2, none⟩ = some (.slice p2 m2 k2) ∧ w'.cell? ⟨b, 1, none⟩ = some (.slice p1 m1 k1)) (by kernel_rfl) (BX.out _ bD) (fun hHeld => ?_)
  refine wpAnyH_take (i := 0) (v := .pointer (some ⟨b, 0, none⟩)) rfl (by kernel_rfl) (by kernel_rfl) (by kernel_rfl) (fun _ _ _ h => h) (Or.inl ⟨by kernel_rfl, ?_⟩) (by assumption) ?_
  · intro w9 hSw; (try dsimp only at hSw); go_simp
  simp only [Act.put, List.getElem_toArray, List.getElem_cons_succ, List.getElem_cons_zero, List.setIfInBounds_toArray, List.set_cons_zero, List.set_cons_succ]
  refine wpAnyH_take (i := 1) (v := .int .i64 id) rfl (by kernel_rfl) (by kernel_rfl) (by kernel_rfl) (fun _ _ _ h => h) (Or.inl ⟨by kernel_rfl, ?_⟩) (by assumption) ?_
  · intro w9 hSw; (try dsimp only at hSw); go_simp
  simp only [Act.put, List.getElem_toArray, List.getElem_cons_succ, List.getElem_cons_zero, List.setIfInBounds_toArray, List.set_cons_zero, List.set_cons_succ]
  refine wpAnyH_take (i := 2) (v := .pointer (some ⟨b, 2, none⟩)) rfl (by kernel_rfl) (by kernel_rfl) (by kernel_rfl) (fun _ _ _ h => h) (Or.inl ⟨by kernel_rfl, ?_⟩) (by assumption) ?_
  · intro w9 hSw; (try dsimp only at hSw); go_simp
  simp only [Act.put, List.getElem_toArray, List.getElem_cons_succ, List.getElem_cons_zero, List.setIfInBounds_toArray, List.set_cons_zero, List.set_cons_succ]
  refine wpAnyH_take (i := 3) (v := .slice p2 m2 k2) rfl (by kernel_rfl) (by kernel_rfl) (by kernel_rfl) (fun _ _ _ h => h) (Or.inl ⟨by kernel_rfl, ?_⟩) (by assumption) ?_
  · intro w9 hSw; (try dsimp only at hSw); go_simp
  simp only [Act.put, List.getElem_toArray, List.getElem_cons_succ, List.getElem_cons_zero, List.setIfInBounds_toArray, List.set_cons_zero, List.set_cons_succ]
  refine wpAnyH_take (i := 4) (v := .pointer (some ⟨b, 1, none⟩)) rfl (by kernel_rfl) (by kernel_rfl) (by kernel_rfl) (fun _ _ _ h => h) (Or.inl ⟨by kernel_rfl, ?_⟩) (by assumption) ?_
  · intro w9 hSw; (try dsimp only at hSw); go_simp
  simp only [Act.put, List.getElem_toArray, List.getElem_cons_succ, List.getElem_cons_zero, List.setIfInBounds_toArray, List.set_cons_zero, List.set_cons_succ]
  refine wpAnyH_take (i := 5) (v := .slice p1 m1 k1) rfl (by kernel_rfl) (by kernel_rfl) (by kernel_rfl) (fun _ _ _ h => h) (Or.inl ⟨by kernel_rfl, ?_⟩) (by assumption) ?_
  · intro w9 hSw; (try dsimp only at hSw); go_simp
  simp only [Act.put, List.getElem_toArray, List.getElem_cons_succ, List.getElem_cons_zero, List.setIfInBounds_toArray, List.set_cons_zero, List.set_cons_succ]
  refine wpAnyH_take (i := 6) (v := .int .i64 k) rfl (by kernel_rfl) (by kernel_rfl) (by kernel_rfl) (fun _ _ _ h => h) (Or.inl ⟨by kernel_rfl, ?_⟩) (by assumption) ?_
  · intro w9 hSw; (try dsimp only at hSw); go_simp
  simp only [Act.put, List.getElem_toArray, List.getElem_cons_succ, List.getElem_cons_zero, List.setIfInBounds_toArray, List.set_cons_zero, List.set_cons_succ]
  refine wpAnyH_ready (rs := [7]) (by kernel_rfl) (by simp) ?_
  refine AllReadyH.cons rfl (fun K hK => ?_) AllReadyH.nil
  go_simp
  refine (qtr.out _ (bW0.trans (bD.mono bW0.size))).mono ?_
  rintro e w2 ⟨va, nv, vc, FT, rfl, oT, ndT, hb2⟩
  have d2 : Below W0.heap.size W0 w2 := bD.trans (hb2.mono bD.size)
  have OT : Hid (Own (.sl .u8) w2 W0.drew.heap.size [.slice va nv vc] Z FT) := oT
  clear oT ndT hb2
  refine hK.out _ _ (BX.out w2 d2) (fun hHeld7 => ?_)
  clear hK
  refine wpAnyH_ready (rs := [8]) (by kernel_rfl) (by simp) ?_
  refine AllReadyH.cons rfl (fun K hK => ?_) AllReadyH.nil
  go_simp
  refine (settled_ok id (.slice va nv vc) Z _ OT.out.reads HL.out).mono ?_
  rintro e w3 ⟨u1, l1, t1, u2, l2, t2, f, rfl, ho3, hf3, hb3⟩
  have d3 : Below W0.heap.size W0 w3 := d2.trans (hb3.mono d2.size)
  have i3 : w3.heap[w.heap.size]? = some (.cells #[.int .i64 0, .slice none 0 0, .slice none 0 0] 70 (0, 0)) := (d3.block _ (by omega)).trans HR0.out
  have e0 : w3.cell? ⟨w.heap.size, 0, none⟩ = some (.int .i64 0) := box_cell i3 rfl
  have e1 : w3.cell? ⟨w.heap.size, 1, none⟩ = some (.slice none 0 0) := box_cell i3 rfl
  have e2 : w3.cell? ⟨w.heap.size, 2, none⟩ = some (.slice none 0 0) := box_cell i3 rfl
  have f0 : w3.frozen? ⟨w.heap.size, 0, none⟩ = false := box_frozen i3
  have f1 : w3.frozen? ⟨w.heap.size, 1, none⟩ = false := box_frozen i3
  have f2 : w3.frozen? ⟨w.heap.size, 2, none⟩ = false := box_frozen i3
  have zz2 := d2.size
  have zz3 := d3.size
  have HO : Hid (Own shNode (((w3.setCell ⟨w.heap.size, 0, none⟩ (.int .i64 id)).setCell ⟨w.heap.size, 1, none⟩ (.slice u1 l1 t1)).setCell ⟨w.heap.size, 2, none⟩ (.slice u2 l2 t2)) w.heap.size [.int .i64 id, .slice u1 l1 t1, .slice u2 l2 t2] ((id, Z, Z, ()) : NodeD) f ∧ Below w.heap.size w (((w3.setCell ⟨w.heap.size, 0, none⟩ (.int .i64 id)).setCell ⟨w.heap.size, 1, none⟩ (.slice u1 l1 t1)).setCell ⟨w.heap.size, 2, none⟩ (.slice u2 l2 t2))) := ⟨(ho3.keep fun g hg => (box_other _ (by have := (ho3.lt g hg).1; omega)).trans ((box_other _ (by have := (ho3.lt g hg).1; omega)).trans (box_other _ (by have := (ho3.lt g hg).1; omega)))).base (by omega), (((bW0.trans (d3.mono bW0.size)).setCell (p := ⟨w.heap.size, 0, none⟩) (by simp) _).setCell (p := ⟨w.heap.size, 1, none⟩) (by simp) _).setCell (p := ⟨w.heap.size, 2, none⟩) (by simp) _⟩
  have HI : Hid ((((w3.setCell ⟨w.heap.size, 0, none⟩ (.int .i64 id)).setCell ⟨w.heap.size, 1, none⟩ (.slice u1 l1 t1)).setCell ⟨w.heap.size, 2, none⟩ (.slice u2 l2 t2)).heap[w.heap.size]? = some (.cells #[.int .i64 id, .slice u1 l1 t1, .slice u2 l2 t2] 70 (0, 0))) := box_set _ (box_set _ (box_set _ i3))
  have HX : Hid (∀ q, q ≠ w.heap.size → (((w3.setCell ⟨w.heap.size, 0, none⟩ (.int .i64 id)).setCell ⟨w.heap.size, 1, none⟩ (.slice u1 l1 t1)).setCell ⟨w.heap.size, 2, none⟩ (.slice u2 l2 t2)).heap[q]? = w3.heap[q]?) := fun q hq => (box_other _ hq).trans ((box_other _ hq).trans (box_other _ hq))
  clear i3 ho3 hb3
  refine hK.out _ _ (BX.out w3 d3) (fun hHeld8 => ?_)
  clear hK
  refine wpAnyH_ready (rs := [9]) (by kernel_rfl) (by simp) ?_
  refine AllReadyH.cons rfl (fun K hK => ?_) AllReadyH.nil
  go_simp
  have hbq : b ≠ w.heap.size := by omega
  refine hK.out _ _ (BS.out _ ((HX.out b hbq).trans (BW.out w3 d3))) (fun hHeld9 => ?_)
  clear hK
  refine wpAnyH_done (by kernel_rfl) ?_ _
  have yz0 : (((w3.setCell ⟨w.heap.size, 0, none⟩ (.int .i64 id)).setCell ⟨w.heap.size, 1, none⟩ (.slice u1 l1 t1)).setCell ⟨w.heap.size, 2, none⟩ (.slice u2 l2 t2)).cell? ⟨w.heap.size, 0, none⟩ = some (.int .i64 id) := box_cell HI.out rfl
  have yz1 : (((w3.setCell ⟨w.heap.size, 0, none⟩ (.int .i64 id)).setCell ⟨w.heap.size, 1, none⟩ (.slice u1 l1 t1)).setCell ⟨w.heap.size, 2, none⟩ (.slice u2 l2 t2)).cell? ⟨w.heap.size, 1, none⟩ = some (.slice u1 l1 t1) := box_cell HI.out rfl
  have yz2 : (((w3.setCell ⟨w.heap.size, 0, none⟩ (.int .i64 id)).setCell ⟨w.heap.size, 1, none⟩ (.slice u1 l1 t1)).setCell ⟨w.heap.size, 2, none⟩ (.slice u2 l2 t2)).cell? ⟨w.heap.size, 2, none⟩ = some (.slice u2 l2 t2) := box_cell HI.out rfl
  clear e0 e1 e2 f0 f1 f2
  go_wp2
  (try simp only [Exit.inBlock, Exit.then])
  refine bodyPost_ret (by simp [results, Tryz.results97, go_sem, yz0, yz1, yz2]; try rfl) rfl ?_
  exact ⟨_, _, _, _, _, _, _, rfl, HO.out.1, hf3, HO.out.2⟩

end Go.Proofs.YtkaegbhmeonjfaaGreat
