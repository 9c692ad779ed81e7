/-
  Joined: KeepI, OwnN, AppC, Gath, Row3, Clone, CloneV, SetI.
-/
import Derived.Test.YtkaegbhmeonjfaaGreatJ2FnExactDiskCrash
import Derived.Test.YtkaegbhmeonjfaaGreatJ1FnExactDiskCrash
import Derived.Deep.RegionHeld3
import Derived.Laws.AppendOwnNone
import Derived.Deep.AppendLies
import Derived.Test.YtkaegbhmeonjfaaGreatJ0FnExactDiskCrash
import Derived.Lib.SliceRun
/- KeepI: keepOnly of the program: the nodes that a list of links names, in a row of the call's own. By program (keepgen.py). -/
namespace Go.Proofs.YtkaegbhmeonjfaaGreat
open Go.RowKit
set_option linter.unusedVariables false
set_option maxRecDepth 100000
set_option linter.unusedSimpArgs false

def idsK (l : List LinkD) : List Int := l.map fun x => x.2.1

theorem hasN_at {l : List LinkD} {k : Nat} (hk : k < l.length) {id : Int} (h : (l[k]).2.1 = id) : hasN (idsK l) id = true := by
  unfold hasN idsK
  rw [← h]
  exact List.elem_eq_true_of_mem (List.mem_map.2 ⟨l[k], List.getElem_mem hk, rfl⟩)

theorem hasN_none {l : List LinkD} {id : Int} (h : ∀ k (hk : k < l.length), (l[k]).2.1 ≠ id) : hasN (idsK l) id = false := by
  cases e : hasN (idsK l) id with
  | false => rfl
  | true =>
    unfold hasN idsK at e
    have := List.mem_of_elem_eq_true e
    obtain ⟨x, hx, rfl⟩ := List.mem_map.1 this
    obtain ⟨k, hk, rfl⟩ := List.mem_iff_getElem.1 hx
    exact absurd rfl (h k hk)

theorem keepClosure_ok (nm : ByteArray) (y id : Int) (b : Nat) (w : World) (hb : b < w.heap.size) (hc : w.cell? ⟨b, 0, none⟩ = some (.int .i64 id)) :
    Calls Tryz.prog 91 #[.agg #[.string nm, .int .i64 y], .pointer (some ⟨b, 0, none⟩)] w fun e w' => e = .returned (.bool (y == id)) ∧ Below w.heap.size w w' := by
  have bA : Below w.heap.size w (w.alloc (.cells #[.string nm, .int .i64 y] 111)) := (Below.refl _ _).alloc (Nat.le_refl _) _
  have hc' : (w.alloc (.cells #[.string nm, .int .i64 y] 111)).cell? ⟨b, 0, none⟩ = some (.int .i64 id) := (bA.cell (p := ⟨b, 0, none⟩) hb).trans hc
  go_enter Tryz.func91, Tryz.ntmps91
  go_wp2
  go_ret
  exact ⟨rfl, bA⟩

set_option maxRecDepth 100000 in
set_option maxHeartbeats 2000000 in
theorem indexL_ok (a : Option Addr) (n c : Nat) (l : List LinkD) (id : Int) (b : Nat) (w : World) (r : Reads (.sl shLink) w [.slice a n c] l) (hb0 : b < w.heap.size) (hc0 : w.cell? ⟨b, 0, none⟩ = some (.int .i64 id)) :
    Calls Tryz.prog 122 #[.slice a n c, .func (.func 91) #[] #[.pointer (some ⟨b, 0, none⟩)]] w fun e w' => ∃ q : Int, e = .returned (.int .i64 q) ∧ decide (0 ≤ q) = hasN (idsK l) id ∧ Below w.heap.size w w' := by
  have l3 : l.length = n := (reads_len r).1
  have l3m : n ≤ c ∧ c ≤ maxLen := (reads_len r).2
  unfold maxLen at l3m
  have HR : Hid (Reads (.sl shLink) w [.slice a n c] l) := r
  have HL : Hid (l.length = n) := l3
  have HC : Hid (w.cell? ⟨b, 0, none⟩ = some (.int .i64 id)) := hc0
  clear r l3 hc0
  go_enter Tryz.func122, Tryz.ntmps122
  go_wp2
  go_loopw [8] (fun i wr => ∃ k : Nat, k ≤ n ∧ i = .int .i64 k ∧ Hid (∀ j (hj : j < l.length), j < k → (l[j]).2.1 ≠ id) ∧ Below w.heap.size w wr) (fun i _ => n - (intOf i).toNat)
  case atStart => exact ⟨0, Nat.zero_le _, rfl, fun j hj h => absurd h (Nat.not_lt_zero _), Below.refl _ _⟩
  case round =>
    obtain ⟨k, hk, rfl, HN, hbel⟩ := hrel
    have hbs := hbel.size
    by_cases hlt : k < n
    · obtain ⟨bb, off, cc, x, rfl, hb, hx, hrx, hcell⟩ := reads_elem HR.out k (by omega)
      obtain ⟨rfl, _⟩ := open_Link hrx
      obtain ⟨hkd, hxe⟩ := at_some' hx
      obtain ⟨y0, ey0⟩ : ∃ y : ByteArray, y = x.1 := ⟨_, rfl⟩
      obtain ⟨y1, ey1⟩ : ∃ y : Int, y = x.2.1 := ⟨_, rfl⟩
      have HY : Hid ((l[k]'hkd).2.1 = y1) := by show _ = _; rw [ey1]; exact congrArg (fun z => z.2.1) hxe
      have g0 : wr.cell? ⟨bb, off + k * 2, none⟩ = some (.string y0) := by rw [ey0]; exact (hbel.cell (p := ⟨bb, off + (k * 2 + 0), none⟩) hb).trans (hcell 0 (by decide))
      have g1 : wr.cell? ⟨bb, off + k * 2 + 1, none⟩ = some (.int .i64 y1) := by rw [ey1]; exact (hbel.cell (p := ⟨bb, off + (k * 2 + 1), none⟩) hb).trans (hcell 1 (by decide))
      have hkn : (k : Int) < (n : Int) := by omega
      have hcr : Hid (wr.cell? ⟨b, 0, none⟩ = some (.int .i64 id)) := (hbel.cell (p := ⟨b, 0, none⟩) hb0).trans HC.out
      cases hq : (y1 == id) with
      | false =>
        have HN' : Hid (∀ j (hj : j < l.length), j < k + 1 → (l[j]).2.1 ≠ id) := fun j hj h => by
          by_cases e : j = k
          · subst e
            intro e9
            have h8 : y1 = id := HY.out.symm.trans e9
            rw [h8] at hq
            simp at hq
          · exact HN.out j hj (by omega)
        clear hcell hrx hx hxe ey0 ey1
        go_wp2_with fail
        refine (keepClosure_ok y0 y1 id b _ (by omega) hcr.out).mono ?_
        rintro e w1 ⟨rfl, hb1⟩
        have b1 := hbel.trans (hb1.mono hbs)
        clear hb1 g0 g1
        rw [hq]
        go_wp2
        go_roundw
        case rel => exact ⟨k + 1, by omega, by go_num, HN', b1⟩
        case measure => simp [intOf]; omega
      | true =>
        have HE : Hid (hasN (idsK l) id = true) := hasN_at hkd (by rw [HY.out]; simpa using hq)
        clear hcell hrx hx hxe ey0 ey1
        go_wp2_with fail
        refine (keepClosure_ok y0 y1 id b _ (by omega) hcr.out).mono ?_
        rintro e w1 ⟨rfl, hb1⟩
        have b1 := hbel.trans (hb1.mono hbs)
        clear hb1 g0 g1
        rw [hq]
        go_wp2
        go_ret
        exact ⟨(k : Int), rfl, by rw [HE.out]; simp, b1⟩
    · have e : k = n := by omega
      subst e
      have HE : Hid (hasN (idsK l) id = false) := hasN_none fun j hj => HN.out j hj (by rw [← HL.out]; exact hj)
      go_wp2
      go_ret
      exact ⟨-1, rfl, by rw [HE.out]; rfl, hbel⟩

set_option maxRecDepth 100000 in
set_option maxHeartbeats 2000000 in
theorem containsL_ok (a : Option Addr) (n c : Nat) (l : List LinkD) (id : Int) (b : Nat) (w : World) (r : Reads (.sl shLink) w [.slice a n c] l) (hb0 : b < w.heap.size) (hc0 : w.cell? ⟨b, 0, none⟩ = some (.int .i64 id)) :
    Calls Tryz.prog 90 #[.slice a n c, .func (.func 91) #[] #[.pointer (some ⟨b, 0, none⟩)]] w fun e w' => e = .returned (.bool (hasN (idsK l) id)) ∧ Below w.heap.size w w' := by
  obtain ⟨V, hV⟩ : ∃ V, V = hasN (idsK l) id := ⟨_, rfl⟩
  have q : Hid (Calls Tryz.prog 122 #[.slice a n c, .func (.func 91) #[] #[.pointer (some ⟨b, 0, none⟩)]] w fun e w' => ∃ q : Int, e = .returned (.int .i64 q) ∧ decide (0 ≤ q) = V ∧ Below w.heap.size w w') := by rw [hV]; exact indexL_ok a n c l id b w r hb0 hc0
  rw [← hV]
  clear r hc0 hV
  go_enter Tryz.func90, Tryz.ntmps90
  go_wp2_with fail
  refine q.out.mono ?_
  rintro e w1 ⟨z, rfl, hz, hb1⟩
  have HZ : Hid (decide (0 ≤ z) = V) := hz
  clear hz q
  go_wp2
  go_ret
  exact ⟨by rw [← HZ.out]; rfl, hb1⟩

/-- The nodes, with their cells, that the links name. -/
def keepP (kl : List LinkD) (P : List (List Value × NodeD)) : List (List Value × NodeD) := P.filter fun p => hasN (idsK kl) p.2.1
def keepC (kl : List LinkD) (P : List (List Value × NodeD)) : List Value := ((keepP kl P).map Prod.fst).flatten

theorem keepP_yes (kl : List LinkD) (P : List (List Value × NodeD)) (p : List Value × NodeD) (h : hasN (idsK kl) p.2.1 = true) : keepP kl (P ++ [p]) = keepP kl P ++ [p] := by
  unfold keepP; rw [List.filter_append]; simp [h]
theorem keepP_no (kl : List LinkD) (P : List (List Value × NodeD)) (p : List Value × NodeD) (h : hasN (idsK kl) p.2.1 = false) : keepP kl (P ++ [p]) = keepP kl P := by
  unfold keepP; rw [List.filter_append]; simp [h]
theorem keepC_yes (kl : List LinkD) (P : List (List Value × NodeD)) (p : List Value × NodeD) (h : hasN (idsK kl) p.2.1 = true) : keepC kl (P ++ [p]) = keepC kl P ++ p.1 := by
  unfold keepC; rw [keepP_yes kl P p h]; simp
theorem keepC_no (kl : List LinkD) (P : List (List Value × NodeD)) (p : List Value × NodeD) (h : hasN (idsK kl) p.2.1 = false) : keepC kl (P ++ [p]) = keepC kl P := by
  unfold keepC; rw [keepP_no kl P p h]
theorem keepP_len (kl : List LinkD) (P : List (List Value × NodeD)) : (keepP kl P).length ≤ P.length := List.length_filter_le _ _

theorem own_other {w : World} {B n : Nat} {e : TypeId} {size : Nat} {v : Value} {xs : List Value} (h : w.ownsRow B e size v n xs) (b j : Nat) (u : Value) (hb : b < B) : (w.setCell ⟨b, j, none⟩ u).ownsRow B e size v n xs := by
  refine ⟨h.1, ?_⟩
  rcases h.2 with h1 | ⟨g, cap, cur, hv, hg, hh, r⟩
  · exact .inl h1
  · exact .inr ⟨g, cap, cur, hv, hg, (box_other u (by omega)).trans hh, r⟩

/-- The row a3 holds the nodes of P in w. -/
def RowP (w : World) (a3 : Option Addr) (P : List (List Value × NodeD)) : Prop := ∀ k (hk : k < P.length), ∃ b off p1 m1 k1 p2 m2 k2, a3 = some ⟨b, off, none⟩ ∧ b < w.heap.size ∧ (P[k]).1 = [.int .i64 (P[k]).2.1, .slice p1 m1 k1, .slice p2 m2 k2] ∧
  w.cell? ⟨b, off + k * 3, none⟩ = some (.int .i64 (P[k]).2.1) ∧ w.cell? ⟨b, off + k * 3 + 1, none⟩ = some (.slice p1 m1 k1) ∧ w.cell? ⟨b, off + k * 3 + 2, none⟩ = some (.slice p2 m2 k2)

/-- The nodes of a disk, with their cells. -/
theorem rowP_reads {w : World} {a : Option Addr} {n c : Nat} {nd : List NodeD} (h : Reads (.sl shNode) w [.slice a n c] nd) : ∃ P : List (List Value × NodeD), P.map Prod.snd = nd ∧ RowP w a P ∧ ∀ p ∈ P, Reads shNode w p.1 p.2 := by
  have hl : List.length (α := NodeD) nd = n := (reads_len h).1
  have key : ∀ k (hk : k < nd.length), ∃ c, Reads shNode w c nd[k] ∧ ∃ b off p1 m1 k1 p2 m2 k2, a = some ⟨b, off, none⟩ ∧ b < w.heap.size ∧ c = [.int .i64 (nd[k]).1, .slice p1 m1 k1, .slice p2 m2 k2] ∧
      w.cell? ⟨b, off + k * 3, none⟩ = some (.int .i64 (nd[k]).1) ∧ w.cell? ⟨b, off + k * 3 + 1, none⟩ = some (.slice p1 m1 k1) ∧ w.cell? ⟨b, off + k * 3 + 2, none⟩ = some (.slice p2 m2 k2) := by
    intro k hk
    obtain ⟨b, off, cc, x, rfl, hb, hx, hrx, hcell⟩ := reads_elem h k (by omega)
    obtain ⟨hkd, hxe⟩ := at_some' hx
    obtain rfl : nd[k] = x := hxe
    obtain ⟨p1, m1, k1, p2, m2, k2, e, r1, r2⟩ := open_Node hrx
    subst e
    exact ⟨_, hrx, b, off, p1, m1, k1, p2, m2, k2, rfl, hb, rfl, hcell 0 (by decide), hcell 1 (by decide), hcell 2 (by decide)⟩
  refine ⟨(List.finRange nd.length).map fun i => (Classical.choose (key i.1 i.2), nd[i.1]), ?_, ?_, ?_⟩
  · rw [List.map_map]
    apply List.ext_getElem
    · simp
    · intro i h1 h2; simp
  · intro k hk
    have hk' : k < nd.length := by simpa using hk
    have hs := Classical.choose_spec (key k hk')
    obtain ⟨_, b, off, p1, m1, k1, p2, m2, k2, ha, hb, hc, c0, c1, c2⟩ := hs
    refine ⟨b, off, p1, m1, k1, p2, m2, k2, ha, hb, ?_, ?_, c1, c2⟩
    · simpa using hc
    · simpa using c0
  · intro p hp
    obtain ⟨i, _, rfl⟩ := List.mem_map.1 hp
    exact (Classical.choose_spec (key i.1 i.2)).1

set_option maxRecDepth 100000 in
set_option maxHeartbeats 8000000 in
theorem keepOnly_ok (x0 x1 x2 : Int) (a3 : Option Addr) (n3 c3 : Nat) (a4 : Option Addr) (n4 c4 : Nat) (a5 : Option Addr) (n5 c5 : Nat) (ak : Option Addr) (nk ck : Nat) (kl : List LinkD) (P : List (List Value × NodeD)) (w : World)
    (hl : P.length = n3) (hn3 : n3 ≤ 1048576) (hP : RowP w a3 P) (hk : Reads (.sl shLink) w [.slice ak nk ck] kl) :
    Calls Tryz.prog 40 #[.agg #[.int .i64 x0, .int .i64 x1, .int .i64 x2, .slice a3 n3 c3, .slice a4 n4 c4, .slice a5 n5 c5], .slice ak nk ck] w fun e w' => ∃ v, e = .returned (.agg #[.int .i64 x0, .int .i64 x1, .int .i64 x2, v, .slice ak nk ck, .slice none 0 0]) ∧ w'.ownsRow w.heap.size 70 3 v (keepP kl P).length (keepC kl P) ∧ Below w.heap.size w w' := by
  obtain ⟨i0, hi, hz0, hz1, hz2⟩ := info_parts infoNode
  have HL : Hid (P.length = n3) := hl
  have HP : Hid (RowP w a3 P) := hP
  have HK : Hid (Reads (.sl shLink) w [.slice ak nk ck] kl) := hk
  clear hl hP hk
  obtain ⟨j0, j1, j2, isz⟩ := alloc3_heap w (.cells #[.int .i64 x0, .int .i64 x1, .int .i64 x2, .slice a3 n3 c3, .slice a4 n4 c4, .slice a5 n5 c5] 33) (.cells #[.int .i64 0, .int .i64 0, .int .i64 0, .slice none 0 0, .slice none 0 0, .slice none 0 0] 33) (.cells #[.int .i64 x0, .int .i64 x1, .int .i64 x2, .slice none 0 0, .slice ak nk ck, .slice none 0 0] 33)
  obtain ⟨W0, hW0⟩ : ∃ W0, W0 = ((w.alloc (.cells #[.int .i64 x0, .int .i64 x1, .int .i64 x2, .slice a3 n3 c3, .slice a4 n4 c4, .slice a5 n5 c5] 33)).alloc (.cells #[.int .i64 0, .int .i64 0, .int .i64 0, .slice none 0 0, .slice none 0 0, .slice none 0 0] 33)).alloc (.cells #[.int .i64 x0, .int .i64 x1, .int .i64 x2, .slice none 0 0, .slice ak nk ck, .slice none 0 0] 33) := ⟨_, rfl⟩
  rw [← hW0] at j0 j1 j2 isz
  have bW0 : Below w.heap.size w W0 := by rw [hW0]; exact (((Below.refl _ _).alloc (Nat.le_refl _) _).alloc (by simp) _).alloc (by simp; omega) _
  have HW0 : Hid (W0 = _) := hW0
  clear hW0 j0
  go_enter Tryz.func40, Tryz.ntmps40
  go_wp2
  rw [← HW0.out]
  go_loopw [19] (fun i wr => ∃ (k : Nat) (v : Value), k ≤ n3 ∧ i = .int .i64 k ∧ wr.heap[w.heap.size + 1]? = some (.cells #[.int .i64 0, .int .i64 0, .int .i64 0, .slice none 0 0, .slice none 0 0, .slice none 0 0] 33 (0, 0)) ∧ wr.heap[w.heap.size + 1 + 1]? = some (.cells #[.int .i64 x0, .int .i64 x1, .int .i64 x2, v, .slice ak nk ck, .slice none 0 0] 33 (0, 0)) ∧ wr.ownsRow (w.heap.size + 1 + 1 + 1) 70 3 v (keepP kl (P.take k)).length (keepC kl (P.take k)) ∧ w.heap.size + 1 + 1 + 1 ≤ wr.heap.size ∧ Below w.heap.size w wr) (fun i _ => n3 - (intOf i).toNat)
  case atStart => exact ⟨0, _, Nat.zero_le _, rfl, j1, j2, ⟨rfl, .inl ⟨rfl, rfl⟩⟩, by omega, bW0⟩
  case round =>
    obtain ⟨k, v, hk, rfl, iB, iC, hown, hsz, hbel⟩ := hrel
    have hbs := hbel.size
    by_cases hlt : k < n3
    · obtain ⟨b, off, p1, m1, k1, p2, m2, k2, rfl, hb, hpc, g0', g1', g2'⟩ := HP.out k (by rw [HL.out]; exact hlt)
      obtain ⟨p, hp⟩ : ∃ p, p = P[k]'(by rw [HL.out]; exact hlt) := ⟨_, rfl⟩
      rw [← hp] at hpc g0'
      have htk : P.take (k + 1) = P.take k ++ [p] := by rw [hp]; exact List.take_succ_eq_append_getElem (by rw [HL.out]; exact hlt)
      obtain ⟨y, hy⟩ : ∃ y, y = p.2.1 := ⟨_, rfl⟩
      rw [← hy] at hpc g0'
      have g0 : wr.cell? ⟨b, off + k * 3, none⟩ = some (.int .i64 y) := (hbel.cell (p := ⟨b, off + k * 3, none⟩) hb).trans g0'
      have g1 : wr.cell? ⟨b, off + k * 3 + 1, none⟩ = some (.slice p1 m1 k1) := (hbel.cell (p := ⟨b, off + k * 3 + 1, none⟩) hb).trans g1'
      have g2 : wr.cell? ⟨b, off + k * 3 + 2, none⟩ = some (.slice p2 m2 k2) := (hbel.cell (p := ⟨b, off + k * 3 + 2, none⟩) hb).trans g2'
      have hkn : (k : Int) < (n3 : Int) := by omega
      obtain ⟨W1, hW1⟩ : ∃ W1, W1 = wr.alloc (.cells #[.int .i64 y, .slice p1 m1 k1, .slice p2 m2 k2] 70) := ⟨_, rfl⟩
      have bW1 : Below wr.heap.size wr W1 := by rw [hW1]; exact (Below.refl _ _).alloc (Nat.le_refl _) _
      have hnb : W1.heap[wr.heap.size]? = some (.cells #[.int .i64 y, .slice p1 m1 k1, .slice p2 m2 k2] 70 (0, 0)) := by rw [hW1]; exact heap_alloc_new wr _
      have zW1 : W1.heap.size = wr.heap.size + 1 := by rw [hW1]; simp
      have qc : Hid (Calls Tryz.prog 90 #[.slice ak nk ck, .func (.func 91) #[] #[.pointer (some ⟨wr.heap.size, 0, none⟩)]] W1 fun e w' => e = .returned (.bool (hasN (idsK kl) y)) ∧ Below W1.heap.size W1 w') := containsL_ok ak nk ck kl y wr.heap.size W1 ((HK.out.later hbel).later bW1) (by omega) (box_cell hnb rfl)
      have HW1 : Hid (W1 = _) := hW1
      have HNB : Hid (W1.heap[wr.heap.size]? = some (.cells #[.int .i64 y, .slice p1 m1 k1, .slice p2 m2 k2] 70 (0, 0))) := hnb
      have HI : Hid (wr.heap[w.heap.size + 1]? = some (.cells #[.int .i64 0, .int .i64 0, .int .i64 0, .slice none 0 0, .slice none 0 0, .slice none 0 0] 33 (0, 0)) ∧ wr.heap[w.heap.size + 1 + 1]? = some (.cells #[.int .i64 x0, .int .i64 x1, .int .i64 x2, v, .slice ak nk ck, .slice none 0 0] 33 (0, 0))) := ⟨iB, iC⟩
      have HOW : Hid (wr.ownsRow (w.heap.size + 1 + 1 + 1) 70 3 v (keepP kl (P.take k)).length (keepC kl (P.take k))) := hown
      have HLN : Hid ((keepP kl (P.take k)).length ≤ k) := Nat.le_trans (keepP_len _ _) (by rw [List.length_take]; omega)
      have hln := HLN.out
      cases hq : hasN (idsK kl) y with
      | false =>
        have e1 : keepP kl (P.take (k + 1)) = keepP kl (P.take k) := by rw [htk]; exact keepP_no kl _ p (by rw [← hy]; exact hq)
        have e2 : keepC kl (P.take (k + 1)) = keepC kl (P.take k) := by rw [htk]; exact keepC_no kl _ p (by rw [← hy]; exact hq)
        have HE : Hid (keepP kl (P.take (k + 1)) = keepP kl (P.take k) ∧ keepC kl (P.take (k + 1)) = keepC kl (P.take k)) := ⟨e1, e2⟩
        rw [hq] at qc
        clear e1 e2 hW1 hnb hp hy hpc g0' g1' g2' htk iB iC hown hq
        go_wp2_with fail
        rw [← HW1.out]
        refine qc.out.mono ?_
        rintro e w2 ⟨rfl, hb2⟩
        have b12 := bW1.trans (hb2.mono bW1.size)
        have b2 := hbel.trans (b12.mono hbs)
        have z2 := b12.size
        clear g0 g1 g2 hb2
        go_wp2
        go_roundw
        case rel => exact ⟨k + 1, v, by omega, by go_num, (b12.block _ (by omega)).trans HI.out.1, (b12.block _ (by omega)).trans HI.out.2, by rw [HE.out.1, HE.out.2]; exact own_later HOW.out b12, by omega, b2⟩
        case measure => simp [intOf]; omega
      | true =>
        have e1 : keepP kl (P.take (k + 1)) = keepP kl (P.take k) ++ [p] := by rw [htk]; exact keepP_yes kl _ p (by rw [← hy]; exact hq)
        have e2 : keepC kl (P.take (k + 1)) = keepC kl (P.take k) ++ [.int .i64 y, .slice p1 m1 k1, .slice p2 m2 k2] := by rw [htk, ← hpc]; exact keepC_yes kl _ p (by rw [← hy]; exact hq)
        obtain ⟨m, hm⟩ : ∃ m, m = (keepP kl (P.take k)).length := ⟨_, rfl⟩
        have HE : Hid ((keepP kl (P.take (k + 1))).length = m + 1 ∧ keepC kl (P.take (k + 1)) = keepC kl (P.take k) ++ [.int .i64 y, .slice p1 m1 k1, .slice p2 m2 k2]) := ⟨by rw [e1, List.length_append, ← hm]; rfl, e2⟩
        rw [← hm] at HOW hln
        rw [hq] at qc
        obtain ⟨va, vc, rfl⟩ : ∃ a c, v = .slice a m c := by
          rcases HOW.out.2 with ⟨h1, h2⟩ | ⟨g, cap, cur, hv, _⟩
          · exact ⟨none, 0, by rw [h1, h2]⟩
          · exact ⟨_, _, hv⟩
        clear e1 e2 hW1 hnb hp hy hpc g0' g1' g2' htk iB iC hown hq hm HLN
        go_wp2_with fail
        rw [← HW1.out]
        refine qc.out.mono ?_
        rintro e w2 ⟨rfl, hb2⟩
        have b12 := bW1.trans (hb2.mono bW1.size)
        have b2 := hbel.trans (b12.mono hbs)
        have z2 := b12.size
        have o2 := own_later HOW.out b12
        have z2' := hb2.size
        have iN : w2.heap[wr.heap.size]? = _ := (hb2.block _ (by omega)).trans HNB.out
        have iC2 : w2.heap[w.heap.size + 1 + 1]? = _ := (b12.block _ (by omega)).trans HI.out.2
        have iB2 : w2.heap[w.heap.size + 1]? = _ := (b12.block _ (by omega)).trans HI.out.1
        have nc0 : w2.cell? ⟨wr.heap.size, 0, none⟩ = some (.int .i64 y) := box_cell iN rfl
        have nc1 : w2.cell? ⟨wr.heap.size, 1, none⟩ = some (.slice p1 m1 k1) := box_cell iN rfl
        have nc2 : w2.cell? ⟨wr.heap.size, 2, none⟩ = some (.slice p2 m2 k2) := box_cell iN rfl
        have oc3 : w2.cell? ⟨w.heap.size + 1 + 1, 3, none⟩ = some (.slice va m vc) := box_cell iC2 rfl
        have HI2 : Hid (w2.heap[w.heap.size + 1]? = some (.cells #[.int .i64 0, .int .i64 0, .int .i64 0, .slice none 0 0, .slice none 0 0, .slice none 0 0] 33 (0, 0)) ∧ w2.heap[w.heap.size + 1 + 1]? = some (.cells #[.int .i64 x0, .int .i64 x1, .int .i64 x2, .slice va m vc, .slice ak nk ck, .slice none 0 0] 33 (0, 0))) := ⟨iB2, iC2⟩
        clear g0 g1 g2 hb2 iN iC2 iB2 HOW
        go_wp2_with (at_builtin; refine wpList_append_src rfl _ _ 29 rfl (w.heap.size + 1 + 1 + 1) 70 i0 (.agg #[.int .i64 0, .slice none 0 0, .slice none 0 0]) 3 56 Tryz.underlying29 hi hz0 hz1 hz2 rfl (by decide) (.slice va m vc) m (keepC kl (P.take k)) rfl (o2.alloc _) (.slice (some ⟨w2.heap.size, 0, none⟩) 1 1) 1 [.int .i64 y, .slice p1 m1 k1, .slice p2 m2 k2] rfl rfl (.inr ⟨_, 1, rfl, cells_new w2 [.int .i64 y, .slice p1 m1 k1, .slice p2 m2 k2] 70⟩) ?c2 ?c3 ?c4 ?c5 ?_)
        case c2 => intro u hu; simp at hu; rcases hu with rfl | rfl | rfl <;> rfl
        case c3 => unfold maxLen; omega
        case c4 => omega
        case c5 => simp; omega
        intro v3' w3 o3 gr3
        obtain ⟨v3, ev3⟩ : ∃ z, z = v3' := ⟨_, rfl⟩
        obtain ⟨ua, uc, rfl⟩ : ∃ a c, v3' = .slice a (m + 1) c := by
          rcases o3.2 with ⟨h1, h2⟩ | ⟨g, cap, cur, hv, _⟩
          · omega
          · exact ⟨_, _, hv⟩
        subst ev3
        have b3 : Below w.heap.size w w3 := (b2.alloc b2.size _).grown gr3 (by have h9 := b2.size; simp; omega) (fun y h => by have := (o2.lt y h).1; omega)
        have gz := gr3.size
        have bl : ∀ q, q < w2.heap.size → q < w.heap.size + 1 + 1 + 1 → w3.heap[q]? = w2.heap[q]? := fun q h1 h2 => by
          rw [gr3.block q (by simp; omega) (fun e9 => by have h7 := (o2.lt q e9.symm).1; omega)]
          exact heap_alloc_old _ _ h1
        have iB3 := (bl (w.heap.size + 1) (by omega) (by omega)).trans HI2.out.1
        have iC3 := (bl (w.heap.size + 1 + 1) (by omega) (by omega)).trans HI2.out.2
        have sc3 : w3.cell? ⟨w.heap.size + 1 + 1, 3, none⟩ = some (.slice va m vc) := box_cell iC3 rfl
        have sf3 : w3.frozen? ⟨w.heap.size + 1 + 1, 3, none⟩ = false := box_frozen iC3
        rw [← HE.out.2] at o3
        have o4 := own_other o3 (w.heap.size + 1 + 1) 3 (.slice ua (m + 1) uc) (by omega)
        have iB4 : (w3.setCell ⟨w.heap.size + 1 + 1, 3, none⟩ (.slice ua (m + 1) uc)).heap[w.heap.size + 1]? = _ := (box_other _ (by omega)).trans iB3
        have iC4 : (w3.setCell ⟨w.heap.size + 1 + 1, 3, none⟩ (.slice ua (m + 1) uc)).heap[w.heap.size + 1 + 1]? = _ := box_set _ iC3
        have b4 := b3.setCell (p := ⟨w.heap.size + 1 + 1, 3, none⟩) (by simp <;> omega) (.slice ua (m + 1) uc)
        have z4 : w.heap.size + 1 + 1 + 1 ≤ (w3.setCell ⟨w.heap.size + 1 + 1, 3, none⟩ (.slice ua (m + 1) uc)).heap.size := by simp at gz ⊢; omega
        have HR4 : Hid (_ ∧ _ ∧ _ ∧ _ ∧ _) := ⟨iB4, iC4, o4, z4, b4⟩
        clear gr3 o2 bl iB3 iC3 o3 iB4 iC4 o4 b4 z4 b3 nc0 nc1 nc2 oc3
        go_wp2
        go_roundw
        case rel => exact ⟨k + 1, .slice ua (m + 1) uc, by omega, by go_num, HR4.out.1, HR4.out.2.1, by rw [HE.out.1]; exact HR4.out.2.2.1, HR4.out.2.2.2.1, HR4.out.2.2.2.2⟩
        case measure => simp [intOf]; omega
    · have e : k = n3 := by omega
      subst e
      have eT : P.take k = P := List.take_of_length_le (by rw [HL.out]; exact Nat.le_refl _)
      rw [eT] at hown
      obtain ⟨M, hM⟩ : ∃ M, M = (keepP kl P).length := ⟨_, rfl⟩
      rw [← hM] at hown
      obtain ⟨va, vc, rfl⟩ : ∃ a c, v = .slice a M c := by
        rcases hown.2 with ⟨h1, h2⟩ | ⟨g, cap, cur, hv, _⟩
        · exact ⟨none, 0, by rw [h1, h2]⟩
        · exact ⟨_, _, hv⟩
      have yc0 : wr.cell? ⟨w.heap.size + 1 + 1, 0, none⟩ = some (.int .i64 x0) := box_cell iC rfl
      have yr0 : wr.cell? ⟨w.heap.size + 1, 0, none⟩ = some (.int .i64 0) := box_cell iB rfl
      have yg0 : wr.frozen? ⟨w.heap.size + 1, 0, none⟩ = false := box_frozen iB
      have yc1 : wr.cell? ⟨w.heap.size + 1 + 1, 1, none⟩ = some (.int .i64 x1) := box_cell iC rfl
      have yr1 : wr.cell? ⟨w.heap.size + 1, 1, none⟩ = some (.int .i64 0) := box_cell iB rfl
      have yg1 : wr.frozen? ⟨w.heap.size + 1, 1, none⟩ = false := box_frozen iB
      have yc2 : wr.cell? ⟨w.heap.size + 1 + 1, 2, none⟩ = some (.int .i64 x2) := box_cell iC rfl
      have yr2 : wr.cell? ⟨w.heap.size + 1, 2, none⟩ = some (.int .i64 0) := box_cell iB rfl
      have yg2 : wr.frozen? ⟨w.heap.size + 1, 2, none⟩ = false := box_frozen iB
      have yc3 : wr.cell? ⟨w.heap.size + 1 + 1, 3, none⟩ = some (.slice va M vc) := box_cell iC rfl
      have yr3 : wr.cell? ⟨w.heap.size + 1, 3, none⟩ = some (.slice none 0 0) := box_cell iB rfl
      have yg3 : wr.frozen? ⟨w.heap.size + 1, 3, none⟩ = false := box_frozen iB
      have yc4 : wr.cell? ⟨w.heap.size + 1 + 1, 4, none⟩ = some (.slice ak nk ck) := box_cell iC rfl
      have yr4 : wr.cell? ⟨w.heap.size + 1, 4, none⟩ = some (.slice none 0 0) := box_cell iB rfl
      have yg4 : wr.frozen? ⟨w.heap.size + 1, 4, none⟩ = false := box_frozen iB
      have yc5 : wr.cell? ⟨w.heap.size + 1 + 1, 5, none⟩ = some (.slice none 0 0) := box_cell iC rfl
      have yr5 : wr.cell? ⟨w.heap.size + 1, 5, none⟩ = some (.slice none 0 0) := box_cell iB rfl
      have yg5 : wr.frozen? ⟨w.heap.size + 1, 5, none⟩ = false := box_frozen iB
      have yz0 : ((wr).setCell ⟨w.heap.size + 1, 0, none⟩ (.int .i64 x0)).cell? ⟨w.heap.size + 1, 0, none⟩ = some (.int .i64 x0) := World.cell?_setCell_same _ _ _ (by exact yr0)
      have yz1 : (((wr).setCell ⟨w.heap.size + 1, 0, none⟩ (.int .i64 x0)).setCell ⟨w.heap.size + 1, 1, none⟩ (.int .i64 x1)).cell? ⟨w.heap.size + 1, 1, none⟩ = some (.int .i64 x1) := World.cell?_setCell_same _ _ _ (by rw [World.cell?_setCell_other _ _ _ _ (by simp)]; exact yr1)
      have yz2 : ((((wr).setCell ⟨w.heap.size + 1, 0, none⟩ (.int .i64 x0)).setCell ⟨w.heap.size + 1, 1, none⟩ (.int .i64 x1)).setCell ⟨w.heap.size + 1, 2, none⟩ (.int .i64 x2)).cell? ⟨w.heap.size + 1, 2, none⟩ = some (.int .i64 x2) := World.cell?_setCell_same _ _ _ (by rw [World.cell?_setCell_other _ _ _ _ (by simp), World.cell?_setCell_other _ _ _ _ (by simp)]; exact yr2)
      have yz3 : (((((wr).setCell ⟨w.heap.size + 1, 0, none⟩ (.int .i64 x0)).setCell ⟨w.heap.size + 1, 1, none⟩ (.int .i64 x1)).setCell ⟨w.heap.size + 1, 2, none⟩ (.int .i64 x2)).setCell ⟨w.heap.size + 1, 3, none⟩ (.slice va M vc)).cell? ⟨w.heap.size + 1, 3, none⟩ = some (.slice va M vc) := World.cell?_setCell_same _ _ _ (by rw [World.cell?_setCell_other _ _ _ _ (by simp), World.cell?_setCell_other _ _ _ _ (by simp), World.cell?_setCell_other _ _ _ _ (by simp)]; exact yr3)
      have yz4 : ((((((wr).setCell ⟨w.heap.size + 1, 0, none⟩ (.int .i64 x0)).setCell ⟨w.heap.size + 1, 1, none⟩ (.int .i64 x1)).setCell ⟨w.heap.size + 1, 2, none⟩ (.int .i64 x2)).setCell ⟨w.heap.size + 1, 3, none⟩ (.slice va M vc)).setCell ⟨w.heap.size + 1, 4, none⟩ (.slice ak nk ck)).cell? ⟨w.heap.size + 1, 4, none⟩ = some (.slice ak nk ck) := World.cell?_setCell_same _ _ _ (by rw [World.cell?_setCell_other _ _ _ _ (by simp), World.cell?_setCell_other _ _ _ _ (by simp), World.cell?_setCell_other _ _ _ _ (by simp), World.cell?_setCell_other _ _ _ _ (by simp)]; exact yr4)
      have yz5 : (((((((wr).setCell ⟨w.heap.size + 1, 0, none⟩ (.int .i64 x0)).setCell ⟨w.heap.size + 1, 1, none⟩ (.int .i64 x1)).setCell ⟨w.heap.size + 1, 2, none⟩ (.int .i64 x2)).setCell ⟨w.heap.size + 1, 3, none⟩ (.slice va M vc)).setCell ⟨w.heap.size + 1, 4, none⟩ (.slice ak nk ck)).setCell ⟨w.heap.size + 1, 5, none⟩ (.slice none 0 0)).cell? ⟨w.heap.size + 1, 5, none⟩ = some (.slice none 0 0) := World.cell?_setCell_same _ _ _ (by rw [World.cell?_setCell_other _ _ _ _ (by simp), World.cell?_setCell_other _ _ _ _ (by simp), World.cell?_setCell_other _ _ _ _ (by simp), World.cell?_setCell_other _ _ _ _ (by simp), World.cell?_setCell_other _ _ _ _ (by simp)]; exact yr5)
      have HF : Hid (_ ∧ _) := ⟨own_lower (own_other (own_other (own_other (own_other (own_other (own_other hown (w.heap.size + 1) 0 (.int .i64 x0) (by omega)) (w.heap.size + 1) 1 (.int .i64 x1) (by omega)) (w.heap.size + 1) 2 (.int .i64 x2) (by omega)) (w.heap.size + 1) 3 (.slice va M vc) (by omega)) (w.heap.size + 1) 4 (.slice ak nk ck) (by omega)) (w.heap.size + 1) 5 (.slice none 0 0) (by omega)) (B' := w.heap.size) (by omega), ((((((hbel.setCell (p := ⟨w.heap.size + 1, 0, none⟩) (by simp <;> omega) (.int .i64 x0)).setCell (p := ⟨w.heap.size + 1, 1, none⟩) (by simp <;> omega) (.int .i64 x1)).setCell (p := ⟨w.heap.size + 1, 2, none⟩) (by simp <;> omega) (.int .i64 x2)).setCell (p := ⟨w.heap.size + 1, 3, none⟩) (by simp <;> omega) (.slice va M vc)).setCell (p := ⟨w.heap.size + 1, 4, none⟩) (by simp <;> omega) (.slice ak nk ck)).setCell (p := ⟨w.heap.size + 1, 5, none⟩) (by simp <;> omega) (.slice none 0 0))⟩
      clear hown iB iC
      have HM : Hid (M = _) := hM
      clear hM
      go_wp2
      (try simp only [Exit.inBlock, Exit.then])
      refine bodyPost_ret (by simp [results, Tryz.results40, go_sem, yz0, yz1, yz2, yz3, yz4, yz5]; try rfl) rfl ?_
      exact ⟨_, rfl, by rw [← HM.out]; exact HF.out.1, HF.out.2⟩

end Go.Proofs.YtkaegbhmeonjfaaGreat

/- OwnN: What is behind a slice of the call's own: nil is nil; flat rows as sources of an append. -/
namespace Go.Proofs.YtkaegbhmeonjfaaGreat
open Go.RowKit
set_option linter.unusedVariables false
set_option maxRecDepth 100000

theorem links_src {w : World} {ad : Addr} {n cap : Nat} {l : List LinkD} (h : Reads (.sl shLink) w [.slice (some ad) n cap] l) : ∀ (j : Nat) (u : Value), (cellsL l)[j]? = some u → w.cell? (ad.add j) = some u :=
  reads_flat shLink (fun x => [.string x.1, .int .i64 x.2.1]) (by decide) (fun w c x hr => (open_Link hr).1) h

theorem cellsL_len (l : List LinkD) : (cellsL l).length = l.length * 2 := by
  unfold cellsL
  induction l with
  | nil => rfl
  | cons a l ih => rw [List.flatMap_cons, List.length_append, ih, List.length_cons]; simp; omega

theorem cellsL_one (l : List LinkD) : ∀ u ∈ cellsL l, u.oneCell' = true := by
  intro u hu
  unfold cellsL at hu
  obtain ⟨x, _, hx⟩ := List.mem_flatMap.1 hu
  simp at hx
  rcases hx with rfl | rfl <;> rfl

end Go.Proofs.YtkaegbhmeonjfaaGreat

/- AppC: append where the source is nil or not, empty or not: one law for all, at a plain list of operations and at a step of a region that draws its order. -/
namespace Go.Proofs.YtkaegbhmeonjfaaGreat
open Go.RowKit
set_option linter.unusedVariables false
set_option maxRecDepth 100000

theorem src_bytes {w : World} {B : Nat} {v : Value} {zs : List Int} {F : List Nat} (h : Own (.sl .u8) w B [v] zs F) : Src w v zs.length (zs.map (Value.int .u8)) := by
  obtain ⟨a, c, hv, h1, h2, h3⟩ := own_val h
  have hv' : v = .slice a zs.length c := hv
  subst hv'
  cases a with
  | none =>
    obtain ⟨k1, k2, k3⟩ := own_nil h
    have k4 : zs = [] := k3
    subst k4
    subst k2
    exact .inl ⟨rfl, rfl, rfl⟩
  | some ad =>
    refine .inr ⟨ad, c, rfl, ?_⟩
    have := reads_flat .u8 (fun x => [Value.int .u8 x]) (by decide) (fun w c x hr => hr.1) h.reads
    intro j u hu
    exact this j u (by rw [← hu]; congr 1; exact (flatMap_flatten _ _).symm.trans (flatten_single _ _))

theorem src_links {w : World} {B : Nat} {v : Value} {l : List LinkD} {F : List Nat} (h : Own (.sl shLink) w B [v] l F) : Src w v l.length (cellsL l) := by
  obtain ⟨a, c, hv, h1, h2, h3⟩ := own_val h
  subst hv
  cases a with
  | none =>
    obtain ⟨k1, k2, k3⟩ := own_nil h
    have k4 : l = [] := k3
    subst k4
    subst k2
    exact .inl ⟨rfl, rfl, rfl⟩
  | some ad => exact .inr ⟨ad, c, rfl, links_src h.reads⟩

theorem bytes_one (zs : List Int) : ∀ u ∈ zs.map (Value.int .u8), u.oneCell' = true := by
  intro u hu
  simp at hu
  obtain ⟨z, _, rfl⟩ := hu
  rfl

/-- A row of links that the call owns, nil or not. -/
theorem own_linksV {w : World} {B n : Nat} {v : Value} {t : TypeId} {l : List LinkD} (hl : l.length = n) (hs : SmallS l) (h : w.ownsRow B t 2 v n (cellsL l)) : ∃ F, Own (.sl shLink) w B [v] l F ∧ F.Nodup ∧ ∃ a c, v = .slice a n c := by
  rcases h.2 with ⟨h1, h2⟩ | ⟨g, cap, cur, hv, _⟩
  · refine ⟨[], .inl ⟨by rw [h1], ?_, rfl⟩, by simp, none, 0, by rw [h1, h2]⟩
    show l.length = 0; omega
  · subst hv
    exact ⟨[g], own_links hl hs h, by simp, _, _, rfl⟩

end Go.Proofs.YtkaegbhmeonjfaaGreat

/- Gath: A slice of the call's own that is gathered element by element ('append(out, x)'), its elements with memory of their own. -/
namespace Go.Proofs.YtkaegbhmeonjfaaGreat
open Go.RowKit
set_option linter.unusedVariables false
set_option maxRecDepth 100000

/-- The row v holds the data d; its cells are Cs, the elements' blocks Fs. -/
structure Gath (e : Sh) (t : TypeId) (w : World) (B : Nat) (v : Value) (n : Nat) (d : List e.D) (Cs : List (List Value)) (Fs : List (List Nat)) : Prop where
  row : w.ownsRow B t e.size v n Cs.flatten
  lenC : Cs.length = n
  lenF : Fs.length = n
  lenD : d.length = n
  el : ∀ (i : Nat) (c : List Value) (x : e.D) (f : List Nat), Cs[i]? = some c → d[i]? = some x → Fs[i]? = some f → Own e w B c x f
  nd : (v.ownBlock.toList ++ Fs.flatten).Nodup

theorem Gath.nil (e : Sh) (t : TypeId) (w : World) (B : Nat) : Gath e t w B (.slice none 0 0) 0 [] [] [] :=
  ⟨⟨by simp, .inl ⟨rfl, rfl⟩⟩, rfl, rfl, rfl, fun i c x f h => by simp at h, by simp [Value.ownBlock]⟩

theorem Gath.lit (e : Sh) (t : TypeId) (w : World) (B : Nat) (hB : B ≤ w.heap.size) : Gath e t (w.alloc (.cells #[] t)) B (.slice (some ⟨w.heap.size, 0, none⟩) 0 0) 0 [] [] [] :=
  ⟨World.ownsRow_lit (base := B) (e := t) (size := e.size) w #[] 0 hB (Nat.zero_le _) (by simp), rfl, rfl, rfl, fun i c x f h => by simp at h, by simp [Value.ownBlock]⟩

theorem Gath.lt {e : Sh} {t : TypeId} {w : World} {B n : Nat} {v : Value} {d : List e.D} {Cs : List (List Value)} {Fs : List (List Nat)} (h : Gath e t w B v n d Cs Fs) :
    ∀ y ∈ v.ownBlock.toList ++ Fs.flatten, B ≤ y ∧ y < w.heap.size := by
  intro y hy
  rcases List.mem_append.1 hy with h1 | h1
  · exact h.row.lt y (by simpa using h1)
  · obtain ⟨i, f, hi, hyf⟩ := mem_flatten_get h1
    have hil : i < Fs.length := (List.getElem?_eq_some_iff.1 hi).1
    have h2 := h.lenF; have h3 := h.lenC; have h4 := h.lenD
    exact (h.el i Cs[i] d[i] f (List.getElem?_eq_getElem (by omega)) (List.getElem?_eq_getElem (by omega)) hi).lt y hyf

theorem Gath.keep {e : Sh} {t : TypeId} {w w' : World} {B n : Nat} {v : Value} {d : List e.D} {Cs : List (List Value)} {Fs : List (List Nat)} (h : Gath e t w B v n d Cs Fs)
    (hk : ∀ y ∈ v.ownBlock.toList ++ Fs.flatten, w'.heap[y]? = w.heap[y]?) : Gath e t w' B v n d Cs Fs := by
  refine ⟨⟨h.row.1, ?_⟩, h.lenC, h.lenF, h.lenD, fun i c x f hc hx hf => ?_, h.nd⟩
  · rcases h.row.2 with h1 | ⟨g, cap, cur, hv, hg, hh, r⟩
    · exact .inl h1
    · exact .inr ⟨g, cap, cur, hv, hg, (hk g (List.mem_append_left _ (by rw [hv]; simp [Value.ownBlock]))).trans hh, r⟩
  · exact (h.el i c x f hc hx hf).keep fun y hy => hk y (List.mem_append_right _ (List.mem_flatten.2 ⟨f, List.mem_of_getElem? hf, hy⟩))

theorem Gath.later {e : Sh} {t : TypeId} {w w' : World} {B n : Nat} {v : Value} {d : List e.D} {Cs : List (List Value)} {Fs : List (List Nat)} (h : Gath e t w B v n d Cs Fs) (hb : Below w.heap.size w w') : Gath e t w' B v n d Cs Fs :=
  h.keep fun y hy => hb.block y (h.lt y hy).2

/-- A cell of another block is written. -/
theorem Gath.other {e : Sh} {t : TypeId} {w : World} {B n : Nat} {v : Value} {d : List e.D} {Cs : List (List Value)} {Fs : List (List Nat)} (h : Gath e t w B v n d Cs Fs) (b j : Nat) (u : Value) (hb : b < B) : Gath e t (w.setCell ⟨b, j, none⟩ u) B v n d Cs Fs :=
  h.keep fun y hy => box_other u (fun e => by have := (h.lt y hy).1; omega)

/-- One element more: behind an append that lies in the old row or in a new block. -/
theorem Gath.push {e : Sh} {t : TypeId} {w w' : World} {B n g cap : Nat} {v : Value} {d : List e.D} {Cs : List (List Value)} {Fs : List (List Nat)} (h : Gath e t w B v n d Cs Fs)
    {c : List Value} {x : e.D} {f : List Nat} (ho : Own e w B c x f) (hf : f.Nodup) (hd : ∀ y ∈ f, y ∉ v.ownBlock.toList ++ Fs.flatten)
    (hrow : w'.ownsRow B t e.size (.slice (some ⟨g, 0, none⟩) (n + 1) cap) (n + 1) (Cs.flatten ++ c)) (hgr : w.grownBy w' v.ownBlock) (hlie : v.ownBlock = some g ∨ w.heap.size ≤ g) :
    Gath e t w' B (.slice (some ⟨g, 0, none⟩) (n + 1) cap) (n + 1) (d ++ [x]) (Cs ++ [c]) (Fs ++ [f]) := by
  have hkeep : ∀ y, y < w.heap.size → some y ≠ v.ownBlock → w'.heap[y]? = w.heap[y]? := fun y h1 h2 => hgr.block y h1 h2
  have hnd := List.nodup_append.1 h.nd
  have hgF : g ∉ Fs.flatten := by
    intro hm
    rcases hlie with h1 | h1
    · exact hnd.2.2 g (by rw [h1]; simp) g hm rfl
    · have := (h.lt g (List.mem_append_right _ hm)).2; omega
  have hgf : g ∉ f := by
    intro hm
    rcases hlie with h1 | h1
    · exact hd g hm (List.mem_append_left _ (by rw [h1]; simp))
    · have := (ho.lt g hm).2; omega
  refine ⟨by simpa using hrow, by simp [h.lenC], by simp [h.lenF], by simp [h.lenD], ?_, ?_⟩
  · intro i c' x' f' hc' hx' hf'
    have h1 := h.lenC; have h2 := h.lenF; have h3 := h.lenD
    rw [List.getElem?_append] at hc' hx' hf'
    by_cases hi : i < n
    · rw [if_pos (by omega)] at hc' hx' hf'
      refine (h.el i c' x' f' hc' hx' hf').keep fun y hy => ?_
      have hyF : y ∈ Fs.flatten := List.mem_flatten.2 ⟨f', List.mem_of_getElem? hf', hy⟩
      refine hkeep y (h.lt y (List.mem_append_right _ hyF)).2 (fun e => ?_)
      exact hnd.2.2 y (by rw [← e]; simp) y hyF rfl
    · rw [if_neg (by omega)] at hc' hx' hf'
      have hin : i = n := by
        rcases Nat.lt_or_ge n i with h' | h'
        · rw [List.getElem?_eq_none (by simp; omega)] at hc'; cases hc'
        · omega
      subst hin
      rw [h1, Nat.sub_self] at hc'
      rw [h2, Nat.sub_self] at hf'
      rw [h3, Nat.sub_self] at hx'
      obtain rfl : c = c' := by simpa using hc'
      obtain rfl : f = f' := by simpa using hf'
      obtain rfl : x = x' := by simpa using hx'
      exact ho.keep fun y hy => hkeep y (ho.lt y hy).2 (fun e => hd y hy (List.mem_append_left _ (by rw [← e]; simp)))
  · simp only [Value.ownBlock, Option.toList_some, List.flatten_append, List.flatten_cons, List.flatten_nil, List.append_nil]
    rw [List.nodup_append]
    refine ⟨by simp, ?_, ?_⟩
    · rw [List.nodup_append]
      exact ⟨hnd.2.1, hf, fun a ha b hb e => hd b hb (List.mem_append_right _ (e ▸ ha))⟩
    · intro a ha b hb e
      simp at ha
      subst ha
      subst e
      rcases List.mem_append.1 hb with h4 | h4
      · exact hgF h4
      · exact hgf h4

theorem Gath.own {e : Sh} {t : TypeId} {w : World} {B n : Nat} {v : Value} {d : List e.D} {Cs : List (List Value)} {Fs : List (List Nat)} (h : Gath e t w B v n d Cs Fs) : ∃ F, Own (.sl e) w B [v] d F ∧ F.Nodup ∧ (∀ y ∈ F, y ∈ v.ownBlock.toList ++ Fs.flatten) := by
  have h1 := h.lenC; have h2 := h.lenF; have h3 := h.lenD
  rcases h.row.2 with ⟨hv, hn⟩ | ⟨g, cap, cur, hv, hg, hh, k1, k2, k3, k4⟩
  · refine ⟨[], .inl ⟨by rw [hv], ?_, rfl⟩, by simp, by simp⟩
    show d.length = 0; omega
  · refine ⟨g :: Fs.flatten, .inr ⟨g, cap, t, cur, Cs, Fs, ?_, hg, hh, ?_, k2, k3, ?_, ?_, ?_, rfl, h.el⟩, ?_, ?_⟩
    · rw [hv, h3]
    · rw [h3]; exact k1
    · rw [h3]; exact k4
    · rw [h3]; exact h1
    · rw [h3]; exact h2
    · have := h.nd; rw [hv] at this; simpa [Value.ownBlock] using this
    · rw [hv]; intro y hy; simpa [Value.ownBlock] using hy

theorem Gath.cast {e : Sh} {t : TypeId} {w : World} {B n : Nat} {v : Value} {d d' : List e.D} {Cs : List (List Value)} {Fs : List (List Nat)} (h : Gath e t w B v n d Cs Fs) (hd : d = d') : Gath e t w B v n d' Cs Fs := hd ▸ h

theorem Gath.form {e : Sh} {t : TypeId} {w : World} {B n : Nat} {v : Value} {d : List e.D} {Cs : List (List Value)} {Fs : List (List Nat)} (h : Gath e t w B v n d Cs Fs) : ∃ a c, v = .slice a n c := by
  rcases h.row.2 with ⟨hv, hn⟩ | ⟨g, cap, cur, hv, _⟩
  · exact ⟨none, 0, by rw [hv, hn]⟩
  · exact ⟨_, _, hv⟩

end Go.Proofs.YtkaegbhmeonjfaaGreat

/- Row3: A row of nodes of the call's own whose elements are stored anew one by one ('out.Nodes[i] = ..'). -/
namespace Go.Proofs.YtkaegbhmeonjfaaGreat
open Go.RowKit
set_option linter.unusedVariables false
set_option maxRecDepth 100000

theorem flatten_set3 : ∀ (Cs : List (List Value)) (k : Nat) (a b c : Value), (∀ x ∈ Cs, x.length = 3) → k < Cs.length → ((Cs.flatten.set (k * 3) a).set (k * 3 + 1) b).set (k * 3 + 2) c = (Cs.set k [a, b, c]).flatten
  | [], k, a, b, c, _, h => absurd h (Nat.not_lt_zero _)
  | x :: Cs, 0, a, b, c, h3, _ => by
    have hx := h3 x (by simp)
    match x, hx with
    | [p, q, r], _ => simp
  | x :: Cs, k + 1, a, b, c, h3, hk => by
    have hx := h3 x (by simp)
    have ih := flatten_set3 Cs k a b c (fun y hy => h3 y (by simp [hy])) (by simpa using hk)
    have e0 : (k + 1) * 3 = x.length + k * 3 := by rw [hx]; omega
    rw [List.flatten_cons, List.set_cons_succ, List.flatten_cons, ← ih]
    have e1 : (k + 1) * 3 + 1 = x.length + (k * 3 + 1) := by rw [hx]; omega
    have e2 : (k + 1) * 3 + 2 = x.length + (k * 3 + 2) := by rw [hx]; omega
    rw [e1, e2, e0, List.set_append_right _ _ (by omega), List.set_append_right _ _ (by omega), List.set_append_right _ _ (by omega)]
    simp

theorem row_set3 {w : World} {B g m cap k : Nat} {t : TypeId} {Cs : List (List Value)} (h : w.ownsRow B t 3 (.slice (some ⟨g, 0, none⟩) m cap) m Cs.flatten) (h3 : ∀ x ∈ Cs, x.length = 3) (hk : k < Cs.length) (a b c : Value) :
    (((w.setCell ⟨g, k * 3, none⟩ a).setCell ⟨g, k * 3 + 1, none⟩ b).setCell ⟨g, k * 3 + 2, none⟩ c).ownsRow B t 3 (.slice (some ⟨g, 0, none⟩) m cap) m (Cs.set k [a, b, c]).flatten := by
  rw [← flatten_set3 Cs k a b c h3 hk]
  exact ((h.stored (k * 3) a).1.stored (k * 3 + 1) b).1.stored (k * 3 + 2) c |>.1

theorem own_keepB {w w' : World} {B n size : Nat} {t : TypeId} {v : Value} {xs : List Value} (h : w.ownsRow B t size v n xs) (hk : ∀ y, v.ownBlock = some y → w'.heap[y]? = w.heap[y]?) : w'.ownsRow B t size v n xs := by
  refine ⟨h.1, ?_⟩
  rcases h.2 with h1 | ⟨g, cap, cur, hv, hg, hh, r⟩
  · exact .inl h1
  · exact .inr ⟨g, cap, cur, hv, hg, (hk g (by rw [hv]; rfl)).trans hh, r⟩

/-- The cells of an element of such a row. -/
theorem row_cells {w : World} {B g m cap k : Nat} {t : TypeId} {Cs : List (List Value)} {c : List Value} (h : w.ownsRow B t 3 (.slice (some ⟨g, 0, none⟩) m cap) m Cs.flatten) (h3 : ∀ x ∈ Cs, x.length = 3) (hc : Cs[k]? = some c) (hm : Cs.length = m) (j : Nat) (hj : j < 3) :
    w.cell? ⟨g, k * 3 + j, none⟩ = c[j]? ∧ w.frozen? ⟨g, k * 3 + j, none⟩ = false := by
  have hk : k < Cs.length := (List.getElem?_eq_some_iff.1 hc).1
  refine ⟨?_, h.frozenAt _⟩
  rw [h.cellAt (k * 3 + j) (by omega)]
  exact flatten_get (n := 3) (fun i d hd => h3 d (List.mem_of_getElem? hd)) hc hj

/-- k elements of the row are stored anew, with memory of their own (Fs); the others are as they were (Ps). -/
structure Anew (w : World) (B : Nat) (v : Value) (m k : Nat) (Cs Ps : List (List Value)) (ds : List NodeD) (Fs : List (List Nat)) : Prop where
  row : w.ownsRow B 70 3 v m Cs.flatten
  len3 : ∀ x ∈ Cs, x.length = 3
  lenC : Cs.length = m
  lenD : ds.length = m
  lenF : Fs.length = k
  le : k ≤ m
  el : ∀ (i : Nat) (c : List Value) (x : NodeD) (f : List Nat), i < k → Cs[i]? = some c → ds[i]? = some x → Fs[i]? = some f → Own shNode w B c x f
  old : ∀ i, k ≤ i → Cs[i]? = Ps[i]?
  nd : (v.ownBlock.toList ++ Fs.flatten).Nodup

theorem Anew.start {w : World} {B m : Nat} {v : Value} {Cs : List (List Value)} {ds : List NodeD} (h : w.ownsRow B 70 3 v m Cs.flatten) (h3 : ∀ x ∈ Cs, x.length = 3) (hC : Cs.length = m) (hD : ds.length = m) : Anew w B v m 0 Cs Cs ds [] :=
  ⟨h, h3, hC, hD, rfl, Nat.zero_le _, fun i c x f hi => absurd hi (Nat.not_lt_zero _), fun i _ => rfl, by cases e : v.ownBlock <;> simp⟩

theorem Anew.lt {w : World} {B m k : Nat} {v : Value} {Cs Ps : List (List Value)} {ds : List NodeD} {Fs : List (List Nat)} (h : Anew w B v m k Cs Ps ds Fs) : ∀ y ∈ v.ownBlock.toList ++ Fs.flatten, B ≤ y ∧ y < w.heap.size := by
  intro y hy
  rcases List.mem_append.1 hy with h1 | h1
  · exact h.row.lt y (by simpa using h1)
  · obtain ⟨i, f, hi, hyf⟩ := mem_flatten_get h1
    have hil : i < Fs.length := (List.getElem?_eq_some_iff.1 hi).1
    have h2 := h.lenF; have h3 := h.lenC; have h4 := h.lenD; have h5 := h.le
    exact (h.el i Cs[i] ds[i] f (by omega) (List.getElem?_eq_getElem (by omega)) (List.getElem?_eq_getElem (by omega)) hi).lt y hyf

theorem Anew.keep {w w' : World} {B m k : Nat} {v : Value} {Cs Ps : List (List Value)} {ds : List NodeD} {Fs : List (List Nat)} (h : Anew w B v m k Cs Ps ds Fs)
    (hk : ∀ y ∈ v.ownBlock.toList ++ Fs.flatten, w'.heap[y]? = w.heap[y]?) : Anew w' B v m k Cs Ps ds Fs := by
  refine ⟨⟨h.row.1, ?_⟩, h.len3, h.lenC, h.lenD, h.lenF, h.le, fun i c x f hi hc hx hf => ?_, h.old, h.nd⟩
  · rcases h.row.2 with h1 | ⟨g, cap, cur, hv, hg, hh, r⟩
    · exact .inl h1
    · exact .inr ⟨g, cap, cur, hv, hg, (hk g (List.mem_append_left _ (by rw [hv]; simp [Value.ownBlock]))).trans hh, r⟩
  · exact (h.el i c x f hi hc hx hf).keep fun y hy => hk y (List.mem_append_right _ (List.mem_flatten.2 ⟨f, List.mem_of_getElem? hf, hy⟩))

theorem Anew.later {w w' : World} {B m k : Nat} {v : Value} {Cs Ps : List (List Value)} {ds : List NodeD} {Fs : List (List Nat)} (h : Anew w B v m k Cs Ps ds Fs) (hb : Below w.heap.size w w') : Anew w' B v m k Cs Ps ds Fs :=
  h.keep fun y hy => hb.block y (h.lt y hy).2

/-- One element more is stored anew. -/
theorem Anew.step {w : World} {B g cap m k : Nat} {Cs Ps : List (List Value)} {ds : List NodeD} {Fs : List (List Nat)} (h : Anew w B (.slice (some ⟨g, 0, none⟩) m cap) m k Cs Ps ds Fs) (hk : k < m)
    {a b c : Value} {x : NodeD} {f : List Nat} (hx : ds[k]? = some x) (ho : Own shNode w B [a, b, c] x f) (hf : f.Nodup) (hd : ∀ y ∈ f, y ∉ g :: Fs.flatten) :
    Anew (((w.setCell ⟨g, k * 3, none⟩ a).setCell ⟨g, k * 3 + 1, none⟩ b).setCell ⟨g, k * 3 + 2, none⟩ c) B (.slice (some ⟨g, 0, none⟩) m cap) m (k + 1) (Cs.set k [a, b, c]) Ps ds (Fs ++ [f]) := by
  have hC := h.lenC; have hF := h.lenF
  have hnd : (g :: Fs.flatten).Nodup := by have := h.nd; simpa [Value.ownBlock] using this
  have keep : ∀ y, y ≠ g → (((w.setCell ⟨g, k * 3, none⟩ a).setCell ⟨g, k * 3 + 1, none⟩ b).setCell ⟨g, k * 3 + 2, none⟩ c).heap[y]? = w.heap[y]? := fun y hy => (box_other _ hy).trans ((box_other _ hy).trans (box_other _ hy))
  refine ⟨row_set3 h.row h.len3 (by omega) a b c, fun y hy => ?_, by rw [List.length_set]; exact hC, h.lenD, by rw [List.length_append, hF]; rfl, by omega, fun i c' x' f' hi hc' hx' hf' => ?_, fun i hi => ?_, ?_⟩
  · rcases List.mem_or_eq_of_mem_set hy with h1 | h1
    · exact h.len3 y h1
    · rw [h1]; rfl
  · by_cases e : i = k
    · subst e
      rw [List.getElem?_set_self (by omega)] at hc'
      rw [hx] at hx'
      rw [List.getElem?_append_right (by omega), hF, Nat.sub_self] at hf'
      obtain rfl := Option.some.inj hc'
      obtain rfl := Option.some.inj hx'
      obtain rfl : f = f' := by simpa using hf'
      exact ho.keep fun y hy => keep y (fun e9 => hd y hy (by rw [e9]; simp))
    · rw [List.getElem?_set_ne (fun e9 => e e9.symm)] at hc'
      rw [List.getElem?_append_left (by omega)] at hf'
      refine (h.el i c' x' f' (by omega) hc' hx' hf').keep fun y hy => keep y (fun e9 => ?_)
      have hm : y ∈ Fs.flatten := List.mem_flatten.2 ⟨f', List.mem_of_getElem? hf', hy⟩
      rw [e9] at hm
      exact (List.nodup_cons.1 hnd).1 hm
  · rw [List.getElem?_set_ne (by omega)]
    exact h.old i (by omega)
  · show (g :: (Fs ++ [f]).flatten).Nodup
    rw [List.flatten_append]
    have e1 : [f].flatten = f := by simp
    rw [e1]
    refine List.nodup_cons.2 ⟨fun hm => ?_, List.nodup_append.2 ⟨(List.nodup_cons.1 hnd).2, hf, fun y hy z hz e => ?_⟩⟩
    · rcases List.mem_append.1 hm with h1 | h1
      · exact (List.nodup_cons.1 hnd).1 h1
      · exact hd g h1 (by simp)
    · subst e
      exact hd y hz (by simp [hy])

/-- All are stored anew: the row is the call's own, with all that it holds. -/
theorem Anew.own {w : World} {B m : Nat} {v : Value} {Cs Ps : List (List Value)} {ds : List NodeD} {Fs : List (List Nat)} (h : Anew w B v m m Cs Ps ds Fs) : ∃ F, Own (.sl shNode) w B [v] ds F ∧ F.Nodup ∧ (∀ y ∈ F, y ∈ v.ownBlock.toList ++ Fs.flatten) :=
  Gath.own (e := shNode) (t := 70) (Cs := Cs) (Fs := Fs) (n := m)
    ⟨h.row, h.lenC, h.lenF, h.lenD, fun i c x f hc hx hf => h.el i c x f (by have := (List.getElem?_eq_some_iff.1 hf).1; have := h.lenF; omega) hc hx hf, h.nd⟩

end Go.Proofs.YtkaegbhmeonjfaaGreat

/- Clone: bytes.Clone, and the cells of a slice of bytes as the source of an append. -/
namespace Go.Proofs.YtkaegbhmeonjfaaGreat
open Go.RowKit
set_option linter.unusedVariables false
set_option maxRecDepth 100000

theorem rd_take {w : World} {a : Option Addr} {zs : List Int} (h : Rd w a zs) (j : Nat) : Rd w a (zs.take j) := by
  obtain ⟨h1, h2⟩ := h
  refine ⟨fun i => ?_, ?_⟩
  · by_cases hi : i < j
    · rw [List.getElem?_take_of_lt hi]; exact h1 i
    · rw [List.getElem?_eq_none (by simp; omega)]; simp
  · rcases h2 with rfl | ⟨b, off, h3, h4, h5⟩
    · exact .inl (by simp)
    · refine .inr ⟨b, off, h3, h4, fun i hi => ?_⟩
      rw [List.length_take] at hi
      rw [List.getElem?_take_of_lt (by omega)]
      exact h5 i (by omega)

theorem rd_src {w : World} {ad : Addr} {zs : List Int} (h : Rd w (some ad) zs) : ∀ (j : Nat) (u : Value), (zs.map (Value.int .u8))[j]? = some u → w.cell? (ad.add j) = some u := by
  intro j u hu
  rcases h.2 with rfl | ⟨b, off, h3, h4, h5⟩
  · simp at hu
  · obtain rfl : ad = ⟨b, off, none⟩ := Option.some.inj h3
    have hj : j < zs.length := by
      have := (List.getElem?_eq_some_iff.1 hu).1
      simpa using this
    have e : (⟨b, off, none⟩ : Addr).add j = ⟨b, off + j, none⟩ := by cases j <;> simp [Addr.add]
    rw [e, h5 j hj]
    rw [List.getElem?_map] at hu
    rw [List.getElem?_eq_getElem hj] at hu ⊢
    simpa using hu

theorem bytes_oneCell (zs : List Int) : ∀ u ∈ zs.map (Value.int .u8), u.oneCell' = true := by
  intro u hu
  simp at hu
  obtain ⟨z, _, rfl⟩ := hu
  rfl

theorem rd_none {w : World} {zs : List Int} (h : Rd w none zs) : zs = [] := by
  rcases h.2 with h | ⟨b, off, h, _⟩
  · exact h
  · cases h

set_option maxHeartbeats 1000000 in
theorem clone_any (a : Option Addr) (n cap : Nat) (zs : List Int) (w : World) (hl : Hid (zs.length = n)) (hr : Rd w a zs) (hn : n ≤ 2097152) :
    Calls Tryz.prog 106 #[.slice a n cap] w fun e w' => ∃ v, e = .returned v ∧ w'.ownsRow w.heap.size 5 1 v n (zs.map (Value.int .u8)) ∧ Below w.heap.size w w' := by
  obtain ⟨i0, hi, hz0, hz1, hz2⟩ := info_parts Tryz.infoB
  have hm0 : (0 : Nat) ≤ maxLen := Nat.zero_le _
  have hown00 := World.ownsRow_lit (base := w.heap.size) (e := 5) (size := 1) w #[] 0 (Nat.le_refl _) hm0 rfl
  have q22 : ∀ (w : World) (a : Option Addr) (n c n' c' : Nat), (binOp .eql 43 (.slice a n c) (.slice none n' c')).run Tryz.prog w = .ok (.bool a.isNone) w := fun w a n c n' c' => Lib.run_eql_slice_nil w _ _ a n c n' c' Tryz.underlying43
  cases a with
  | none =>
    have hz := rd_none hr
    subst hz
    have h0 : n = 0 := by have := hl.out; simpa using this.symm
    subst h0
    go_enter Tryz.func106, Tryz.ntmps106
    go_wp2
    go_ret
    exact ⟨_, rfl, ⟨by simp, .inl ⟨rfl, rfl⟩⟩, Below.refl _ _⟩
  | some ad =>
    have hsrc := rd_src (hr.later ((Below.refl w.heap.size w).alloc (Nat.le_refl _) (.cells #[] 5)))
    go_enter Tryz.func106, Tryz.ntmps106
    have k0 : (zs.map (Value.int .u8)).length = n * 1 := by simp; exact hl.out
    have k3 : 0 + n ≤ maxLen := by unfold maxLen; omega
    have k4 : (0 + n) * 1 ≤ 140737488355328 := by omega
    have k5 : w.heap.size ≤ (w.alloc (.cells #[] 5)).heap.size := by simp
    have K5 : Hid (_ ∧ _ ∧ _ ∧ _ ∧ _) := ⟨k0, hsrc, k3, k4, k5⟩
    clear k0 k3 k4 k5 hsrc
    go_wp2_with (at_builtin; refine wpList_append_own _ rfl _ _ 43 rfl w.heap.size 5 i0 (.int .u8 0) 1 1 Tryz.underlying43 hi hz0 hz1 hz2 rfl (by decide) _ _ _ rfl hown00 ad n _ (zs.map (Value.int .u8)) rfl K5.out.1 K5.out.2.1 (bytes_oneCell _) K5.out.2.2.1 K5.out.2.2.2.1 K5.out.2.2.2.2 ?_)
    intro v0 w1 hown1 hgrow1 _
    have hbel1 : Below w.heap.size w w1 := ((Below.refl _ _).alloc (Nat.le_refl _) _).grown hgrow1 (by simp) (fun k h => by simp [Value.ownBlock] at h; omega)
    go_wp2
    go_ret
    exact ⟨_, rfl, by simpa using hown1, hbel1⟩

end Go.Proofs.YtkaegbhmeonjfaaGreat

/- CloneV: bytes.Clone in the words of shapes. -/
namespace Go.Proofs.YtkaegbhmeonjfaaGreat
open Go.RowKit
set_option linter.unusedVariables false
set_option maxRecDepth 100000

theorem clone_v (v : Value) (zs : List Int) (w : World) (h : Reads (.sl .u8) w [v] zs) (hn : zs.length ≤ 2097152) :
    Calls Tryz.prog 106 #[v] w fun e w' => ∃ v' F, e = .returned v' ∧ Own (.sl .u8) w' w.heap.size [v'] zs F ∧ F.Nodup ∧ Below w.heap.size w w' := by
  obtain ⟨a, c, hv, _, _⟩ := reads_val h
  have hv' : v = .slice a zs.length c := hv
  subst hv'
  obtain ⟨_, hrd, _, _⟩ := reads_bytes h
  refine (clone_any a _ c zs w rfl hrd hn).mono ?_
  rintro e w' ⟨v', rfl, ho, hb⟩
  obtain ⟨F, hF, hnd⟩ := own_row rfl hrd.1 ho
  exact ⟨v', F, rfl, hF, hnd, hb⟩

end Go.Proofs.YtkaegbhmeonjfaaGreat

/- SetI: settled of the program: a node whose two contents are copies of one. By program (calmgen.py). -/
namespace Go.Proofs.YtkaegbhmeonjfaaGreat
open Go.RowKit
set_option linter.unusedVariables false
set_option maxRecDepth 100000
set_option linter.unusedSimpArgs false

set_option maxRecDepth 100000 in
set_option maxHeartbeats 2000000 in
theorem settled_ok (id : Int) (v : Value) (zs : List Int) (w : World) (h : Reads (.sl .u8) w [v] zs) (hn : zs.length ≤ 2097152) :
    Calls Tryz.prog 98 #[.int .i64 id, v] w fun e w' => ∃ a1 n1 c1 a2 n2 c2 F, e = .returned (.agg #[.int .i64 id, .slice a1 n1 c1, .slice a2 n2 c2]) ∧ Own shNode w' w.heap.size [.int .i64 id, .slice a1 n1 c1, .slice a2 n2 c2] ((id, zs, zs, ()) : NodeD) F ∧ F.Nodup ∧ Below w.heap.size w w' := by
  have q : Hid (∀ w', Below w.heap.size w w' → Calls Tryz.prog 106 #[v] w' fun e w'' => ∃ a n c F, e = .returned (.slice a n c) ∧ Own (.sl .u8) w'' w'.heap.size [.slice a n c] zs F ∧ F.Nodup ∧ Below w'.heap.size w' w'') := fun w' hb => by
    refine (clone_v v zs w' (h.later hb) hn).mono ?_
    rintro e w'' ⟨u, F, rfl, ho, hnd, hb'⟩
    obtain ⟨a, c, rfl, _⟩ := own_val ho
    exact ⟨a, _, c, F, rfl, ho, hnd, hb'⟩
  have bW0 : Below w.heap.size w (w.alloc (.cells #[.int .i64 0, .slice none 0 0, .slice none 0 0] 70)) := (Below.refl _ _).alloc (Nat.le_refl _) _
  have hbox : (w.alloc (.cells #[.int .i64 0, .slice none 0 0, .slice none 0 0] 70)).heap[w.heap.size]? = some (.cells #[.int .i64 0, .slice none 0 0, .slice none 0 0] 70 (0, 0)) := heap_alloc_new w _
  have HB : Hid _ := hbox
  clear h hn hbox
  go_enter Tryz.func98, Tryz.ntmps98
  go_wp2_with fail
  refine (q.out _ bW0).mono ?_
  rintro e w1 ⟨a1, n1, c1, F1, rfl, o1, nd1, hb1⟩
  have b1 := bW0.trans (hb1.mono bW0.size)
  have O1 : Hid (Own (.sl .u8) w1 (w.alloc (.cells #[.int .i64 0, .slice none 0 0, .slice none 0 0] 70)).heap.size [.slice a1 n1 c1] zs F1) := o1
  have i1 : w1.heap[w.heap.size]? = _ := (hb1.block _ (by simp)).trans HB.out
  have HI1 : Hid _ := i1
  have z1 := hb1.size
  clear o1 i1 hb1
  go_wp2_with fail
  refine (q.out _ b1).mono ?_
  rintro e w2 ⟨a2, n2, c2, F2, rfl, o2, nd2, hb2⟩
  have b2 := b1.trans (hb2.mono b1.size)
  have i2 : w2.heap[w.heap.size]? = some (.cells #[.int .i64 0, .slice none 0 0, .slice none 0 0] 70 (0, 0)) := (hb2.block _ (by simp at z1; omega)).trans HI1.out
  have p1 := O1.out.later hb2
  have L1 := O1.out.lt
  have L2 := o2.lt
  simp at z1
  have yr0 : w2.cell? ⟨w.heap.size, 0, none⟩ = some (.int .i64 0) := box_cell i2 rfl
  have yr1 : w2.cell? ⟨w.heap.size, 1, none⟩ = some (.slice none 0 0) := box_cell i2 rfl
  have yr2 : w2.cell? ⟨w.heap.size, 2, none⟩ = some (.slice none 0 0) := box_cell i2 rfl
  have yg0 : w2.frozen? ⟨w.heap.size, 0, none⟩ = false := box_frozen i2
  have yg1 : w2.frozen? ⟨w.heap.size, 1, none⟩ = false := box_frozen i2
  have yg2 : w2.frozen? ⟨w.heap.size, 2, none⟩ = false := box_frozen i2
  have HO : Hid (∀ w', (∀ g, w.heap.size < g → w'.heap[g]? = w2.heap[g]?) → Own shNode w' w.heap.size [.int .i64 id, .slice a1 n1 c1, .slice a2 n2 c2] ((id, zs, zs, ()) : NodeD) (F1 ++ (F2 ++ []))) := fun w' hw' =>
    own_Node (d := ((id, zs, zs, ()) : NodeD)) ((p1.keep fun g hg => hw' g (by have := (L1 g hg).1; simp at this; omega)).base (by simp)) ((o2.keep fun g hg => hw' g (by have := (L2 g hg).1; omega)).base (by omega))
  have HN : Hid ((F1 ++ (F2 ++ [])).Nodup) := by
    show List.Nodup _
    rw [List.append_nil]
    refine List.nodup_append.2 ⟨nd1, nd2, fun x hx y hy e => ?_⟩
    subst e
    have := (L1 x hx).2
    have := (L2 x hy).1
    omega
  have HB2 : Hid (Below w.heap.size w w2) := b2
  have yz0 : ((w2).setCell ⟨w.heap.size, 0, none⟩ (.int .i64 id)).cell? ⟨w.heap.size, 0, none⟩ = some (.int .i64 id) := World.cell?_setCell_same _ _ _ (by exact yr0)
  have yz1 : (((w2).setCell ⟨w.heap.size, 0, none⟩ (.int .i64 id)).setCell ⟨w.heap.size, 1, none⟩ (.slice a1 n1 c1)).cell? ⟨w.heap.size, 1, none⟩ = some (.slice a1 n1 c1) := World.cell?_setCell_same _ _ _ (by rw [World.cell?_setCell_other _ _ _ _ (by simp)]; exact yr1)
  have yz2 : ((((w2).setCell ⟨w.heap.size, 0, none⟩ (.int .i64 id)).setCell ⟨w.heap.size, 1, none⟩ (.slice a1 n1 c1)).setCell ⟨w.heap.size, 2, none⟩ (.slice a2 n2 c2)).cell? ⟨w.heap.size, 2, none⟩ = some (.slice a2 n2 c2) := World.cell?_setCell_same _ _ _ (by rw [World.cell?_setCell_other _ _ _ _ (by simp), World.cell?_setCell_other _ _ _ _ (by simp)]; exact yr2)
  clear O1 p1 o2 L1 L2 b2 i2 nd1 nd2 hb2 HI1
  go_wp2
  (try simp only [Exit.inBlock, Exit.then])
  refine bodyPost_ret (by simp [results, Tryz.results98, go_sem, yz0, yz1, yz2]; try rfl) rfl ?_
  exact ⟨_, _, _, _, _, _, _, rfl, HO.out _ (fun g hg => (box_other _ (by omega)).trans ((box_other _ (by omega)).trans (box_other _ (by omega)))), HN.out, ((HB2.out.setCell (by simp) _).setCell (by simp) _).setCell (by simp) _⟩

end Go.Proofs.YtkaegbhmeonjfaaGreat
