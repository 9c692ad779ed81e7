/-
  The walk of the law FnTear: it returns true and writes nothing that was there.
-/
import Derived.Test.YtnifmkhijebamaaTearP
import Derived.Test.YtnifmkhijebamaaMkNum
import Derived.Test.YtnifmkhijebamaaHexI
import Derived.Test.YtnifmkhijebamaaPlain
import Derived.Deep.RegionHeld3
namespace Go.Proofs.Ytnifmkhijebamaa
open Go.RowKit
set_option linter.unusedVariables false
set_option linter.unusedSimpArgs false

theorem step_append_ownX {P : Program} {w : World} {ops : Array Oper} {o : Oper} {a : Act} {K : Act → World → Prop} {Q : Exit → Act → World → Prop} {E : Prop} (hgd : o.guard = none) (s x : Operand) (t : TypeId)
    (ho : o.op = .call { callee := .builtin .append, args := #[s, x], argTypes := #[t, t] })
    (base : Nat) (e : TypeId) (i : TypeInfo) (z : Value) (size bytes : Nat) (ht : P.underlying t = some (.slice e)) (hi : P.info? e = some i) (hz : i.zero = some z)
    (hsize : i.size = size) (hby : i.bytes = bytes) (hzs : z.cells.size = size) (hsz : 0 < size)
    (v : Value) (n : Nat) (xs : List Value) (hs : a.eval s = v) (hown : w.ownsRow base e size v n xs)
    (ad : Addr) (m c : Nat) (news : List Value) (hx : a.eval x = .slice (some ad) m c) (hl : news.length = m * size) (hnews : ∀ j u, news[j]? = some u → w.cell? (ad.add j) = some u) (h1 : ∀ u ∈ news, u.oneCell' = true)
    (h63 : n + m ≤ maxLen) (hbytes : (n + m) * bytes ≤ 140737488355328) (hbase : base ≤ w.heap.size)
    (h : ∀ v' w', w'.ownsRow base e size v' (n + m) (xs ++ news) → w.grownBy w' v.ownBlock → K (a.put o.dst v') w') :
    if Region.wanted o (yielded ops a.tmps) = true then Oper.wp P o a w K Q else E := by
  have hw : Region.wanted o (yielded ops a.tmps) = true := by simp [Region.wanted, hgd]
  rw [if_pos hw]
  exact wp_append_own w s x t ho base e i z size bytes ht hi hz hsize hby hzs hsz v n xs hs hown ad m c news hx hl hnews h1 h63 hbytes hbase fun v' w' k1 k2 _ => h v' w' k1 k2

theorem own_slice {w : World} {base n : Nat} {v : Value} {e : TypeId} {size : Nat} {xs : List Value} (h : w.ownsRow base e size v n xs) : ∃ a c, v = .slice a n c ∧ n ≤ c ∧ c ≤ maxLen ∧ (a = none → c = 0) := by
  rcases h.2 with ⟨h1, h2⟩ | ⟨g, cap, cur, hv, _, _, h3, h4, _⟩
  · exact ⟨none, 0, by rw [h1, h2], by omega, Nat.zero_le _, fun _ => rfl⟩
  · exact ⟨_, cap, hv, h3, h4, fun h => by cases h⟩

theorem tear_lenB (xs ys : List Int) (i : Int) : (tear xs ys i).length ≤ xs.length + ys.length := by
  unfold tear tearAt
  split <;> (rw [List.length_take]; omega)

theorem rd_ownV {w : World} {base n : Nat} {a : Option Addr} {cap : Nat} {zs : List Int} (hl : zs.length = n) (hz : ∀ i : Nat, 0 ≤ zs[i]?.getD 0 ∧ zs[i]?.getD 0 ≤ 255) (h : w.ownsRow base 5 1 (.slice a n cap) n (zs.map (Value.int .u8))) : Rd w a zs := by
  rcases h.2 with ⟨h1, h2⟩ | ⟨g, cap', cur, hv, _⟩
  · refine ⟨hz, .inl (List.eq_nil_of_length_eq_zero (by omega))⟩
  · simp only [Value.slice.injEq] at hv
    obtain ⟨rfl, _, rfl⟩ := hv
    exact rd_own hl hz h

/-- The cells of a piece of a row. -/
theorem cells_piece {w : World} {base g n cap : Nat} {zs : List Int} (hl : zs.length = n) (h : w.ownsRow base 5 1 (.slice (some ⟨g, 0, none⟩) n cap) n (zs.map (Value.int .u8))) (off j : Nat) (hj : off + j ≤ n) :
    ∀ (i : Nat) (u : Value), (((zs.drop off).take j).map (Value.int .u8))[i]? = some u → w.cell? ((⟨g, off, none⟩ : Addr).add i) = some u := by
  intro i u hu
  have hi : i < j := by
    have := (List.getElem?_eq_some_iff.1 hu).1
    simp at this; omega
  have e : (⟨g, off, none⟩ : Addr).add i = ⟨g, off + i, none⟩ := by cases i <;> simp [Addr.add]
  rw [e, h.cellAt (off + i) (by omega), ← hu, List.getElem?_map, List.getElem?_map, List.getElem?_take_of_lt hi, List.getElem?_drop]

theorem ints_one (zs : List Int) : ∀ u ∈ zs.map (Value.int .u8), u.oneCell' = true := by
  intro u hu
  simp at hu
  obtain ⟨z, _, rfl⟩ := hu
  rfl

/-- Tear of a row of the call's own: the law's words. -/
theorem tear_row (a : Option Addr) (n ca : Nat) (b : Option Addr) (m cb : Nat) (xs ys : List Int) (k : Int) (w : World) (hl : xs.length = n) (hm : ys.length = m) (hra : Rd w a xs) (hrb : Rd w b ys) (hn : n ≤ 100) (hmm : m ≤ 100)
    (hca : n ≤ ca) (hcb : m ≤ cb) (hcm : ca ≤ maxLen) (hcn : cb ≤ maxLen) (hna : a = none → ca = 0) (hnb : b = none → cb = 0) (hk1 : -9223372036854775808 ≤ k) (hk2 : k ≤ 9223372036854775807) (T : List Int) (t : Nat) (hT : tear xs ys k = T) (ht : T.length = t) :
    Calls Try.prog 7 #[.slice a n ca, .slice b m cb, .int .i64 k] w fun e w' => ∃ av cv, e = .returned (.slice av t cv) ∧ w'.ownsRow w.heap.size 5 1 (.slice av t cv) t (T.map (Value.int .u8)) ∧ t ≤ cv ∧ cv ≤ maxLen ∧ Below w.heap.size w w' := by
  refine (implTear_any a b n m ca cb xs ys k w hl hm hra hrb (by omega) (by omega) hca hcb hcm hcn hna hnb hk1 hk2).mono ?_
  rintro e w' ⟨v, rfl, ho, hb⟩
  rw [hT, ht] at ho
  obtain ⟨av, cv, rfl, h1, h2, _⟩ := own_slice ho
  exact ⟨av, cv, rfl, ho, h1, h2, hb⟩

set_option maxRecDepth 100000 in
set_option maxHeartbeats 4000000 in
theorem tearLaw_in (a : Option Addr) (n cap : Nat) (zs : List Int) (w : World) (HL : Hid (zs.length = n)) (hn : n ≤ 1048576) (hr : Rd w a zs) :
    Calls Try.prog 3 #[.slice a n cap] w fun e w' => e = .returned (.bool true) ∧ Below w.heap.size w w' := by
  obtain ⟨i0, hi, hz0, hz1, hz2⟩ := info_parts Try.infoB
  have hlt : ¬ (1048576 : Int) < (n : Int) := by omega
  have HR : Hid (Rd w a zs) := hr
  clear hr
  have hm0 : (0 : Nat) ≤ maxLen := Nat.zero_le _
  go_enter Try.func3, Try.ntmps3
  go_wp2_with fail
  refine (makeBytes_any a n cap zs _ HL hn HR.out).mono ?_
  rintro e w1 ⟨bs, m, g, cp, hm40, hbl, hbb, rfl, ho1, hb1⟩
  have HB : Hid (bs.length = m ∧ isBytes bs) := ⟨hbl, hbb⟩
  clear hbl hbb
  obtain ⟨_, _, hv1, hcp1, hcp2, _⟩ := own_slice ho1
  simp only [Value.slice.injEq] at hv1
  obtain ⟨rfl, _, rfl⟩ := hv1
  unfold maxLen at hcp2
  go_wp2_with fail
  refine (makeNum_any a n cap zs _ _ HL hn (HR.out.later hb1) (by omega) (by omega)).mono ?_
  rintro e w2 ⟨k, rfl, hk, hb2⟩
  have b2 := hb1.trans (hb2.mono hb1.size)
  have ho2 := own_later ho1 hb2
  have hkm : k ≤ m := by omega
  have hkI : (k : Int) ≤ (cp : Int) := by omega
  have hhI : (k : Int) / 2 = ((k / 2 : Nat) : Int) := by omega
  have hh2 : (((k / 2 : Nat)) : Int) ≤ (cp : Int) := by omega
  have hkm2 : (k : Int) ≤ (m : Int) := by omega
  obtain ⟨H, hH⟩ : ∃ H, H = k / 2 := ⟨_, rfl⟩
  rw [← hH] at hhI hh2
  have hHk : H ≤ k := by omega
  clear hH
  have HO2 : Hid (w2.ownsRow w.heap.size 5 1 (.slice (some ⟨g, 0, none⟩) m cp) m (bs.map (Value.int .u8))) := ho2
  clear ho1 ho2 hb1 hb2
  have htd : (k : Int).tdiv 2 = (H : Int) := by rw [Int.tdiv_eq_ediv_of_nonneg (by omega)]; exact hhI
  have hwH : IntKind.i64.wrap (H : Int) = (H : Int) := wrap_i64_in _ (by omega) (by omega)
  have hbb : Below w2.heap.size w2 w2 := Below.refl _ _
  have KA : Hid (((w2.alloc (.cells #[] 5)).drew).ownsRow w2.heap.size 5 1 (.slice (some ⟨w2.heap.size, 0, none⟩) 0 0) 0 [] ∧ (((bs.drop 0).take H).map (Value.int .u8)).length = H * 1 ∧ (∀ (i : Nat) (u : Value), (((bs.drop 0).take H).map (Value.int .u8))[i]? = some u → ((w2.alloc (.cells #[] 5)).drew).cell? ((⟨g, 0, none⟩ : Addr).add i) = some u) ∧ 0 + H ≤ maxLen ∧ w2.heap.size ≤ ((w2.alloc (.cells #[] 5)).drew).heap.size) :=
    ⟨World.ownsRow_lit (base := w2.heap.size) (e := 5) (size := 1) w2 #[] 0 (Nat.le_refl _) hm0 rfl, by have := HB.out.1; simp; omega, cells_piece HB.out.1 (own_later HO2.out ((hbb.alloc (Nat.le_refl _) _).drew)) 0 H (by omega), by unfold maxLen; omega, by simp⟩
  have KR : Hid ((((bs.drop k).take (m - k)).map (Value.int .u8)).length = (m - k) * 1 ∧ (0 + H) + (m - k) ≤ maxLen) := ⟨by have := HB.out.1; simp; omega, by unfold maxLen; omega⟩
  obtain ⟨O, hO⟩ : ∃ O : Nat, (if cp = k then some (⟨g, 0, none⟩ : Addr) else some ⟨g, k, none⟩) = some ⟨g, O, none⟩ ∧ (cp = k ∨ O = k) := by
    by_cases h : cp = k
    · exact ⟨0, by rw [if_pos h], .inl h⟩
    · exact ⟨k, by rw [if_neg h], .inr rfl⟩
  have HX : Hid (Value.slice (if cp = k then some (⟨g, 0, none⟩ : Addr) else some ⟨g, k, none⟩) (m - k) (cp - k) = .slice (some ⟨g, O, none⟩) (m - k) (cp - k)) := by show _ = _; rw [hO.1]
  have KP : Hid (∀ w', Below w2.heap.size w2 w' → ∀ (i : Nat) (u : Value), (((bs.drop k).take (m - k)).map (Value.int .u8))[i]? = some u → w'.cell? ((⟨g, O, none⟩ : Addr).add i) = some u) := fun w' h' => by
    rcases hO.2 with h | h
    · intro i u hu
      have e : m - k = 0 := by omega
      rw [e] at hu
      simp at hu
    · rw [h]
      exact cells_piece HB.out.1 (own_later HO2.out h') k (m - k) (by omega)
  have hOif := hO.1
  clear hO
  go_wp2_with fail
  go_region_held3 (fun w' => True) (trivial) (first | ((refine step_append_ownX rfl _ _ 22 (by rfl) w2.heap.size 5 i0 (.int .u8 0) 1 1 Try.underlying22 hi hz0 hz1 hz2 rfl (by decide) (.slice (some ⟨w2.heap.size, 0, none⟩) 0 0) 0 [] (by rfl) KA.out.1 ⟨g, 0, none⟩ H _ (((bs.drop 0).take H).map (Value.int .u8)) (by rfl) KA.out.2.1 KA.out.2.2.1 (ints_one _) KA.out.2.2.2.1 (by omega) KA.out.2.2.2.2 ?_; intro v1 w3 hown3 hgrow3; have hb3 : Below w2.heap.size w2 w3 := ((hbb.alloc (Nat.le_refl _) _).drew).grown hgrow3 (by simp) (fun y h => by simp [Value.ownBlock] at h; omega))) | ((refine step_append_ownX rfl _ _ 22 (by rfl) w2.heap.size 5 i0 (.int .u8 0) 1 1 Try.underlying22 hi hz0 hz1 hz2 rfl (by decide) v1 (0 + H) ([] ++ ((bs.drop 0).take H).map (Value.int .u8)) (by rfl) hown3 ⟨g, O, none⟩ (m - k) (cp - k) (((bs.drop k).take (m - k)).map (Value.int .u8)) (by first | rfl | exact HX.out) KR.out.1 (KP.out _ hb3) (ints_one _) KR.out.2 (by omega) hb3.size ?_; intro v2 w4 hown4 hgrow4; have hb4 : Below w2.heap.size w2 w4 := hb3.grown hgrow4 hb3.size (fun y h => (hown3.lt y h).1))))
  obtain ⟨M, hM⟩ : ∃ M, M = H + (m - k) := ⟨_, rfl⟩
  obtain ⟨xs, hxs⟩ : ∃ xs, xs = bs.take k := ⟨_, rfl⟩
  obtain ⟨ys, hys⟩ : ∃ ys, ys = bs.take H ++ bs.drop k := ⟨_, rfl⟩
  have hxl : xs.length = k := by rw [hxs, List.length_take]; have := HB.out.1; omega
  have hyl : ys.length = M := by rw [hys, List.length_append, List.length_take, List.length_drop]; have := HB.out.1; omega
  have hown5 : w4.ownsRow w2.heap.size 5 1 v2 M (ys.map (Value.int .u8)) := by
    have e1 : (bs.drop k).take (m - k) = bs.drop k := List.take_of_length_le (by have := HB.out.1; simp; omega)
    rw [e1] at hown4
    have e2 : (0 + H) + (m - k) = M := by omega
    rw [e2] at hown4
    rw [hys, List.map_append]
    simpa using hown4
  obtain ⟨ab, cb, rfl, hcb1, hcb2, hcb3⟩ := own_slice hown5
  have hyb : ∀ i : Nat, 0 ≤ ys[i]?.getD 0 ∧ ys[i]?.getD 0 ≤ 255 := by
    intro i
    rw [hys, List.getElem?_append]
    split
    · exact (rd_take (rd_own HB.out.1 HB.out.2 HO2.out) H).1 i
    · have := HB.out.2 (k + (i - (bs.take H).length))
      rwa [List.getElem?_drop]
  have hxb : ∀ i : Nat, 0 ≤ xs[i]?.getD 0 ∧ xs[i]?.getD 0 ≤ 255 := by rw [hxs]; exact (rd_take (rd_own HB.out.1 HB.out.2 HO2.out) k).1
  have b4 := b2.trans (hb4.mono b2.size)
  have hrx : Rd w4 (some ⟨g, 0, none⟩) xs := by rw [hxs]; exact rd_take (rd_own HB.out.1 HB.out.2 (own_later HO2.out hb4)) k
  have hry : Rd w4 ab ys := rd_ownV hyl hyb hown5
  have hMb : M ≤ 100 := by omega
  clear hM
  obtain ⟨T, hT⟩ : ∃ T, T = tsteps xs ys := ⟨_, rfl⟩
  have hTle : T ≤ k + M := by rw [hT]; have := tsteps_le xs ys; omega
  have qst : Hid (Calls Try.prog 6 #[.slice (some ⟨g, 0, none⟩) k cp, .slice ab M cb] w4 fun e w' => e = .returned (.int .i64 T) ∧ ∃ q, w' = w4.drewN q) := by rw [hT]; exact implSteps_any _ _ k M _ _ xs ys w4 hxl hyl hrx hry (by omega) (by omega)
  have qtr : Hid (∀ w' (i : Int) (U : List Int) (u : Nat), Below w4.heap.size w4 w' → 0 ≤ i → i ≤ 1000 → tear xs ys i = U → U.length = u → Calls Try.prog 7 #[.slice (some ⟨g, 0, none⟩) k cp, .slice ab M cb, .int .i64 i] w' fun e w'' => ∃ av cv, e = .returned (.slice av u cv) ∧ w''.ownsRow w'.heap.size 5 1 (.slice av u cv) u (U.map (Value.int .u8)) ∧ u ≤ cv ∧ cv ≤ maxLen ∧ Below w'.heap.size w' w'') :=
    fun w' i U u h' h0 h1 hU hu => tear_row _ k cp ab M cb xs ys i w' hxl hyl (hrx.later h') (hry.later h') (by omega) (by omega) (by omega) hcb1 (by unfold maxLen; omega) hcb2 (fun h => by cases h) hcb3 (by omega) (by omega) U u hU hu
  have HPP : Hid (xs.length = k ∧ ys.length = M ∧ T = tsteps xs ys) := ⟨hxl, hyl, hT⟩
  have HO4 : Hid (w4.ownsRow w.heap.size 5 1 (.slice (some ⟨g, 0, none⟩) m cp) m (bs.map (Value.int .u8)) ∧ w4.ownsRow w2.heap.size 5 1 (.slice ab M cb) M (ys.map (Value.int .u8)) ∧ xs = bs.take k) := ⟨own_later HO2.out hb4, hown5, hxs⟩
  have HB4 : Hid (Below w.heap.size w w4) := b4
  clear hown3 hown4 hown5 hgrow3 hgrow4 hb3 hb4 KA KR KP hxs hys hyb hxb hrx hry hxl hyl hT HO2 b2 hbb b4 hcb3 hOif HX
  go_wp2_with fail
  refine qst.out.mono ?_
  rintro e w5 ⟨rfl, q5, hw5⟩
  have hb5 : Below w4.heap.size w4 w5 := by rw [hw5]; exact below_drewN (Below.refl _ _) q5
  clear hw5 qst
  have hrow5 := own_later HO4.out.1 hb5
  have hbody5 := own_later HO4.out.2.1 hb5
  have HB5 : Hid (Below w.heap.size w w5) := HB4.out.trans (hb5.mono HB4.out.size)
  obtain ⟨S1, hS1⟩ : ∃ S1, S1 = strOfNums xs := ⟨_, rfl⟩
  obtain ⟨S2, hS2⟩ : ∃ S2, S2 = strOfNums ys := ⟨_, rfl⟩
  have qa : Hid (∀ (w' : World) (base : Nat) (av : Option Addr) (cv : Nat), w'.ownsRow base 5 1 (.slice av k cv) k (xs.map (Value.int .u8)) → (convert 22 9 (.slice av k cv)).run Try.prog w' = .ok (.string S1) w') := by
    intro w' base av cv h
    have := own_convV HPP.out.1 h k (Nat.le_refl _)
    rw [List.take_of_length_le (by rw [HPP.out.1]; exact Nat.le_refl _)] at this
    rw [hS1]; exact this
  have qb : ∀ w', Below w5.heap.size w5 w' → (convert 22 9 (.slice (some ⟨g, 0, none⟩) k cp)).run Try.prog w' = .ok (.string S1) w' := by
    intro w' h
    have := row_conv HB.out.1 (own_later hrow5 h) k hkm
    rw [hS1, HO4.out.2.2]; exact this
  have qc : Hid (∀ (w' : World) (base : Nat) (av : Option Addr) (cv : Nat), w'.ownsRow base 5 1 (.slice av M cv) M (ys.map (Value.int .u8)) → (convert 22 9 (.slice av M cv)).run Try.prog w' = .ok (.string S2) w') := by
    intro w' base av cv h
    have := own_convV HPP.out.2.1 h M (Nat.le_refl _)
    rw [List.take_of_length_le (by rw [HPP.out.2.1]; exact Nat.le_refl _)] at this
    rw [hS2]; exact this
  have qd : ∀ w', Below w5.heap.size w5 w' → (convert 22 9 (.slice ab M cb)).run Try.prog w' = .ok (.string S2) w' := fun w' h => qc.out w' _ ab cb (own_later hbody5 h)
  have q0 : Hid (∀ w', Below w5.heap.size w5 w' → Calls Try.prog 7 #[.slice (some ⟨g, 0, none⟩) k cp, .slice ab M cb, .int .i64 0] w' fun e w'' => ∃ av cv, e = .returned (.slice av k cv) ∧ w''.ownsRow w'.heap.size 5 1 (.slice av k cv) k (xs.map (Value.int .u8)) ∧ k ≤ cv ∧ cv ≤ maxLen ∧ Below w5.heap.size w5 w'') := fun w' h => (qtr.out w' 0 xs k (hb5.trans (h.mono hb5.size)) (by omega) (by omega) (tear_first xs ys) HPP.out.1).mono fun e w'' ⟨av, cv, e1, e2, e3, e4, e5⟩ => ⟨av, cv, e1, e2, e3, e4, h.trans (e5.mono h.size)⟩
  have q1 : Hid (∀ w', Below w5.heap.size w5 w' → Calls Try.prog 7 #[.slice (some ⟨g, 0, none⟩) k cp, .slice ab M cb, .int .i64 (T : Int)] w' fun e w'' => ∃ av cv, e = .returned (.slice av M cv) ∧ w''.ownsRow w'.heap.size 5 1 (.slice av M cv) M (ys.map (Value.int .u8)) ∧ M ≤ cv ∧ cv ≤ maxLen ∧ Below w5.heap.size w5 w'') := fun w' h => (qtr.out w' T ys M (hb5.trans (h.mono hb5.size)) (by omega) (by omega) (by rw [HPP.out.2.2]; exact tear_last xs ys) HPP.out.2.1).mono fun e w'' ⟨av, cv, e1, e2, e3, e4, e5⟩ => ⟨av, cv, e1, e2, e3, e4, h.trans (e5.mono h.size)⟩
  have hbb : Below w5.heap.size w5 w5 := Below.refl _ _
  have HX5 : Hid (w5.ownsRow w.heap.size 5 1 (.slice (some ⟨g, 0, none⟩) m cp) m (bs.map (Value.int .u8)) ∧ w5.ownsRow w2.heap.size 5 1 (.slice ab M cb) M (ys.map (Value.int .u8)) ∧ Below w4.heap.size w4 w5 ∧ S1 = strOfNums xs ∧ S2 = strOfNums ys) := ⟨hrow5, hbody5, hb5, hS1, hS2⟩
  clear hrow5 hbody5 hb5 hS1 hS2
  have hne1 : (S1.toList != S1.toList) = false := by simp
  have hne2 : (S2.toList != S2.toList) = false := by simp
  have hwkM : IntKind.i64.wrap ((k : Int) + (M : Int)) = (k : Int) + (M : Int) := wrap_i64_in _ (by omega) (by omega)
  have hT0 : ¬ (T : Int) < 0 := by omega
  have hTk : ¬ (k : Int) + (M : Int) < (T : Int) := by omega
  go_wp2_with fail
  go_region_held (fun w' => Below w5.heap.size w5 w')
    (first | assumption | exact Below.drew (by assumption) | go_keep)
    (first | ((have z6 := hb6; go_at_call 7; refine (q1.out _ (by assumption)).mono ?_; rintro e w7 ⟨av2, cv2, rfl, ho7, hv3, hv4, hb7⟩; have c2 := qc.out _ _ _ _ ho7)) | ((go_at_call 7; refine (q0.out _ (by assumption)).mono ?_; rintro e w6 ⟨av, cv, rfl, ho6, hv1, hv2, hb6⟩; have c1 := qa.out _ _ _ _ ho6)))
  have HB7 : Hid (Below w5.heap.size w5 w7) := hb7
  clear ho6 ho7 hv1 hv2 hv3 hv4 hb6 hb7 c1 c2 z6 qa qc q0 q1
  go_wp2
  go_loopw [8] (fun i wr => ∃ j : Nat, j ≤ T ∧ i = .int .i64 j ∧ Below w5.heap.size w5 wr) (fun i _ => T - (intOf i).toNat)
  case atStart => exact ⟨0, Nat.zero_le _, rfl, HB7.out⟩
  case round =>
    obtain ⟨j, hj, rfl, hbel⟩ := hrel
    have bwr : Below w4.heap.size w4 wr := HX5.out.2.2.1.trans (hbel.mono HX5.out.2.2.1.size)
    by_cases hlt : j < T
    · obtain ⟨U, hU⟩ : ∃ U, tear xs ys (j : Int) = U := ⟨_, rfl⟩
      obtain ⟨V, hV⟩ : ∃ V, tear xs ys ((j : Int) + 1) = V := ⟨_, rfl⟩
      obtain ⟨u, hu⟩ : ∃ u, U.length = u := ⟨_, rfl⟩
      obtain ⟨u', hu'⟩ : ∃ u', V.length = u' := ⟨_, rfl⟩
      have hub : u ≤ 200 := by rw [← hu, ← hU]; have := tear_lenB xs ys (j : Int); have := HPP.out.1; have := HPP.out.2.1; omega
      have hub' : u' ≤ 200 := by rw [← hu', ← hV]; have := tear_lenB xs ys ((j : Int) + 1); have := HPP.out.1; have := HPP.out.2.1; omega
      have qx : Hid (∀ w', Below wr.heap.size wr w' → Calls Try.prog 7 #[.slice (some ⟨g, 0, none⟩) k cp, .slice ab M cb, .int .i64 (j : Int)] w' fun e w'' => ∃ av cv, e = .returned (.slice av u cv) ∧ w''.ownsRow w'.heap.size 5 1 (.slice av u cv) u (U.map (Value.int .u8)) ∧ u ≤ cv ∧ cv ≤ maxLen ∧ Below w'.heap.size w' w'') := fun w' h => qtr.out w' j U u (bwr.trans (h.mono bwr.size)) (by omega) (by omega) hU hu
      have qy : Hid (∀ w', Below wr.heap.size wr w' → Calls Try.prog 7 #[.slice (some ⟨g, 0, none⟩) k cp, .slice ab M cb, .int .i64 ((j : Int) + 1)] w' fun e w'' => ∃ av cv, e = .returned (.slice av u' cv) ∧ w''.ownsRow w'.heap.size 5 1 (.slice av u' cv) u' (V.map (Value.int .u8)) ∧ u' ≤ cv ∧ cv ≤ maxLen ∧ Below w'.heap.size w' w'') := fun w' h => qtr.out w' _ V u' (bwr.trans (h.mono bwr.size)) (by omega) (by omega) hV hu'
      have HD : Hid ((u = u' + 1 ∧ U.take u' = V) ∨ (u' = u + 1 ∧ V.take u = U)) := by
        have ht : j + 1 ≤ tsteps xs ys := by rw [← HPP.out.2.2]; omega
        by_cases hd : j + 1 ≤ xs.length - share xs ys
        · have h1 := tear_down xs ys j hd
          have e : tear xs ys (((j + 1 : Nat)) : Int) = V := hV
          rw [e, hU, hu, hu'] at h1
          exact .inl h1
        · have h1 := tear_up xs ys j hd ht
          have e : tear xs ys (((j + 1 : Nat)) : Int) = V := hV
          rw [e, hU, hu, hu'] at h1
          exact .inr h1
      have HU : Hid (U.length = u ∧ V.length = u') := ⟨hu, hu'⟩
      clear hU hV hu hu'
      go_wp2_with fail
      refine (qx.out _ (Below.refl _ _)).mono ?_
      rintro e w6 ⟨av, cv, rfl, ho6, hv1, hv2, hb6⟩
      go_wp2_with fail
      refine (qy.out _ hb6).mono ?_
      rintro e w7' ⟨aw, cw, rfl, ho7, hv3, hv4, hb7⟩
      have ho8 := own_later ho6 hb7
      have bE := hbel.trans ((hb6.trans (hb7.mono hb6.size)).mono hbel.size)
      unfold maxLen at hv2 hv4
      rcases HD.out with ⟨d1, d2⟩ | ⟨d1, d2⟩
      · obtain ⟨S3, hS3⟩ : ∃ S3, S3 = strOfNums V := ⟨_, rfl⟩
        have cA : (convert 22 9 (.slice av u' cv)).run Try.prog w7'.drew = .ok (.string S3) w7'.drew := by
          have := own_convV HU.out.1 (own_later ho8 (Below.refl _ _).drew) u' (by omega)
          rw [d2] at this; rw [hS3]; exact this
        have cB : (convert 22 9 (.slice aw u' cw)).run Try.prog w7'.drew = .ok (.string S3) w7'.drew := by
          have := own_convV HU.out.2 (own_later ho7 (Below.refl _ _).drew) u' (Nat.le_refl _)
          rw [List.take_of_length_le (by rw [HU.out.2]; exact Nat.le_refl _)] at this; rw [hS3]; exact this
        have e1 : (u' : Int) + 1 = (u : Int) := by omega
        have e2 : IntKind.i64.wrap (u : Int) = (u : Int) := wrap_i64_in _ (by omega) (by omega)
        have e3 : u' ≤ cv := by omega
        have e4 : ¬ cv < u' := by omega
        clear d1 d2 hS3 ho6 ho7 ho8 hb6 hb7
        go_wp2_with fail
        refine wp_region_held_drew (S := fun w' => (convert 22 9 (.slice av u' cv)).run Try.prog w' = .ok (.string S3) w' ∧ (convert 22 9 (.slice aw u' cw)).run Try.prog w' = .ok (.string S3) w') (by kernel_rfl) ⟨cA, cB⟩ (fun hHeld => ?_)
        refine wpAnyH_take (i := 0) (v := .slice av u cv) rfl (by kernel_rfl) (by kernel_rfl) (by kernel_rfl) (fun _ _ _ h => h) (Or.inl ⟨by kernel_rfl, ?_⟩) (by assumption) ?_
        · intro w9 hSw; (try dsimp only at hSw); go_simp
        simp only [Act.put, List.getElem_toArray, List.getElem_cons_succ, List.getElem_cons_zero, List.setIfInBounds_toArray, List.set_cons_zero, List.set_cons_succ]
        refine wpAnyH_take (i := 1) (v := .int .i64 u) rfl (by kernel_rfl) (by kernel_rfl) (by kernel_rfl) (fun _ _ _ h => h) (Or.inl ⟨by kernel_rfl, ?_⟩) (by assumption) ?_
        · intro w9 hSw; (try dsimp only at hSw); go_simp
        simp only [Act.put, List.getElem_toArray, List.getElem_cons_succ, List.getElem_cons_zero, List.setIfInBounds_toArray, List.set_cons_zero, List.set_cons_succ]
        refine wpAnyH_take (i := 2) (v := .slice aw u' cw) rfl (by kernel_rfl) (by kernel_rfl) (by kernel_rfl) (fun _ _ _ h => h) (Or.inl ⟨by kernel_rfl, ?_⟩) (by assumption) ?_
        · intro w9 hSw; (try dsimp only at hSw); go_simp
        simp only [Act.put, List.getElem_toArray, List.getElem_cons_succ, List.getElem_cons_zero, List.setIfInBounds_toArray, List.set_cons_zero, List.set_cons_succ]
        refine wpAnyH_take (i := 3) (v := .int .i64 u') rfl (by kernel_rfl) (by kernel_rfl) (by kernel_rfl) (fun _ _ _ h => h) (Or.inl ⟨by kernel_rfl, ?_⟩) (by assumption) ?_
        · intro w9 hSw; (try dsimp only at hSw); go_simp
        simp only [Act.put, List.getElem_toArray, List.getElem_cons_succ, List.getElem_cons_zero, List.setIfInBounds_toArray, List.set_cons_zero, List.set_cons_succ]
        refine wpAnyH_take (i := 4) (v := .int .i64 u) rfl (by kernel_rfl) (by kernel_rfl) (by kernel_rfl) (fun _ _ _ h => h) (Or.inl ⟨by kernel_rfl, ?_⟩) (by assumption) ?_
        · intro w9 hSw; (try dsimp only at hSw); go_simp
        simp only [Act.put, List.getElem_toArray, List.getElem_cons_succ, List.getElem_cons_zero, List.setIfInBounds_toArray, List.set_cons_zero, List.set_cons_succ]
        refine wpAnyH_take (i := 5) (v := .bool true) rfl (by kernel_rfl) (by kernel_rfl) (by kernel_rfl) (fun _ _ _ h => h) (Or.inl ⟨by kernel_rfl, ?_⟩) (by assumption) ?_
        · intro w9 hSw; (try dsimp only at hSw); go_simp
        simp only [Act.put, List.getElem_toArray, List.getElem_cons_succ, List.getElem_cons_zero, List.setIfInBounds_toArray, List.set_cons_zero, List.set_cons_succ]
        refine wpAnyH_take (i := 6) (v := .bool true) rfl (by kernel_rfl) (by kernel_rfl) (by kernel_rfl) (fun _ _ _ h => h) (Or.inl ⟨by kernel_rfl, ?_⟩) (by assumption) ?_
        · intro w9 hSw; (try dsimp only at hSw); go_simp
        simp only [Act.put, List.getElem_toArray, List.getElem_cons_succ, List.getElem_cons_zero, List.setIfInBounds_toArray, List.set_cons_zero, List.set_cons_succ]
        refine wpAnyH_take (i := 7) (v := .slice av u cv) rfl (by kernel_rfl) (by kernel_rfl) (by kernel_rfl) (fun _ _ _ h => h) (Or.inl ⟨by kernel_rfl, ?_⟩) (by assumption) ?_
        · intro w9 hSw; (try dsimp only at hSw); go_simp
        simp only [Act.put, List.getElem_toArray, List.getElem_cons_succ, List.getElem_cons_zero, List.setIfInBounds_toArray, List.set_cons_zero, List.set_cons_succ]
        refine wpAnyH_take (i := 8) (v := .slice aw u' cw) rfl (by kernel_rfl) (by kernel_rfl) (by kernel_rfl) (fun _ _ _ h => h) (Or.inl ⟨by kernel_rfl, ?_⟩) (by assumption) ?_
        · intro w9 hSw; (try dsimp only at hSw); go_simp
        simp only [Act.put, List.getElem_toArray, List.getElem_cons_succ, List.getElem_cons_zero, List.setIfInBounds_toArray, List.set_cons_zero, List.set_cons_succ]
        refine wpAnyH_take (i := 9) (v := .int .i64 u') rfl (by kernel_rfl) (by kernel_rfl) (by kernel_rfl) (fun _ _ _ h => h) (Or.inl ⟨by kernel_rfl, ?_⟩) (by assumption) ?_
        · intro w9 hSw; (try dsimp only at hSw); go_simp
        simp only [Act.put, List.getElem_toArray, List.getElem_cons_succ, List.getElem_cons_zero, List.setIfInBounds_toArray, List.set_cons_zero, List.set_cons_succ]
        refine wpAnyH_take (i := 10) (v := .slice av u' cv) rfl (by kernel_rfl) (by kernel_rfl) (by kernel_rfl) (fun _ _ _ h => h) (Or.inl ⟨by kernel_rfl, ?_⟩) (by assumption) ?_
        · intro w9 hSw; (try dsimp only at hSw); go_simp
        simp only [Act.put, List.getElem_toArray, List.getElem_cons_succ, List.getElem_cons_zero, List.setIfInBounds_toArray, List.set_cons_zero, List.set_cons_succ]
        refine wpAnyH_take (i := 11) (v := .string S3) rfl (by kernel_rfl) (by kernel_rfl) (by kernel_rfl) (fun _ _ _ h => h) (Or.inl ⟨by kernel_rfl, ?_⟩) (by assumption) ?_
        · intro w9 hSw; (try dsimp only at hSw); go_simp
        simp only [Act.put, List.getElem_toArray, List.getElem_cons_succ, List.getElem_cons_zero, List.setIfInBounds_toArray, List.set_cons_zero, List.set_cons_succ]
        refine wpAnyH_take (i := 12) (v := .slice aw u' cw) rfl (by kernel_rfl) (by kernel_rfl) (by kernel_rfl) (fun _ _ _ h => h) (Or.inl ⟨by kernel_rfl, ?_⟩) (by assumption) ?_
        · intro w9 hSw; (try dsimp only at hSw); go_simp
        simp only [Act.put, List.getElem_toArray, List.getElem_cons_succ, List.getElem_cons_zero, List.setIfInBounds_toArray, List.set_cons_zero, List.set_cons_succ]
        refine wpAnyH_take (i := 13) (v := .string S3) rfl (by kernel_rfl) (by kernel_rfl) (by kernel_rfl) (fun _ _ _ h => h) (Or.inl ⟨by kernel_rfl, ?_⟩) (by assumption) ?_
        · intro w9 hSw; (try dsimp only at hSw); go_simp
        simp only [Act.put, List.getElem_toArray, List.getElem_cons_succ, List.getElem_cons_zero, List.setIfInBounds_toArray, List.set_cons_zero, List.set_cons_succ]
        refine wpAnyH_take (i := 14) (v := .bool true) rfl (by kernel_rfl) (by kernel_rfl) (by kernel_rfl) (fun _ _ _ h => h) (Or.inl ⟨by kernel_rfl, ?_⟩) (by assumption) ?_
        · intro w9 hSw; (try dsimp only at hSw); go_simp
        simp only [Act.put, List.getElem_toArray, List.getElem_cons_succ, List.getElem_cons_zero, List.setIfInBounds_toArray, List.set_cons_zero, List.set_cons_succ]
        refine wpAnyH_take (i := 15) (v := .bool true) rfl (by kernel_rfl) (by kernel_rfl) (by kernel_rfl) (fun _ _ _ h => h) (Or.inl ⟨by kernel_rfl, ?_⟩) (by assumption) ?_
        · intro w9 hSw; (try dsimp only at hSw); go_simp
        simp only [Act.put, List.getElem_toArray, List.getElem_cons_succ, List.getElem_cons_zero, List.setIfInBounds_toArray, List.set_cons_zero, List.set_cons_succ]
        refine wpAnyH_done (by kernel_rfl) ?_ _
        have bF := bE.drew
        go_wp2
        go_roundw
        case rel => exact ⟨j + 1, by omega, by go_num, bF⟩
        case measure => simp [intOf]; omega
      · obtain ⟨S3, hS3⟩ : ∃ S3, S3 = strOfNums U := ⟨_, rfl⟩
        have cA : ∀ w', Below w7'.heap.size w7' w' → (convert 22 9 (.slice aw u cw)).run Try.prog w' = .ok (.string S3) w' := fun w' h9 => by
          have := own_convV HU.out.2 (own_later ho7 h9) u (by omega)
          rw [d2] at this; rw [hS3]; exact this
        have cB : ∀ w', Below w7'.heap.size w7' w' → (convert 22 9 (.slice av u cv)).run Try.prog w' = .ok (.string S3) w' := fun w' h9 => by
          have := own_convV HU.out.1 (own_later ho8 h9) u (Nat.le_refl _)
          rw [List.take_of_length_le (by rw [HU.out.1]; exact Nat.le_refl _)] at this; rw [hS3]; exact this
        have CA : Hid (∀ w', Below w7'.heap.size w7' w' → (convert 22 9 (.slice aw u cw)).run Try.prog w' = .ok (.string S3) w') := cA
        have CB : Hid (∀ w', Below w7'.heap.size w7' w' → (convert 22 9 (.slice av u cv)).run Try.prog w' = .ok (.string S3) w') := cB
        have e1 : (u : Int) + 1 = (u' : Int) := by omega
        have e2 : IntKind.i64.wrap (u' : Int) = (u' : Int) := wrap_i64_in _ (by omega) (by omega)
        have e5 : IntKind.i64.wrap ((u' : Int) + 1) = (u' : Int) + 1 := wrap_i64_in _ (by omega) (by omega)
        have e6 : ((u : Int) == (u' : Int) + 1) = false := by simp; omega
        have e3 : u ≤ cw := by omega
        have e4 : ¬ cw < u := by omega
        clear d1 d2 hS3 ho6 ho7 ho8 hb6 hb7 cA cB
        go_wp2_with fail
        refine wp_region_held_drew (S := fun w' => True) (by kernel_rfl) trivial (fun hHeld => ?_)
        refine wpAnyH_take (i := 0) (v := .slice av u cv) rfl (by kernel_rfl) (by kernel_rfl) (by kernel_rfl) (fun _ _ _ h => h) (Or.inl ⟨by kernel_rfl, ?_⟩) (by assumption) ?_
        · intro w9 hSw; (try dsimp only at hSw); go_simp
        simp only [Act.put, List.getElem_toArray, List.getElem_cons_succ, List.getElem_cons_zero, List.setIfInBounds_toArray, List.set_cons_zero, List.set_cons_succ]
        refine wpAnyH_take (i := 1) (v := .int .i64 u) rfl (by kernel_rfl) (by kernel_rfl) (by kernel_rfl) (fun _ _ _ h => h) (Or.inl ⟨by kernel_rfl, ?_⟩) (by assumption) ?_
        · intro w9 hSw; (try dsimp only at hSw); go_simp
        simp only [Act.put, List.getElem_toArray, List.getElem_cons_succ, List.getElem_cons_zero, List.setIfInBounds_toArray, List.set_cons_zero, List.set_cons_succ]
        refine wpAnyH_take (i := 2) (v := .slice aw u' cw) rfl (by kernel_rfl) (by kernel_rfl) (by kernel_rfl) (fun _ _ _ h => h) (Or.inl ⟨by kernel_rfl, ?_⟩) (by assumption) ?_
        · intro w9 hSw; (try dsimp only at hSw); go_simp
        simp only [Act.put, List.getElem_toArray, List.getElem_cons_succ, List.getElem_cons_zero, List.setIfInBounds_toArray, List.set_cons_zero, List.set_cons_succ]
        refine wpAnyH_take (i := 3) (v := .int .i64 u') rfl (by kernel_rfl) (by kernel_rfl) (by kernel_rfl) (fun _ _ _ h => h) (Or.inl ⟨by kernel_rfl, ?_⟩) (by assumption) ?_
        · intro w9 hSw; (try dsimp only at hSw); go_simp
        simp only [Act.put, List.getElem_toArray, List.getElem_cons_succ, List.getElem_cons_zero, List.setIfInBounds_toArray, List.set_cons_zero, List.set_cons_succ]
        refine wpAnyH_take (i := 4) (v := .int .i64 ((u' : Int) + 1)) rfl (by kernel_rfl) (by kernel_rfl) (by kernel_rfl) (fun _ _ _ h => h) (Or.inl ⟨by kernel_rfl, ?_⟩) (by assumption) ?_
        · intro w9 hSw; (try dsimp only at hSw); go_simp
        simp only [Act.put, List.getElem_toArray, List.getElem_cons_succ, List.getElem_cons_zero, List.setIfInBounds_toArray, List.set_cons_zero, List.set_cons_succ]
        refine wpAnyH_take (i := 5) (v := .bool false) rfl (by kernel_rfl) (by kernel_rfl) (by kernel_rfl) (fun _ _ _ h => h) (Or.inl ⟨by kernel_rfl, ?_⟩) (by assumption) ?_
        · intro w9 hSw; (try dsimp only at hSw); go_simp
        simp only [Act.put, List.getElem_toArray, List.getElem_cons_succ, List.getElem_cons_zero, List.setIfInBounds_toArray, List.set_cons_zero, List.set_cons_succ]
        refine wpAnyH_take (i := 6) (v := .bool false) rfl (by kernel_rfl) (by kernel_rfl) (by kernel_rfl) (fun _ _ _ h => h) (Or.inl ⟨by kernel_rfl, ?_⟩) (by assumption) ?_
        · intro w9 hSw; (try dsimp only at hSw); go_simp
        simp only [Act.put, List.getElem_toArray, List.getElem_cons_succ, List.getElem_cons_zero, List.setIfInBounds_toArray, List.set_cons_zero, List.set_cons_succ]
        refine wpAnyH_take (i := 7) (v := undef) rfl (by kernel_rfl) (by kernel_rfl) (by kernel_rfl) (fun _ _ _ h => h) (Or.inr ⟨by kernel_rfl, rfl⟩) (by assumption) ?_
        simp only [Act.put, List.getElem_toArray, List.getElem_cons_succ, List.getElem_cons_zero, List.setIfInBounds_toArray, List.set_cons_zero, List.set_cons_succ]
        refine wpAnyH_take (i := 8) (v := undef) rfl (by kernel_rfl) (by kernel_rfl) (by kernel_rfl) (fun _ _ _ h => h) (Or.inr ⟨by kernel_rfl, rfl⟩) (by assumption) ?_
        simp only [Act.put, List.getElem_toArray, List.getElem_cons_succ, List.getElem_cons_zero, List.setIfInBounds_toArray, List.set_cons_zero, List.set_cons_succ]
        refine wpAnyH_take (i := 9) (v := undef) rfl (by kernel_rfl) (by kernel_rfl) (by kernel_rfl) (fun _ _ _ h => h) (Or.inr ⟨by kernel_rfl, rfl⟩) (by assumption) ?_
        simp only [Act.put, List.getElem_toArray, List.getElem_cons_succ, List.getElem_cons_zero, List.setIfInBounds_toArray, List.set_cons_zero, List.set_cons_succ]
        refine wpAnyH_take (i := 10) (v := undef) rfl (by kernel_rfl) (by kernel_rfl) (by kernel_rfl) (fun _ _ _ h => h) (Or.inr ⟨by kernel_rfl, rfl⟩) (by assumption) ?_
        simp only [Act.put, List.getElem_toArray, List.getElem_cons_succ, List.getElem_cons_zero, List.setIfInBounds_toArray, List.set_cons_zero, List.set_cons_succ]
        refine wpAnyH_take (i := 11) (v := undef) rfl (by kernel_rfl) (by kernel_rfl) (by kernel_rfl) (fun _ _ _ h => h) (Or.inr ⟨by kernel_rfl, rfl⟩) (by assumption) ?_
        simp only [Act.put, List.getElem_toArray, List.getElem_cons_succ, List.getElem_cons_zero, List.setIfInBounds_toArray, List.set_cons_zero, List.set_cons_succ]
        refine wpAnyH_take (i := 12) (v := undef) rfl (by kernel_rfl) (by kernel_rfl) (by kernel_rfl) (fun _ _ _ h => h) (Or.inr ⟨by kernel_rfl, rfl⟩) (by assumption) ?_
        simp only [Act.put, List.getElem_toArray, List.getElem_cons_succ, List.getElem_cons_zero, List.setIfInBounds_toArray, List.set_cons_zero, List.set_cons_succ]
        refine wpAnyH_take (i := 13) (v := undef) rfl (by kernel_rfl) (by kernel_rfl) (by kernel_rfl) (fun _ _ _ h => h) (Or.inr ⟨by kernel_rfl, rfl⟩) (by assumption) ?_
        simp only [Act.put, List.getElem_toArray, List.getElem_cons_succ, List.getElem_cons_zero, List.setIfInBounds_toArray, List.set_cons_zero, List.set_cons_succ]
        refine wpAnyH_take (i := 14) (v := undef) rfl (by kernel_rfl) (by kernel_rfl) (by kernel_rfl) (fun _ _ _ h => h) (Or.inr ⟨by kernel_rfl, rfl⟩) (by assumption) ?_
        simp only [Act.put, List.getElem_toArray, List.getElem_cons_succ, List.getElem_cons_zero, List.setIfInBounds_toArray, List.set_cons_zero, List.set_cons_succ]
        refine wpAnyH_take (i := 15) (v := .bool false) rfl (by kernel_rfl) (by kernel_rfl) (by kernel_rfl) (fun _ _ _ h => h) (Or.inl ⟨by kernel_rfl, ?_⟩) (by assumption) ?_
        · intro w9 hSw; (try dsimp only at hSw); go_simp
        simp only [Act.put, List.getElem_toArray, List.getElem_cons_succ, List.getElem_cons_zero, List.setIfInBounds_toArray, List.set_cons_zero, List.set_cons_succ]
        refine wpAnyH_done (by kernel_rfl) ?_ _
        have kA := CA.out w7'.drew.drew ((Below.refl _ _).drew.drew)
        have kB := CB.out w7'.drew.drew ((Below.refl _ _).drew.drew)
        have bF := bE.drew.drew
        go_wp2_with fail
        refine wp_region_held_drew (S := fun w' => (convert 22 9 (.slice aw u cw)).run Try.prog w' = .ok (.string S3) w' ∧ (convert 22 9 (.slice av u cv)).run Try.prog w' = .ok (.string S3) w') (by kernel_rfl) ⟨kA, kB⟩ (fun hHeld => ?_)
        refine wpAnyH_take (i := 0) (v := .slice aw u' cw) rfl (by kernel_rfl) (by kernel_rfl) (by kernel_rfl) (fun _ _ _ h => h) (Or.inl ⟨by kernel_rfl, ?_⟩) (by assumption) ?_
        · intro w9 hSw; (try dsimp only at hSw); go_simp
        simp only [Act.put, List.getElem_toArray, List.getElem_cons_succ, List.getElem_cons_zero, List.setIfInBounds_toArray, List.set_cons_zero, List.set_cons_succ]
        refine wpAnyH_take (i := 1) (v := .int .i64 u') rfl (by kernel_rfl) (by kernel_rfl) (by kernel_rfl) (fun _ _ _ h => h) (Or.inl ⟨by kernel_rfl, ?_⟩) (by assumption) ?_
        · intro w9 hSw; (try dsimp only at hSw); go_simp
        simp only [Act.put, List.getElem_toArray, List.getElem_cons_succ, List.getElem_cons_zero, List.setIfInBounds_toArray, List.set_cons_zero, List.set_cons_succ]
        refine wpAnyH_take (i := 2) (v := .slice av u cv) rfl (by kernel_rfl) (by kernel_rfl) (by kernel_rfl) (fun _ _ _ h => h) (Or.inl ⟨by kernel_rfl, ?_⟩) (by assumption) ?_
        · intro w9 hSw; (try dsimp only at hSw); go_simp
        simp only [Act.put, List.getElem_toArray, List.getElem_cons_succ, List.getElem_cons_zero, List.setIfInBounds_toArray, List.set_cons_zero, List.set_cons_succ]
        refine wpAnyH_take (i := 3) (v := .int .i64 u) rfl (by kernel_rfl) (by kernel_rfl) (by kernel_rfl) (fun _ _ _ h => h) (Or.inl ⟨by kernel_rfl, ?_⟩) (by assumption) ?_
        · intro w9 hSw; (try dsimp only at hSw); go_simp
        simp only [Act.put, List.getElem_toArray, List.getElem_cons_succ, List.getElem_cons_zero, List.setIfInBounds_toArray, List.set_cons_zero, List.set_cons_succ]
        refine wpAnyH_take (i := 4) (v := .int .i64 u') rfl (by kernel_rfl) (by kernel_rfl) (by kernel_rfl) (fun _ _ _ h => h) (Or.inl ⟨by kernel_rfl, ?_⟩) (by assumption) ?_
        · intro w9 hSw; (try dsimp only at hSw); go_simp
        simp only [Act.put, List.getElem_toArray, List.getElem_cons_succ, List.getElem_cons_zero, List.setIfInBounds_toArray, List.set_cons_zero, List.set_cons_succ]
        refine wpAnyH_take (i := 5) (v := .bool false) rfl (by kernel_rfl) (by kernel_rfl) (by kernel_rfl) (fun _ _ _ h => h) (Or.inl ⟨by kernel_rfl, ?_⟩) (by assumption) ?_
        · intro w9 hSw; (try dsimp only at hSw); go_simp
        simp only [Act.put, List.getElem_toArray, List.getElem_cons_succ, List.getElem_cons_zero, List.setIfInBounds_toArray, List.set_cons_zero, List.set_cons_succ]
        refine wpAnyH_take (i := 6) (v := .bool false) rfl (by kernel_rfl) (by kernel_rfl) (by kernel_rfl) (fun _ _ _ h => h) (Or.inl ⟨by kernel_rfl, ?_⟩) (by assumption) ?_
        · intro w9 hSw; (try dsimp only at hSw); go_simp
        simp only [Act.put, List.getElem_toArray, List.getElem_cons_succ, List.getElem_cons_zero, List.setIfInBounds_toArray, List.set_cons_zero, List.set_cons_succ]
        refine wpAnyH_take (i := 7) (v := .slice aw u' cw) rfl (by kernel_rfl) (by kernel_rfl) (by kernel_rfl) (fun _ _ _ h => h) (Or.inl ⟨by kernel_rfl, ?_⟩) (by assumption) ?_
        · intro w9 hSw; (try dsimp only at hSw); go_simp
        simp only [Act.put, List.getElem_toArray, List.getElem_cons_succ, List.getElem_cons_zero, List.setIfInBounds_toArray, List.set_cons_zero, List.set_cons_succ]
        refine wpAnyH_take (i := 8) (v := .slice av u cv) rfl (by kernel_rfl) (by kernel_rfl) (by kernel_rfl) (fun _ _ _ h => h) (Or.inl ⟨by kernel_rfl, ?_⟩) (by assumption) ?_
        · intro w9 hSw; (try dsimp only at hSw); go_simp
        simp only [Act.put, List.getElem_toArray, List.getElem_cons_succ, List.getElem_cons_zero, List.setIfInBounds_toArray, List.set_cons_zero, List.set_cons_succ]
        refine wpAnyH_take (i := 9) (v := .int .i64 u) rfl (by kernel_rfl) (by kernel_rfl) (by kernel_rfl) (fun _ _ _ h => h) (Or.inl ⟨by kernel_rfl, ?_⟩) (by assumption) ?_
        · intro w9 hSw; (try dsimp only at hSw); go_simp
        simp only [Act.put, List.getElem_toArray, List.getElem_cons_succ, List.getElem_cons_zero, List.setIfInBounds_toArray, List.set_cons_zero, List.set_cons_succ]
        refine wpAnyH_take (i := 10) (v := .slice aw u cw) rfl (by kernel_rfl) (by kernel_rfl) (by kernel_rfl) (fun _ _ _ h => h) (Or.inl ⟨by kernel_rfl, ?_⟩) (by assumption) ?_
        · intro w9 hSw; (try dsimp only at hSw); go_simp
        simp only [Act.put, List.getElem_toArray, List.getElem_cons_succ, List.getElem_cons_zero, List.setIfInBounds_toArray, List.set_cons_zero, List.set_cons_succ]
        refine wpAnyH_take (i := 11) (v := .string S3) rfl (by kernel_rfl) (by kernel_rfl) (by kernel_rfl) (fun _ _ _ h => h) (Or.inl ⟨by kernel_rfl, ?_⟩) (by assumption) ?_
        · intro w9 hSw; (try dsimp only at hSw); go_simp
        simp only [Act.put, List.getElem_toArray, List.getElem_cons_succ, List.getElem_cons_zero, List.setIfInBounds_toArray, List.set_cons_zero, List.set_cons_succ]
        refine wpAnyH_take (i := 12) (v := .slice av u cv) rfl (by kernel_rfl) (by kernel_rfl) (by kernel_rfl) (fun _ _ _ h => h) (Or.inl ⟨by kernel_rfl, ?_⟩) (by assumption) ?_
        · intro w9 hSw; (try dsimp only at hSw); go_simp
        simp only [Act.put, List.getElem_toArray, List.getElem_cons_succ, List.getElem_cons_zero, List.setIfInBounds_toArray, List.set_cons_zero, List.set_cons_succ]
        refine wpAnyH_take (i := 13) (v := .string S3) rfl (by kernel_rfl) (by kernel_rfl) (by kernel_rfl) (fun _ _ _ h => h) (Or.inl ⟨by kernel_rfl, ?_⟩) (by assumption) ?_
        · intro w9 hSw; (try dsimp only at hSw); go_simp
        simp only [Act.put, List.getElem_toArray, List.getElem_cons_succ, List.getElem_cons_zero, List.setIfInBounds_toArray, List.set_cons_zero, List.set_cons_succ]
        refine wpAnyH_take (i := 14) (v := .bool false) rfl (by kernel_rfl) (by kernel_rfl) (by kernel_rfl) (fun _ _ _ h => h) (Or.inl ⟨by kernel_rfl, ?_⟩) (by assumption) ?_
        · intro w9 hSw; (try dsimp only at hSw); go_simp
        simp only [Act.put, List.getElem_toArray, List.getElem_cons_succ, List.getElem_cons_zero, List.setIfInBounds_toArray, List.set_cons_zero, List.set_cons_succ]
        refine wpAnyH_take (i := 15) (v := .bool false) rfl (by kernel_rfl) (by kernel_rfl) (by kernel_rfl) (fun _ _ _ h => h) (Or.inl ⟨by kernel_rfl, ?_⟩) (by assumption) ?_
        · intro w9 hSw; (try dsimp only at hSw); go_simp
        simp only [Act.put, List.getElem_toArray, List.getElem_cons_succ, List.getElem_cons_zero, List.setIfInBounds_toArray, List.set_cons_zero, List.set_cons_succ]
        refine wpAnyH_done (by kernel_rfl) ?_ _
        go_wp2
        go_roundw
        case rel => exact ⟨j + 1, by omega, by go_num, bF⟩
        case measure => simp [intOf]; omega
    · have e : j = T := by omega
      subst e
      by_cases hT0' : j = 0
      · subst hT0'
        have hxy : xs = ys := tear_same xs ys HPP.out.2.2.symm
        have c1 := qb wr hbel
        have c2 := qd wr hbel
        have hss : S2 = S1 := by rw [HX5.out.2.2.2.1, HX5.out.2.2.2.2, hxy]
        have hst : (S1.toList == S2.toList) = true := by rw [hss]; simp
        have orow := own_later HX5.out.1 hbel
        have rrow : Rd wr (some ⟨g, 0, none⟩) bs := rd_own HB.out.1 HB.out.2 orow
        have qT : Hid (Calls Try.prog 7 #[.slice (some ⟨g, 0, none⟩) m cp, .slice (some ⟨g, 0, none⟩) m cp, .int .i64 5] wr fun e w' => ∃ av cv, e = .returned (.slice av m cv) ∧ w'.ownsRow wr.heap.size 5 1 (.slice av m cv) m (bs.map (Value.int .u8)) ∧ m ≤ cv ∧ cv ≤ maxLen ∧ Below wr.heap.size wr w') :=
          tear_row _ m cp _ m cp bs bs 5 wr HB.out.1 HB.out.1 rrow rrow (by omega) (by omega) hcp1 hcp1 (by unfold maxLen; omega) (by unfold maxLen; omega) (fun h => by cases h) (fun h => by cases h) (by omega) (by omega) bs m (tear_self bs 5) HB.out.1
        obtain ⟨HX, hHX⟩ : ∃ HX, HX = strOfNums (hexk bs m) := ⟨_, rfl⟩
        have hHs : HX.size = 2 * m := by rw [hHX, strOfNums_size, hexk_len]
        have qH : Hid (∀ w', Below wr.heap.size wr w' → Calls Try.prog 8 #[.slice (some ⟨g, 0, none⟩) m cp] w' fun e w'' => e = .returned (.string HX) ∧ Below w'.heap.size w' w'') := fun w' h9 => by
          rw [hHX]; exact implHex_any _ m cp bs w' HB.out.1 (rrow.later h9) (by omega)
        have bwr2 := HB5.out.trans (hbel.mono HB5.out.size)
        have hw2 : IntKind.i64.wrap (2 * (m : Int)) = 2 * (m : Int) := wrap_i64_in _ (by omega) (by omega)
        have hwe : ((HX.size : Int) == 2 * (m : Int)) = true := by rw [hHs]; simp
        clear hxy hss orow rrow hHX hHs
        go_wp2_with fail
        refine qT.out.mono ?_
        rintro e w6 ⟨av, cv, rfl, ho6, hv1, hv2, hb6⟩
        clear ho6
        go_wp2_with fail
        refine (qH.out _ hb6).mono ?_
        rintro e w7' ⟨rfl, hb7⟩
        have bE := bwr2.trans ((hb6.trans (hb7.mono hb6.size)).mono bwr2.size)
        go_wp2
        go_ret
        exact ⟨rfl, bE⟩
      · have hT1 : decide ((0 : Int) < (j : Int)) = true := by simp; omega
        have hT2 : decide (0 < j) = true := by simp; omega
        have bE := HB5.out.trans (hbel.mono HB5.out.size)
        go_wp2
        go_ret
        exact ⟨rfl, bE⟩

end Go.Proofs.Ytnifmkhijebamaa
