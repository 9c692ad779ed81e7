/-
  Parts and Lines, the program's: strings.Split, then each piece copied.
-/
import Derived.Test.YtmikibekioekmaeDoorCutS
import Derived.Test.YtmikibekioekmaeDoorShelf
namespace Go.Proofs.YtmikibekioekmaeDoor
open Go.RowKit
set_option linter.unusedVariables false

set_option maxHeartbeats 400000 in
theorem clone_any (s : ByteArray) (w : World) (h : s.size ≤ 1048576) :
    Calls Tryd.prog 29 #[.string s] w fun e w' => e = .returned (.string s) ∧ Below w.heap.size w w' := by
  go_enter Tryd.func29, Tryd.ntmps29
  go_wp2_with fail
  refine (Tryd.stringslite_Clone s _ (by omega)).mono ?_
  rintro e w' ⟨rfl, hb⟩
  go_wp2
  go_ret
  exact ⟨rfl, hb⟩

set_option maxRecDepth 100000 in
set_option maxHeartbeats 1000000 in
theorem copyTexts_any (a : Option Addr) (n cap : Nat) (xs : List ByteArray) (w : World) (hl : Hid (xs.length = n)) (hr : RdS w a xs) (hn : n ≤ 2097152) (hsz : ∀ i : Nat, (xs[i]?.getD ByteArray.empty).size ≤ 1048576) :
    Calls Tryd.prog 21 #[.slice a n cap] w fun e w' => ∃ g cp : Nat, e = .returned (.slice (some ⟨g, 0, none⟩) n cp) ∧
      w'.ownsRow w.heap.size 9 1 (.slice (some ⟨g, 0, none⟩) n cp) n (xs.map Value.string) ∧ Below w.heap.size w w' := by
  obtain ⟨i0, hi, hz0, hz1, hz2⟩ := info_parts Tryd.infoS
  go_enter Tryd.func21, Tryd.ntmps21
  go_wp2_with (at_make; refine wpList_make_own _ rfl _ _ 33 rfl w.heap.size 9 i0 (.string ByteArray.empty) 1 Tryd.underlying33 hi hz0 hz1 _ _ _ n rfl rfl ?b1 ?b2 ?b3 (Nat.le_refl _) ?_)
  case b1 => first | rfl | omega
  case b2 => (try rw [hz2]); omega
  case b3 => unfold maxLen; omega
  intro w0 hown0 hgrow0
  have hbel0 : Below w.heap.size w w0 := (Below.refl _ _).grown hgrow0 (Nat.le_refl _) (fun k h => by cases h)
  clear hgrow0
  go_wp2
  go_loopw [3, 11] (fun v i wr => ∃ k g cp : Nat, k ≤ n ∧ v = .slice (some ⟨g, 0, none⟩) k cp ∧ i = .int .i64 k ∧ wr.ownsRow w.heap.size 9 1 (.slice (some ⟨g, 0, none⟩) k cp) k ((xs.take k).map Value.string) ∧ Below w.heap.size w wr)
    (fun _ i _ => n - (intOf i).toNat)
  case atStart => exact ⟨0, _, _, Nat.zero_le _, rfl, rfl, by simpa using hown0, hbel0⟩
  case round =>
    obtain ⟨k, g, cp, hk, rfl, rfl, hown, hbel⟩ := hrel
    by_cases hlt : k < n
    · have hne : xs ≠ [] := by intro h; have := hl.out; subst h; simp at this; omega
      obtain ⟨b, off, rfl, hb, hc⟩ := hr.resolve_left hne
      obtain ⟨t, ht⟩ : ∃ t, t = xs[k]?.getD ByteArray.empty := ⟨_, rfl⟩
      have hcell : wr.cell? ⟨b, off + k, none⟩ = some (.string t) := by rw [ht]; exact (hbel.cell (p := ⟨b, off + k, none⟩) hb).trans (hc k (by have := hl.out; omega))
      have hts : t.size ≤ 1048576 := by rw [ht]; exact hsz k
      have HT : Hid (xs.take (k + 1) = xs.take k ++ [t]) := by
        have hkx : k < xs.length := by have := hl.out; omega
        show xs.take (k + 1) = _
        rw [List.take_succ_eq_append_getElem hkx, ht]
        simp [hkx]
      clear ht hc hne hr hsz hown0
      go_wp2_with fail
      refine (clone_any t _ hts).mono ?_
      rintro e w1 ⟨rfl, hb1⟩
      have hown1 := own_laterS hown hb1
      have hbel1 := hbel.trans (hb1.mono hbel.size)
      have hbs := hbel1.size
      have hg := hown1.lt g rfl
      clear hown
      go_wp2_with (at_builtin; refine wpList_append_lies _ rfl _ _ 33 rfl w.heap.size 9 i0 (.string ByteArray.empty) 1 16 Tryd.underlying33 hi hz0 hz1 hz2 rfl (by decide) _ k _ rfl (hown1.alloc _) ⟨_, 0, none⟩ 1 _ [.string t] rfl rfl ?c1 ?c2 (by omega) ?c3 ?c4 ?c5 _ rfl ?_)
      case c1 => exact cell_one_new _ _ _
      case c2 => intro u hu; simp at hu; subst hu; rfl
      case c3 => unfold maxLen; omega
      case c4 => omega
      case c5 => simp; omega
      intro gg cap1 w3 hown3 hgrow3 _ _
      have hbel3 : Below w.heap.size w w3 := (hbel1.alloc hbs _).grown hgrow3 (by simp; omega) (fun y h => by cases h; exact hg.1)
      have hown4 : w3.ownsRow w.heap.size 9 1 (.slice (some ⟨gg, 0, none⟩) (k + 1) cap1) (k + 1) ((xs.take (k + 1)).map Value.string) := by
        rw [HT.out, List.map_append]
        first | exact hown3 | simpa using hown3
      clear hown3 hgrow3 hown1
      go_wp2
      go_roundw
      case rel => exact ⟨k + 1, gg, cap1, by omega, rfl, by go_num, hown4, hbel3⟩
      case measure => simp [intOf]; omega
    · have e : k = n := by omega
      subst e
      have e2 : xs.take k = xs := List.take_of_length_le (by have := hl.out; omega)
      rw [e2] at hown
      go_wp2
      go_ret
      exact ⟨g, cp, rfl, hown, hbel⟩

/-- The library's own length table: some integer. -/
def MaxOk (w : World) : Prop := 2 < w.heap.size ∧ ∃ m, w.cell? ⟨2, 0, none⟩ = some (.int .i64 m)
theorem MaxOk.later {w w' : World} (h : MaxOk w) (hb : Below w.heap.size w w') : MaxOk w' :=
  ⟨Nat.lt_of_lt_of_le h.1 hb.size, by obtain ⟨m, hm⟩ := h.2; exact ⟨m, (hb.cell (p := ⟨2, 0, none⟩) h.1).trans hm⟩⟩

theorem toB_size (p : List UInt8) : (toB p).size = p.length := by simp [toB, ByteArray.size]

theorem pcs_each (c : UInt8) : ∀ (l : List UInt8) (p : List UInt8), p ∈ pcs c l → p.length ≤ l.length
  | [], p, h => by simp [pcs] at h; subst h; simp
  | b :: l, p, h => by
    unfold pcs at h
    split at h
    · rcases List.mem_cons.1 h with rfl | h
      · simp
      · have := pcs_each c l p h; simp; omega
    · cases hp : pcs c l with
      | nil => exact absurd hp (pcs_ne c l)
      | cons q r =>
        rw [hp] at h
        simp only [List.headD_cons, List.tail_cons] at h
        rcases List.mem_cons.1 h with rfl | h
        · have := pcs_each c l q (by rw [hp]; simp); simp; omega
        · have := pcs_each c l p (by rw [hp]; simp [h]); simp; omega

theorem pcsB_size (c : UInt8) (s : ByteArray) (h : s.size ≤ 1048576) (i : Nat) : ((pcsB c s)[i]?.getD ByteArray.empty).size ≤ 1048576 := by
  unfold pcsB
  rw [List.getElem?_map]
  cases hp : (pcs c s.data.toList)[i]? with
  | none => simp
  | some p =>
    have := pcs_each c _ p (List.mem_of_getElem? hp)
    have e : s.data.toList.length = s.size := by simp
    simp only [Option.map_some, Option.getD_some]
    rw [toB_size]; omega

theorem pcsB_len (c : UInt8) (s : ByteArray) : 1 ≤ (pcsB c s).length ∧ (pcsB c s).length ≤ s.size + 1 := by
  have h1 := pcs_len c s.data.toList
  have h2 := pcs_ne c s.data.toList
  have e : s.data.toList.length = s.size := by simp
  unfold pcsB
  rw [List.length_map]
  refine ⟨?_, by omega⟩
  cases hp : pcs c s.data.toList with
  | nil => exact absurd hp h2
  | cons => simp

theorem split_any (c : UInt8) (s : ByteArray) (w : World) (h : s.size ≤ 1048576) (hm : MaxOk w) :
    Calls Tryd.prog 22 #[.string s, .string ⟨#[c]⟩] w fun e w' => e = .returned (.slice (some ⟨w.heap.size, 0, none⟩) (pcsB c s).length (pcsB c s).length) ∧
      w'.ownsRow w.heap.size 9 1 (.slice (some ⟨w.heap.size, 0, none⟩) (pcsB c s).length (pcsB c s).length) (pcsB c s).length ((pcsB c s).map Value.string) ∧ Below w.heap.size w w' := by
  obtain ⟨m, hm'⟩ := hm.2
  have hlen := pcsB_len c s
  refine (Tryd.strings_Split s ⟨#[c]⟩ m w (by omega) hm' (Nat.le_refl 1)).mono ?_
  rintro e w' ⟨rfl, rfl⟩
  rw [splitB_pcs, countB_pcs]
  refine ⟨rfl, ?_, (Below.refl _ _).alloc (Nat.le_refl _) _⟩
  have := World.ownsRow_lit (base := w.heap.size) (e := 9) (size := 1) w ((pcsB c s).map Value.string).toArray (pcsB c s).length (Nat.le_refl _) (by unfold maxLen; omega) (by simp)
  simpa using this

set_option maxHeartbeats 400000 in
theorem implParts_any (s : ByteArray) (w : World) (hn : s.size ≤ 1048576) (hm : MaxOk w) :
    Calls Tryd.prog 12 #[.string s] w fun e w' => ∃ g cp : Nat, e = .returned (.slice (some ⟨g, 0, none⟩) (pcsB 32 s).length cp) ∧
      w'.ownsRow w.heap.size 9 1 (.slice (some ⟨g, 0, none⟩) (pcsB 32 s).length cp) (pcsB 32 s).length ((pcsB 32 s).map Value.string) ∧ Below w.heap.size w w' := by
  have hlen := pcsB_len 32 s
  have hsz := pcsB_size 32 s hn
  have HM : Hid (MaxOk w) := hm
  clear hm
  obtain ⟨xs, hxs⟩ : ∃ xs, xs = pcsB 32 s := ⟨_, rfl⟩
  have HX : Hid (xs = pcsB 32 s) := hxs
  rw [← hxs] at hlen hsz ⊢
  clear hxs
  obtain ⟨n, hnn⟩ : ∃ n, n = xs.length := ⟨_, rfl⟩
  have HN : Hid (xs.length = n) := hnn.symm
  rw [← hnn] at hlen ⊢
  clear hnn
  have HZ : Hid (∀ i : Nat, (xs[i]?.getD ByteArray.empty).size ≤ 1048576) := hsz
  clear hsz
  go_enter Tryd.func12, Tryd.ntmps12
  go_wp2_with fail
  refine (split_any 32 s _ hn HM.out).mono ?_
  rintro e w1 ⟨rfl, ho1, hb1⟩
  rw [← HX.out, HN.out]
  rw [← HX.out, HN.out] at ho1
  go_wp2_with fail
  refine (copyTexts_any _ n _ xs _ HN (rdS_own HN.out ho1) (by omega) HZ.out).mono ?_
  rintro e w2 ⟨g, cp, rfl, ho2, hb2⟩
  have hg := ho2.lt g rfl
  have hs1 := hb1.size
  have ho2' : w2.ownsRow w.heap.size 9 1 (.slice (some ⟨g, 0, none⟩) n cp) n (xs.map Value.string) := by
    refine ⟨ho2.1, ?_⟩
    rcases ho2.2 with ⟨h1, _⟩ | ⟨g', cap', cur, hv, _, r⟩
    · simp at h1
    · simp only [Value.slice.injEq, Option.some.injEq, Addr.mk.injEq, and_true, true_and] at hv
      obtain ⟨rfl, rfl⟩ := hv
      exact .inr ⟨g, cp, cur, rfl, by omega, r⟩
  clear ho2
  go_wp2
  go_ret
  exact ⟨g, cp, rfl, ho2', hb1.trans (hb2.mono hb1.size)⟩

theorem own_down {w : World} {base base' g n cp : Nat} {xs : List Value} (h : w.ownsRow base 9 1 (.slice (some ⟨g, 0, none⟩) n cp) n xs) (hb : base' ≤ base) : w.ownsRow base' 9 1 (.slice (some ⟨g, 0, none⟩) n cp) n xs := by
  refine ⟨h.1, ?_⟩
  rcases h.2 with ⟨h1, _⟩ | ⟨g', cap', cur, hv, hg, r⟩
  · simp at h1
  · exact .inr ⟨g', cap', cur, hv, by omega, r⟩

theorem empty_of {s : ByteArray} (h : s.size = 0) : s.toList.isEmpty = true := by
  rw [ByteArray.toList_eq]
  have : s.data.toList.length = s.size := by simp
  cases hs : s.data.toList with
  | nil => rfl
  | cons a l => rw [hs] at this; simp at this; omega

theorem full_ofS {s : ByteArray} (h : 1 ≤ s.size) : s.toList.isEmpty = false := by
  rw [ByteArray.toList_eq]
  have : s.data.toList.length = s.size := by simp
  cases hs : s.data.toList with
  | nil => rw [hs] at this; simp at this; omega
  | cons a l => rfl

set_option maxHeartbeats 1000000 in
theorem implLines_any (s : ByteArray) (w : World) (hn : s.size ≤ 1048576) (hm : MaxOk w) :
    Calls Tryd.prog 13 #[.string s] w fun e w' => ∃ g cp : Nat, e = .returned (.slice (some ⟨g, 0, none⟩) (linB 10 s).length cp) ∧
      w'.ownsRow w.heap.size 9 1 (.slice (some ⟨g, 0, none⟩) (linB 10 s).length cp) (linB 10 s).length ((linB 10 s).map Value.string) ∧ Below w.heap.size w w' := by
  have hlen := pcsB_len 10 s
  have hsz := pcsB_size 10 s hn
  have HM : Hid (MaxOk w) := hm
  clear hm
  obtain ⟨xs, hxs⟩ : ∃ xs, xs = pcsB 10 s := ⟨_, rfl⟩
  have HX : Hid (xs = pcsB 10 s) := hxs
  have hlast : linB 10 s = if (xs.getLastD ByteArray.empty).size = 0 then xs.dropLast else xs := by rw [hxs]; rfl
  rw [← hxs] at hlen hsz
  clear hxs
  obtain ⟨n, hnn⟩ : ∃ n, xs.length = n + 1 := ⟨xs.length - 1, by omega⟩
  have HN : Hid (xs.length = n + 1) := hnn
  have hn1 : n ≤ 1048576 := by omega
  have HZ : Hid (∀ i : Nat, (xs[i]?.getD ByteArray.empty).size ≤ 1048576) := hsz
  obtain ⟨T, hT⟩ : ∃ T, T = xs[n]?.getD ByteArray.empty := ⟨_, rfl⟩
  have hTl : xs.getLastD ByteArray.empty = T := by
    rw [hT, List.getLastD_eq_getLast?, List.getLast?_eq_getElem?, hnn]
    rfl
  rw [hTl] at hlast
  have HT : Hid (T = xs[n]?.getD ByteArray.empty) := hT
  clear hsz hlen hT hTl hnn
  by_cases he : T.size = 0
  · rw [if_pos he] at hlast
    have HL : Hid (linB 10 s = xs.dropLast ∧ (linB 10 s).length = n) := ⟨hlast, by rw [hlast, List.length_dropLast, HN.out]; rfl⟩
    have HD : Hid (xs.dropLast.length = n) := by show _ = _; rw [List.length_dropLast, HN.out]; rfl
    have hte := empty_of he
    clear hlast he
    go_enter Tryd.func13, Tryd.ntmps13
    go_wp2_with fail
    refine (split_any 10 s _ hn HM.out).mono ?_
    rintro e w1 ⟨rfl, ho1, hb1⟩
    rw [← HX.out, HN.out]
    rw [← HX.out, HN.out] at ho1
    have hs1 := hb1.size
    have hc : w1.cell? ⟨w.heap.size, n, none⟩ = some (.string T) := by
      rw [ho1.cellAt n (by omega), HT.out]
      have : n < xs.length := by rw [HN.out]; omega
      simp [this]
    have hrd : RdS w1 (some ⟨w.heap.size, 0, none⟩) xs.dropLast := by
      refine .inr ⟨w.heap.size, 0, rfl, (ho1.lt _ rfl).2, fun i hi => ?_⟩
      rw [HD.out] at hi
      rw [Nat.zero_add, ho1.cellAt i (by omega)]
      have h1 : i < xs.length := by rw [HN.out]; omega
      rw [List.getElem?_dropLast, if_pos (by rw [HN.out]; omega)]
      simp [h1]
    have HZ2 : Hid (∀ i : Nat, (xs.dropLast[i]?.getD ByteArray.empty).size ≤ 1048576) := by
      intro i
      rw [List.getElem?_dropLast]
      split
      · exact HZ.out i
      · simp
    clear ho1
    go_wp2_with fail
    refine (copyTexts_any _ n _ xs.dropLast _ HD hrd (by omega) HZ2.out).mono ?_
    rintro e w2 ⟨g, cp, rfl, ho2, hb2⟩
    go_wp2
    go_ret
    refine ⟨g, cp, by rw [HL.out.2]; rfl, ?_, hb1.trans (hb2.mono hb1.size)⟩
    rw [HL.out.2, HL.out.1]
    exact own_down ho2 hs1
  · rw [if_neg he] at hlast
    have HL : Hid (linB 10 s = xs) := hlast
    have hte := full_ofS (show 1 ≤ T.size by omega)
    clear hlast he
    go_enter Tryd.func13, Tryd.ntmps13
    go_wp2_with fail
    refine (split_any 10 s _ hn HM.out).mono ?_
    rintro e w1 ⟨rfl, ho1, hb1⟩
    rw [← HX.out, HN.out]
    rw [← HX.out, HN.out] at ho1
    have hs1 := hb1.size
    have hc : w1.cell? ⟨w.heap.size, n, none⟩ = some (.string T) := by
      rw [ho1.cellAt n (by omega), HT.out]
      have : n < xs.length := by rw [HN.out]; omega
      simp [this]
    go_wp2_with fail
    refine (copyTexts_any _ (n + 1) _ xs _ HN (rdS_own HN.out ho1) (by omega) HZ.out).mono ?_
    rintro e w2 ⟨g, cp, rfl, ho2, hb2⟩
    go_wp2
    go_ret
    refine ⟨g, cp, by rw [HL.out, HN.out]; rfl, ?_, hb1.trans (hb2.mono hb1.size)⟩
    rw [HL.out, HN.out]
    exact own_down ho2 hs1

end Go.Proofs.YtmikibekioekmaeDoor
