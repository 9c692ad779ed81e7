/-
  RuneBegin, the model's: a text is filled up with the least and the greatest byte, and read.
-/
import Derived.Test.YtojalheohpkdoaaDoorRbgP
import Derived.Test.YtojalheohpkdoaaDoorRrd
import Derived.Test.YtojalheohpkdoaaDoorKeep
import Derived.Deep.AppendLies
namespace Go.Proofs.YtojalheohpkdoaaDoor
open Go.RowKit
set_option linter.unusedVariables false
set_option linter.unusedSimpArgs false

theorem own_capB {w : World} {base : Nat} {e : TypeId} {size g n cap : Nat} {xs : List Value} (h : w.ownsRow base e size (.slice (some ⟨g, 0, none⟩) n cap) n xs) : n ≤ cap ∧ cap ≤ maxLen := by
  rcases h.2 with ⟨h1, _⟩ | ⟨g', cap', cur, hv, hb, hg, hr, hm, _⟩
  · simp at h1
  · simp only [Value.slice.injEq, Option.some.injEq, Addr.mk.injEq, and_true, true_and] at hv
    obtain ⟨rfl, rfl⟩ := hv
    exact ⟨hr, hm⟩

theorem rra_size {zs : List Int} {k : Nat} (hb : ∀ i, 0 ≤ bt zs i ∧ bt zs i ≤ 255) (hl : zs.length = k) (h1 : 1 ≤ k) (h4 : k ≤ 4) : (rra zs 0).2 = (k : Int) ↔ hit zs 0 k := by
  have e : rra zs 0 = rrd zs 0 := by unfold rra; rw [if_neg (by omega)]; rfl
  rw [e]
  constructor
  · intro h
    by_cases hn : ∃ j, 1 ≤ j ∧ j ≤ 4 ∧ 0 + j ≤ zs.length ∧ hit zs 0 j
    · obtain ⟨j, j1, j4, jl, hj⟩ := hn
      rw [rrd_hit zs 0 j hb j1 j4 jl hj] at h
      have : j = k := by simp at h; omega
      subst this; exact hj
    · rw [rrd_none zs 0 hb (by omega) (fun j j1 j4 jl hj => hn ⟨j, j1, j4, jl, hj⟩)] at h
      simp at h; omega
  · intro h
    rw [rrd_hit zs 0 k hb h1 h4 (by omega) h]

theorem fillB_self (zs : List Int) (v : Int) : fillB zs zs.length v = zs := by simp [fillB]
theorem fillB_succ {zs : List Int} {j : Nat} (v : Int) (h : zs.length ≤ j) : fillB zs (j + 1) v = fillB zs j v ++ [v] := by
  unfold fillB
  rw [show j + 1 - zs.length = (j - zs.length) + 1 by omega, List.replicate_succ', List.append_assoc]

theorem own_lowB {w : World} {B B' n : Nat} {e : TypeId} {size : Nat} {v : Value} {xs : List Value} (h : w.ownsRow B e size v n xs) (hb : B' ≤ B) : w.ownsRow B' e size v n xs := by
  refine ⟨h.1, ?_⟩
  rcases h.2 with h1 | ⟨g, cap, cur, hv, hg, r⟩
  · exact .inl h1
  · exact .inr ⟨g, cap, cur, hv, Nat.le_trans hb hg, r⟩

def slen : Value → Nat
  | .slice _ n _ => n
  | _ => 0

theorem bt_fill {zs : List Int} (hz : ∀ i : Nat, 0 ≤ zs[i]?.getD 0 ∧ zs[i]?.getD 0 ≤ 255) (s : Nat) {v : Int} (hv : 0 ≤ v ∧ v ≤ 255) : ∀ i : Nat, 0 ≤ (fillB zs s v)[i]?.getD 0 ∧ (fillB zs s v)[i]?.getD 0 ≤ 255 :=
  fun i => fillB_bytes (zs := zs) s hv (fun i => hz i) i

set_option maxRecDepth 100000 in
set_option maxHeartbeats 4000000 in
theorem specRbg_mid (b off n cap : Nat) (zs : List Int) (w : World) (hl : zs.length = n) (hz : ∀ i : Nat, 0 ≤ zs[i]?.getD 0 ∧ zs[i]?.getD 0 ≤ 255) (hlt : b < w.heap.size)
    (hc : ∀ i, i < zs.length → w.cell? ⟨b, off + i, none⟩ = some (.int .u8 (zs[i]?.getD 0))) (hn1 : 1 ≤ n) (hn3 : n ≤ 3) (hcap : n ≤ cap) (hcm : cap ≤ maxLen) :
    Calls Tryd.prog 15 #[.slice (some ⟨b, off, none⟩) n cap] w fun e w' => e = .returned (.bool (rbgB zs)) ∧ Below w.heap.size w w' := by
  obtain ⟨i0, hi, hz0, hz1, hz2⟩ := info_parts Tryd.infoB
  unfold maxLen at hcm
  have HL : Hid (zs.length = n) := hl
  have HZ : Hid (∀ i : Nat, 0 ≤ zs[i]?.getD 0 ∧ zs[i]?.getD 0 ≤ 255) := hz
  have HC : Hid (∀ i, i < zs.length → w.cell? ⟨b, off + i, none⟩ = some (.int .u8 (zs[i]?.getD 0))) := hc
  have HI : Hid (rbgB zs = true ↔ (0 < zs.length ∧ zs.length ≤ 3 ∧ ∃ s, zs.length < s ∧ s ≤ 4 ∧ sizeP zs s)) := rbg_iff zs (fun i => hz i)
  have wn : IntKind.i64.wrap ((n : Int) + 1) = (n : Int) + 1 := wrap_i64_in _ (by omega) (by omega)
  clear hl hz hc
  go_enter Tryd.func15, Tryd.ntmps15
  go_wp2
  go_loopw [3] (fun i wr => ∃ k : Nat, i = .int .i64 k ∧ n + 1 ≤ k ∧ k ≤ 5 ∧ (∀ s, n < s → s < k → ¬ sizeP zs s) ∧ Below w.heap.size w wr) (fun i _ => 5 - (intOf i).toNat)
  case atStart => exact ⟨n + 1, by simp, by omega, by omega, fun s h1 h2 => by omega, Below.refl _ _⟩
  case round =>
    rename World => wo
    obtain ⟨k, rfl, hk1, hk5, hno, hbel⟩ := hrel
    have HNO : Hid (∀ s, n < s → s < k → ¬ sizeP zs s) := hno
    have HB : Hid (Below w.heap.size w wo) := hbel
    have hws := hbel.size
    clear hno hbel
    by_cases hlt4 : k ≤ 4
    · have src0 : ∀ w', Below w.heap.size w w' → ∀ (j : Nat) (u : Value), (zs.map (Value.int .u8))[j]? = some u → w'.cell? ((⟨b, off, none⟩ : Addr).add j) = some u := by
        intro w' hb' j u hu
        have hj : j < zs.length := by have := (List.getElem?_eq_some_iff.1 hu).1; simpa using this
        have e : (⟨b, off, none⟩ : Addr).add j = ⟨b, off + j, none⟩ := by cases j <;> simp [Addr.add]
        rw [e, hb'.cell (p := ⟨b, off + j, none⟩) hlt, HC.out j hj, ← hu]
        simp [hj]
      have SRC : Hid (∀ w', Below w.heap.size w w' → ∀ (j : Nat) (u : Value), (zs.map (Value.int .u8))[j]? = some u → w'.cell? ((⟨b, off, none⟩ : Addr).add j) = some u) := src0
      have hl1 : (zs.map (Value.int .u8)).length = n * 1 := by simp [HL.out]
      have HL1 : Hid _ := hl1
      clear src0 hl1
      have o00 := World.ownsRow_lit (base := wo.heap.size) (e := 5) (size := 1) wo #[] 0 (Nat.le_refl _) (Nat.zero_le _) rfl
      go_wp2_with (at_builtin; refine wpList_append_lies _ rfl _ _ 25 rfl wo.heap.size 5 i0 (.int .u8 0) 1 1 Tryd.underlying25 hi hz0 hz1 hz2 rfl (by decide) _ 0 [] rfl o00 ⟨b, off, none⟩ n _ (zs.map (Value.int .u8)) rfl HL1.out (SRC.out _ (HB.out.alloc hws _)) (ints_oneCell _ _) (by omega) ?c3 ?c4 (by simp) _ rfl ?_)
      case c3 => unfold maxLen; omega
      case c4 => omega
      intro ga ca w1 o1 hg1 hx1 hlt1
      have b1 : Below wo.heap.size wo w1 := ((Below.refl _ _).alloc (Nat.le_refl _) _).grown hg1 (by simp) (fun z h => by cases h; exact Nat.le_refl _)
      have hga := o1.lt ga rfl
      have hs1 := b1.size
      have O1 : Hid (w1.ownsRow wo.heap.size 5 1 (.slice (some ⟨ga, 0, none⟩) n ca) n (zs.map (Value.int .u8))) := by show World.ownsRow _ _ _ _ _ _ _; simpa using o1
      have B1 : Hid (Below wo.heap.size wo w1) := b1
      clear o00 o1 hg1 hx1 b1
      have o00 := World.ownsRow_lit (base := w1.heap.size) (e := 5) (size := 1) w1 #[] 0 (Nat.le_refl _) (Nat.zero_le _) rfl
      go_wp2_with (at_builtin; refine wpList_append_lies _ rfl _ _ 25 rfl w1.heap.size 5 i0 (.int .u8 0) 1 1 Tryd.underlying25 hi hz0 hz1 hz2 rfl (by decide) _ 0 [] rfl o00 ⟨b, off, none⟩ n _ (zs.map (Value.int .u8)) rfl HL1.out (SRC.out _ ((HB.out.trans (B1.out.mono hws)).alloc (by omega) _)) (ints_oneCell _ _) (by omega) ?c3 ?c4 (by simp) _ rfl ?_)
      case c3 => unfold maxLen; omega
      case c4 => omega
      intro gb cb w2 o2 hg2 hx2 hlt2
      have b2 : Below w1.heap.size w1 w2 := ((Below.refl _ _).alloc (Nat.le_refl _) _).grown hg2 (by simp) (fun z h => by cases h; exact Nat.le_refl _)
      have hgb := o2.lt gb rfl
      have hs2 := b2.size
      have OA : w2.ownsRow wo.heap.size 5 1 (.slice (some ⟨ga, 0, none⟩) n ca) n ((fillB zs n 128).map (Value.int .u8)) := by
        rw [← HL.out, fillB_self]; rw [HL.out]; exact own_later O1.out b2
      have OB : w2.ownsRow wo.heap.size 5 1 (.slice (some ⟨gb, 0, none⟩) n cb) n ((fillB zs n 191).map (Value.int .u8)) := by
        rw [← HL.out, fillB_self]; rw [HL.out]
        have o3 : w2.ownsRow w1.heap.size 5 1 (.slice (some ⟨gb, 0, none⟩) n cb) n (zs.map (Value.int .u8)) := by simpa using o2
        exact own_lowB o3 hs1
      have BT : Below wo.heap.size wo w2 := B1.out.trans (b2.mono hs1)
      have hne : ga ≠ gb := by omega
      have HS : Hid (w2.ownsRow wo.heap.size 5 1 (.slice (some ⟨ga, 0, none⟩) n ca) n ((fillB zs n 128).map (Value.int .u8)) ∧ w2.ownsRow wo.heap.size 5 1 (.slice (some ⟨gb, 0, none⟩) n cb) n ((fillB zs n 191).map (Value.int .u8)) ∧ Below wo.heap.size wo w2 ∧ ga ≠ gb) := ⟨OA, OB, BT, hne⟩
      clear o00 o2 hg2 hx2 b2 OA OB BT hne O1 B1 hga hgb hlt1 hlt2 hs1 hs2
      go_wp2
      go_loopw [4, 5] (fun x y wr => ∃ (j g1 c1 g2 c2 : Nat), n ≤ j ∧ j ≤ k ∧ x = .slice (some ⟨g1, 0, none⟩) j c1 ∧ y = .slice (some ⟨g2, 0, none⟩) j c2 ∧ wr.ownsRow wo.heap.size 5 1 (.slice (some ⟨g1, 0, none⟩) j c1) j ((fillB zs j 128).map (Value.int .u8)) ∧ wr.ownsRow wo.heap.size 5 1 (.slice (some ⟨g2, 0, none⟩) j c2) j ((fillB zs j 191).map (Value.int .u8)) ∧ g1 ≠ g2 ∧ Below wo.heap.size wo wr) (fun x _ _ => 5 - slen x)
      case atStart => exact ⟨n, ga, ca, gb, cb, Nat.le_refl _, by omega, rfl, rfl, HS.out.1, HS.out.2.1, HS.out.2.2.2, HS.out.2.2.1⟩
      case round =>
        obtain ⟨j, g1, c1, g2, c2, hj1, hj2, rfl, rfl, oa, ob, hne, hbq⟩ := hrel
        have hfl1 : (fillB zs j 128).length = j := fillB_len _ (by rw [HL.out]; exact hj1)
        have hfl2 : (fillB zs j 191).length = j := fillB_len _ (by rw [HL.out]; exact hj1)
        have hga := oa.lt g1 rfl
        have hgb := ob.lt g2 rfl
        have hsq := hbq.size
        have HQ : Hid (wr.ownsRow wo.heap.size 5 1 (.slice (some ⟨g1, 0, none⟩) j c1) j ((fillB zs j 128).map (Value.int .u8)) ∧ wr.ownsRow wo.heap.size 5 1 (.slice (some ⟨g2, 0, none⟩) j c2) j ((fillB zs j 191).map (Value.int .u8)) ∧ Below wo.heap.size wo wr) := ⟨oa, ob, hbq⟩
        clear oa ob hbq
        by_cases hlt2 : j < k
        · have oa1 := HQ.out.1.alloc (.cells #[.int .u8 128] 5)
          have ob1 := HQ.out.2.1.alloc (.cells #[.int .u8 128] 5)
          go_wp2_with (at_builtin; refine wpList_append_lies _ rfl _ _ 25 rfl wo.heap.size 5 i0 (.int .u8 0) 1 1 Tryd.underlying25 hi hz0 hz1 hz2 rfl (by decide) _ j _ rfl oa1 ⟨wr.heap.size, 0, none⟩ 1 _ [.int .u8 128] rfl rfl (World.news_of_block (heap_alloc_new wr _)) (by simp; rfl) (by decide) ?c3 ?c4 (by simp; omega) _ rfl ?_)
          case c3 => unfold maxLen; omega
          case c4 => omega
          intro ga ca w1 o1 hg1 hx1 hlt1
          have b1 : Below wo.heap.size wo w1 := (HQ.out.2.2.alloc hsq _).grown hg1 (by simp; omega) (fun z h => by cases h; exact hga.1)
          have hax : g1 = ga ∨ ga = wr.heap.size + 1 := by simpa [Value.ownBlock] using hx1
          have hs1 : wr.heap.size + 1 ≤ w1.heap.size := by have := hg1.size; simpa using this
          have ob2 : w1.ownsRow wo.heap.size 5 1 (.slice (some ⟨g2, 0, none⟩) j c2) j ((fillB zs j 191).map (Value.int .u8)) := ob1.kept hg1 (.inr (by simp [Value.ownBlock]; exact fun e => hne e.symm))
          have e1 : (fillB zs j 128).map (Value.int .u8) ++ [.int .u8 128] = (fillB zs (j + 1) 128).map (Value.int .u8) := by rw [fillB_succ _ (by rw [HL.out]; exact hj1)]; simp
          rw [e1] at o1
          have hg1' := o1.lt ga rfl
          have H1 : Hid (w1.ownsRow wo.heap.size 5 1 (.slice (some ⟨ga, 0, none⟩) (j + 1) ca) (j + 1) ((fillB zs (j + 1) 128).map (Value.int .u8)) ∧ w1.ownsRow wo.heap.size 5 1 (.slice (some ⟨g2, 0, none⟩) j c2) j ((fillB zs j 191).map (Value.int .u8)) ∧ Below wo.heap.size wo w1) := ⟨o1, ob2, b1⟩
          have oa3 := o1.alloc (.cells #[.int .u8 191] 5)
          have ob3 := ob2.alloc (.cells #[.int .u8 191] 5)
          have hne1 : ga ≠ g2 := by omega
          clear oa1 ob1 o1 hg1 hx1 b1 ob2 e1 hax
          go_wp2_with (at_builtin; refine wpList_append_lies _ rfl _ _ 25 rfl wo.heap.size 5 i0 (.int .u8 0) 1 1 Tryd.underlying25 hi hz0 hz1 hz2 rfl (by decide) _ j _ rfl ob3 ⟨w1.heap.size, 0, none⟩ 1 _ [.int .u8 191] rfl rfl (World.news_of_block (heap_alloc_new w1 _)) (by simp; rfl) (by decide) ?c3 ?c4 (by simp; omega) _ rfl ?_)
          case c3 => unfold maxLen; omega
          case c4 => omega
          intro gb cb w2 o2 hg2 hx2 hlt3
          have b2 : Below wo.heap.size wo w2 := (H1.out.2.2.alloc (by omega) _).grown hg2 (by simp; omega) (fun z h => by cases h; exact hgb.1)
          have hbx : g2 = gb ∨ gb = w1.heap.size + 1 := by simpa [Value.ownBlock] using hx2
          have oa4 : w2.ownsRow wo.heap.size 5 1 (.slice (some ⟨ga, 0, none⟩) (j + 1) ca) (j + 1) ((fillB zs (j + 1) 128).map (Value.int .u8)) := oa3.kept hg2 (.inr (by simp [Value.ownBlock]; exact hne1))
          have e2 : (fillB zs j 191).map (Value.int .u8) ++ [.int .u8 191] = (fillB zs (j + 1) 191).map (Value.int .u8) := by rw [fillB_succ _ (by rw [HL.out]; exact hj1)]; simp
          rw [e2] at o2
          have HF : Hid (w2.ownsRow wo.heap.size 5 1 (.slice (some ⟨ga, 0, none⟩) (j + 1) ca) (j + 1) ((fillB zs (j + 1) 128).map (Value.int .u8)) ∧ w2.ownsRow wo.heap.size 5 1 (.slice (some ⟨gb, 0, none⟩) (j + 1) cb) (j + 1) ((fillB zs (j + 1) 191).map (Value.int .u8)) ∧ ga ≠ gb ∧ Below wo.heap.size wo w2) := ⟨oa4, o2, by omega, b2⟩
          clear oa3 ob3 o2 hg2 hx2 b2 oa4 e2 hbx hg1'
          go_wp2
          go_roundw
          case rel => exact ⟨j + 1, ga, ca, gb, cb, by omega, by omega, rfl, rfl, HF.out.1, HF.out.2.1, HF.out.2.2.1, HF.out.2.2.2⟩
          case measure => simp [slen]; omega
        · obtain rfl : j = k := by omega
          have cpa := own_capB HQ.out.1
          have cpb := own_capB HQ.out.2.1
          obtain ⟨x1, hx1⟩ : ∃ x : Int, x = (rra (fillB zs j 128) 0).1 := ⟨_, rfl⟩
          obtain ⟨p1, hp1⟩ : ∃ x : Int, x = (rra (fillB zs j 128) 0).2 := ⟨_, rfl⟩
          obtain ⟨x2, hx2⟩ : ∃ x : Int, x = (rra (fillB zs j 191) 0).1 := ⟨_, rfl⟩
          obtain ⟨p2, hp2⟩ : ∃ x : Int, x = (rra (fillB zs j 191) 0).2 := ⟨_, rfl⟩
          have f1 : p1 = (j : Int) ↔ hit (fillB zs j 128) 0 j := by rw [hp1]; exact rra_size (fillB_bytes j (by omega) (fun i => HZ.out i)) hfl1 (by omega) hlt4
          have f2 : p2 = (j : Int) ↔ hit (fillB zs j 191) 0 j := by rw [hp2]; exact rra_size (fillB_bytes j (by omega) (fun i => HZ.out i)) hfl2 (by omega) hlt4
          have HSZ : Hid (sizeP zs j ↔ (p1 = (j : Int) ∨ p2 = (j : Int))) := by show _ ↔ _; rw [f1, f2]; exact Iff.rfl
          have qa : Hid (∀ w', Below wr.heap.size wr w' → Calls Tryd.prog 39 #[.slice (some ⟨g1, 0, none⟩) j c1, .int .i64 0] w' fun e w'' => e = .returned (.tuple #[.int .i64 x1, .int .i64 p1]) ∧ Below w'.heap.size w' w'') := fun w' hb => by
            rw [hx1, hp1]; exact specRrd_any _ j c1 (fillB zs j 128) 0 w' hfl1 ((rd_own hfl1 (bt_fill HZ.out j (by omega)) HQ.out.1).later hb) (by omega) cpa.1 cpa.2
          have qb : Hid (∀ w', Below wr.heap.size wr w' → Calls Tryd.prog 39 #[.slice (some ⟨g2, 0, none⟩) j c2, .int .i64 0] w' fun e w'' => e = .returned (.tuple #[.int .i64 x2, .int .i64 p2]) ∧ Below w'.heap.size w' w'') := fun w' hb => by
            rw [hx2, hp2]; exact specRrd_any _ j c2 (fillB zs j 191) 0 w' hfl2 ((rd_own hfl2 (bt_fill HZ.out j (by omega)) HQ.out.2.1).later hb) (by omega) cpb.1 cpb.2
          clear hx1 hp1 hx2 hp2 f1 f2 cpa cpb hfl1 hfl2
          go_wp2_with fail
          refine (qa.out _ (Below.refl _ _)).mono ?_
          rintro e w1 ⟨rfl, hb1⟩
          have B1 : Hid (Below wr.heap.size wr w1) := hb1
          clear hb1
          go_wp2_with fail
          refine (qb.out _ B1.out).mono ?_
          rintro e w2 ⟨rfl, hb2⟩
          have B2 : Hid (Below w.heap.size w w2) := HB.out.trans ((HQ.out.2.2.trans ((B1.out.trans (hb2.mono B1.out.size)).mono hsq)).mono hws)
          clear hb2 B1
          by_cases h1 : p1 = (j : Int)
          · have hr : Hid (rbgB zs = true) := HI.out.2 ⟨by rw [HL.out]; exact hn1, by rw [HL.out]; exact hn3, j, by rw [HL.out]; exact hk1, hlt4, HSZ.out.2 (.inl h1)⟩
            subst h1
            go_wp2
            go_ret
            exact ⟨by rw [hr.out]; rfl, B2.out⟩
          · have d1 : (p1 == (j : Int)) = false := by simpa using h1
            by_cases h2 : p2 = (j : Int)
            · have hr : Hid (rbgB zs = true) := HI.out.2 ⟨by rw [HL.out]; exact hn1, by rw [HL.out]; exact hn3, j, by rw [HL.out]; exact hk1, hlt4, HSZ.out.2 (.inr h2)⟩
              subst h2
              clear h1
              go_wp2
              go_ret
              exact ⟨by rw [hr.out]; rfl, B2.out⟩
            · have d2 : (p2 == (j : Int)) = false := by simpa using h2
              have HN : Hid (¬ sizeP zs j) := fun h => (HSZ.out.1 h).elim h1 h2
              clear h1 h2
              go_wp2
              go_roundw
              case rel => exact ⟨j + 1, by go_num, by omega, by omega, fun s hs1 hs2 => by
                by_cases e : s = j
                · subst e; exact HN.out
                · exact HNO.out s hs1 (by omega), B2.out⟩
              case measure => simp [intOf]; omega
    · have hr : rbgB zs = false := by
        cases h : rbgB zs with
        | false => rfl
        | true =>
          obtain ⟨_, _, s, h1, h2, h3⟩ := HI.out.1 h
          exact absurd h3 (HNO.out s (by rw [← HL.out]; exact h1) (by omega))
      have HR : Hid (rbgB zs = false) := hr
      clear hr
      go_wp2
      go_ret
      exact ⟨by rw [HR.out]; rfl, HB.out⟩

set_option maxRecDepth 100000 in
set_option maxHeartbeats 4000000 in
theorem specRbg_any (a : Option Addr) (n cap : Nat) (zs : List Int) (w : World) (hl : zs.length = n) (hr : Rd w a zs) (hn : n ≤ 2097152) (hcap : n ≤ cap) (hcm : cap ≤ maxLen) :
    Calls Tryd.prog 15 #[.slice a n cap] w fun e w' => e = .returned (.bool (rbgB zs)) ∧ Below w.heap.size w w' := by
  have HI := rbg_iff zs (fun i => hr.1 i)
  by_cases h1 : n < 1
  · have hf : Hid (rbgB zs = false) := by
      show _ = _
      cases h : rbgB zs with
      | false => rfl
      | true => have := HI.1 h; omega
    clear HI hr
    go_enter Tryd.func15, Tryd.ntmps15
    go_wp2
    go_ret
    exact ⟨by rw [hf.out]; rfl, Below.refl _ _⟩
  · by_cases h3 : 3 < n
    · have hf : Hid (rbgB zs = false) := by
        show _ = _
        cases h : rbgB zs with
        | false => rfl
        | true => have := HI.1 h; omega
      clear HI hr
      go_enter Tryd.func15, Tryd.ntmps15
      go_wp2
      go_ret
      exact ⟨by rw [hf.out]; rfl, Below.refl _ _⟩
    · have hne : zs ≠ [] := by intro h'; subst h'; simp at hl; omega
      obtain ⟨b, off, rfl, hb, hc⟩ := hr.2.resolve_left hne
      exact specRbg_mid b off n cap zs w hl hr.1 hb hc (by omega) (by omega) hcap hcm

end Go.Proofs.YtojalheohpkdoaaDoor
