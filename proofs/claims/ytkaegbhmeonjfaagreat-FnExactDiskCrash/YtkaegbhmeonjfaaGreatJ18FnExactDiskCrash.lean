/-
  Joined: FlatT, AppD, CopyS, CrashS.
-/
import Derived.Test.YtkaegbhmeonjfaaGreatJ3FnExactDiskCrash
import Derived.Test.YtkaegbhmeonjfaaGreatJ1FnExactDiskCrash
import Derived.Maps.AppendAt
import Derived.Test.YtkaegbhmeonjfaaGreatJ9FnExactDiskCrash
import Derived.Test.YtkaegbhmeonjfaaGreatJ6FnExactDiskCrash
import Derived.Deep.RegionHeld3
import Derived.Test.YtkaegbhmeonjfaaGreatJ17FnExactDiskCrash
/- FlatT: Rows of turns: their cells, as the source of an append and as a row of the call's own. -/
namespace Go.Proofs.YtkaegbhmeonjfaaGreat
open Go.RowKit
set_option linter.unusedVariables false
set_option maxRecDepth 100000

def cellsT (l : List TurnD) : List Value := l.flatMap fun x => [.int .i64 x.1, .string x.2.1, .string x.2.2.1, .int .i64 x.2.2.2.1]
def SmallT (l : List TurnD) : Prop := ∀ t ∈ l, t.2.1.size ≤ maxLen ∧ t.2.2.1.size ≤ maxLen

theorem reads_smallT {w : World} {a : Option Addr} {n cap : Nat} {l : List TurnD} (h : Reads (.sl shTurn) w [.slice a n cap] l) : SmallT l := by
  intro t ht
  obtain ⟨i, hi, rfl⟩ := List.mem_iff_getElem.1 ht
  have hl : List.length (α := TurnD) l = n := (reads_len h).1
  obtain ⟨b, off, c, x, _, _, hx, hr, _⟩ := reads_elem h i (by omega)
  obtain ⟨_, hxe⟩ := at_some' hx
  obtain ⟨_, h1, h2⟩ := open_Turn hr
  subst hxe
  exact ⟨h1, h2⟩

theorem cellsT_len (l : List TurnD) : (cellsT l).length = l.length * 4 := by
  unfold cellsT
  induction l with
  | nil => rfl
  | cons a l ih => rw [List.flatMap_cons, List.length_append, ih, List.length_cons]; simp; omega

theorem cellsT_one (l : List TurnD) : ∀ u ∈ cellsT l, u.oneCell' = true := by
  intro u hu
  unfold cellsT at hu
  obtain ⟨x, _, hx⟩ := List.mem_flatMap.1 hu
  simp at hx
  rcases hx with rfl | rfl | rfl | rfl <;> rfl

theorem src_turns {w : World} {B : Nat} {v : Value} {l : List TurnD} {F : List Nat} (h : Own (.sl shTurn) w B [v] l F) : Src w v l.length (cellsT l) := by
  obtain ⟨a, c, hv, h1, h2, h3⟩ := own_val h
  subst hv
  cases a with
  | none =>
    obtain ⟨k1, k2, k3⟩ := own_nil h
    have k4 : l = [] := k3
    subst k4
    subst k2
    exact .inl ⟨rfl, rfl, rfl⟩
  | some ad => exact .inr ⟨ad, c, rfl, reads_flat shTurn (fun x => [.int .i64 x.1, .string x.2.1, .string x.2.2.1, .int .i64 x.2.2.2.1]) (by decide) (fun w c x hr => (open_Turn hr).1) h.reads⟩

theorem own_turnsV {w : World} {B n : Nat} {v : Value} {t : TypeId} {l : List TurnD} (hl : l.length = n) (hs : SmallT l) (h : w.ownsRow B t 4 v n (cellsT l)) : ∃ F, Own (.sl shTurn) w B [v] l F ∧ F.Nodup ∧ (∀ y ∈ F, v.ownBlock = some y) ∧ ∃ a c, v = .slice a n c := by
  rcases h.2 with ⟨h1, h2⟩ | ⟨g, cap, cur, hv, _⟩
  · refine ⟨[], .inl ⟨by rw [h1], ?_, rfl⟩, by simp, by simp, none, 0, by rw [h1, h2]⟩
    show l.length = 0; omega
  · subst hv
    exact ⟨[g], own_flat shTurn (fun x => [.int .i64 x.1, .string x.2.1, .string x.2.2.1, .int .i64 x.2.2.2.1]) hl (fun x hx => own_Turn (hs x hx).1 (hs x hx).2) h, by simp, by simp [Value.ownBlock], _, _, rfl⟩

theorem own_linksW {w : World} {B n : Nat} {v : Value} {t : TypeId} {l : List LinkD} (hl : l.length = n) (hs : SmallS l) (h : w.ownsRow B t 2 v n (cellsL l)) : ∃ F, Own (.sl shLink) w B [v] l F ∧ F.Nodup ∧ (∀ y ∈ F, v.ownBlock = some y) ∧ ∃ a c, v = .slice a n c := by
  rcases h.2 with ⟨h1, h2⟩ | ⟨g, cap, cur, hv, _⟩
  · refine ⟨[], .inl ⟨by rw [h1], ?_, rfl⟩, by simp, by simp, none, 0, by rw [h1, h2]⟩
    show l.length = 0; omega
  · subst hv
    exact ⟨[g], own_links hl hs h, by simp, by simp [Value.ownBlock], _, _, rfl⟩

end Go.Proofs.YtkaegbhmeonjfaaGreat

/- AppD: append of bytes to a new empty row ('append([]byte{}, b...)') as a step of a region that draws its order: what comes of it and where it lies. -/
namespace Go.Proofs.YtkaegbhmeonjfaaGreat
open Go.RowKit
set_option linter.unusedVariables false
set_option maxRecDepth 100000

theorem wp_append_srcAt {P : Program} {w : World} {o : Oper} {a : Act} {K : Act → World → Prop} {Q : Exit → Act → World → Prop} (s x : Operand) (t : TypeId)
    (ho : o.op = .call { callee := .builtin .append, args := #[s, x], argTypes := #[t, t] })
    (base : Nat) (e : TypeId) (i : TypeInfo) (z : Value) (size bytes : Nat) (ht : P.underlying t = some (.slice e)) (hi : P.info? e = some i) (hz : i.zero = some z)
    (hsize : i.size = size) (hby : i.bytes = bytes) (hzs : z.cells.size = size) (hsz : 0 < size)
    (v : Value) (n : Nat) (xs : List Value) (hs : a.eval s = v) (hown : w.ownsRow base e size v n xs)
    (xv : Value) (m : Nat) (news : List Value) (hx : a.eval x = xv) (hl : news.length = m * size) (hsrc : Src w xv m news) (h1 : ∀ u ∈ news, u.oneCell' = true)
    (h63 : n + m ≤ maxLen) (hbytes : (n + m) * bytes ≤ 140737488355328) (hbase : base ≤ w.heap.size)
    (h : ∀ v' w', w'.ownsRow base e size v' (n + m) (xs ++ news) → w.grownBy w' v.ownBlock → (v'.ownBlock = v.ownBlock ∨ v'.ownBlock = some w.heap.size) → K (a.put o.dst v') w') : o.wp P a w K Q := by
  rcases hsrc with ⟨h2, rfl, rfl⟩ | ⟨ad, c, h2, h3⟩
  · have hrun := run_append_owned_none (P := P) (w := w) base t o.type e i size ht hi v n xs hown
    unfold Oper.wp execOp
    simp only [ho, resolve, invoke, builtin, Sem.run_bind, Sem.run_pure, Result.andThen_ok, List.map_toArray, List.map_cons, List.map_nil, hs, hx, h2, hrun]
    exact h v w (by simpa using hown) (World.grownBy.refl _ _) (.inl rfl)
  · obtain ⟨v', w', hr, k2, k3, _, k5⟩ := run_append_own_at (P := P) w base t o.type e i z size bytes ht hi hz hsize hby hzs hsz v n xs hown ad m c news hl h3 h1 h63 hbytes hbase
    unfold Oper.wp execOp
    simp only [ho, resolve, invoke, builtin, Sem.run_bind, Sem.run_pure, Result.andThen_ok, List.map_toArray, List.map_cons, List.map_nil, hs, hx, h2, hr]
    exact h v' w' k2 k3 k5

/-- 'append([]byte{}, b...)' where the empty row v lies in block g: the answer holds the bytes, in block g or in a new one. -/
theorem step_clone {w : World} {ops : Array Oper} {o : Oper} {a : Act} {K : Act → World → Prop} {Q : Exit → Act → World → Prop} {E : Prop} (hgd : o.guard = none) (s x : Operand)
    (ho : o.op = .call { callee := .builtin .append, args := #[s, x], argTypes := #[43, 43] })
    (base g : Nat) (hs : a.eval s = .slice (some ⟨g, 0, none⟩) 0 0) (hown : w.ownsRow base 5 1 (.slice (some ⟨g, 0, none⟩) 0 0) 0 [])
    (xv : Value) (zs : List Int) (hx : a.eval x = xv) (hsrc : Src w xv zs.length (zs.map (Value.int .u8))) (hz : ∀ i : Nat, 0 ≤ zs[i]?.getD 0 ∧ zs[i]?.getD 0 ≤ 255) (hlen : zs.length ≤ 1048576)
    (hbase : base ≤ w.heap.size)
    (h : ∀ v' w' F, Own (.sl .u8) w' base [v'] zs F → F.Nodup → (∀ y ∈ F, y = g ∨ y = w.heap.size) → w.grownBy w' (some g) → K (a.put o.dst v') w') :
    if Region.wanted o (yielded ops a.tmps) = true then Oper.wp Tryz.prog o a w K Q else E := by
  have hw : Region.wanted o (yielded ops a.tmps) = true := by simp [Region.wanted, hgd]
  rw [if_pos hw]
  obtain ⟨i0, hi, hz0, hz1, hz2⟩ := info_parts Tryz.infoB
  refine wp_append_srcAt s x 43 ho base 5 i0 (.int .u8 0) 1 1 Tryz.underlying43 hi hz0 hz1 hz2 rfl (by decide) _ 0 [] hs hown xv zs.length (zs.map (Value.int .u8)) hx (by simp) hsrc (bytes_one _) (by unfold maxLen; omega) (by omega) hbase ?_
  intro v' w' hown' hgr hat
  have hown2 : w'.ownsRow base 5 1 v' zs.length (zs.map (Value.int .u8)) := by simpa using hown'
  obtain ⟨F, hF, hnd⟩ := own_row rfl hz hown2
  have hFv : ∀ y ∈ F, v'.ownBlock = some y := by
    intro y hy
    rcases hown2.2 with ⟨hv, _⟩ | ⟨g', cap, cur, hv, _⟩
    · subst hv
      rcases hF with ⟨_, _, h3⟩ | ⟨g2, _, _, _, _, _, h3, _⟩
      · rw [h3] at hy; cases hy
      · simp at h3
    · subst hv
      rcases hF with ⟨h3, _⟩ | ⟨g2, cp, t, cur2, Cs, Fs, h3, _, _, _, _, _, _, _, h6, h7, he⟩
      · simp at h3
      · simp only [List.cons.injEq, Value.slice.injEq, Option.some.injEq, Addr.mk.injEq, and_true] at h3
        rw [h7] at hy
        rcases List.mem_cons.1 hy with rfl | hm
        · rw [h3.1]; rfl
        · obtain ⟨i, f, hi', hyf⟩ := mem_flatten_get hm
          exfalso
          have hil : i < Fs.length := (List.getElem?_eq_some_iff.1 hi').1
          have hil2 : i < zs.length := by have : Fs.length = zs.length := h6; omega
          have hC : ∃ c, Cs[i]? = some c := by
            rcases hc : Cs[i]? with _ | c
            · exfalso
              rename_i h5 _ _ _ _
              have : Cs.length ≤ i := by simpa using hc
              have h8 : Cs.length = zs.length := by assumption
              omega
            · exact ⟨c, rfl⟩
          obtain ⟨c, hc⟩ := hC
          have h9 : Own .u8 w' base c zs[i] f := he i c zs[i] f hc (List.getElem?_eq_getElem hil2) hi'
          have h10 : f = [] := h9.2
          rw [h10] at hyf; cases hyf
  refine h v' w' F hF hnd ?_ hgr
  intro y hy
  have h1 := hFv y hy
  rcases hat with h2 | h2
  · rw [h1] at h2; left; simpa [Value.ownBlock] using h2
  · rw [h1] at h2; right; simpa using h2

end Go.Proofs.YtkaegbhmeonjfaaGreat

/- CopyS: The model's copy of a disk (l03Copy): all of it in memory of its own. -/
namespace Go.Proofs.YtkaegbhmeonjfaaGreat
open Go.RowKit
set_option linter.unusedVariables false
set_option maxRecDepth 100000

theorem take_snocN (l : List NodeD) (k : Nat) (hk : k < l.length) (x : NodeD) (hx : l[k] = x) : l.take (k + 1) = l.take k ++ [x] := by
  rw [List.take_succ_eq_append_getElem hk, hx]

theorem node_bd {w : World} {B : Nat} {v : Value} {zs : List Int} {F : List Nat} (h : Own (.sl .u8) w B [v] zs F) : ∀ i : Nat, 0 ≤ zs[i]?.getD 0 ∧ zs[i]?.getD 0 ≤ 255 := by
  obtain ⟨a, c, hv, _⟩ := own_val h
  subst hv
  exact (reads_bytes h.reads).2.1.1

set_option maxRecDepth 100000 in
set_option maxHeartbeats 8000000 in
theorem specCopy_ok (cs : List Value) (d : shDisk.D) (B0 : Nat) (G : List Nat) (w : World) (ho : Own shDisk w B0 cs d G) (hs : shDisk.sz d ≤ 1048576) :
    Calls Tryz.prog 32 #[.agg cs.toArray] w fun e w' => ∃ cs' F, e = .returned (.agg cs'.toArray) ∧ Own shDisk w' w.heap.size cs' d F ∧ F.Nodup ∧ Below w.heap.size w w' := by
  obtain ⟨i0, hi, hz0, hz1, hz2⟩ := info_parts infoNode
  obtain ⟨a3, n3, c3, F3, a4, n4, c4, F4, a5, n5, c5, F5, rfl, _, o3, o4, o5⟩ := openO_Disk ho
  obtain ⟨x0, e0⟩ : ∃ x : Int, x = d.1 := ⟨_, rfl⟩
  obtain ⟨x1, e1⟩ : ∃ x : Int, x = d.2.1 := ⟨_, rfl⟩
  obtain ⟨x2, e2⟩ : ∃ x : Int, x = d.2.2.1 := ⟨_, rfl⟩
  have hs' := hs
  rw [sz_Disk] at hs'
  obtain ⟨nd, hnd⟩ : ∃ l : List NodeD, l = d.2.2.2.1 := ⟨_, rfl⟩
  obtain ⟨kp, hkp⟩ : ∃ l : List LinkD, l = d.2.2.2.2.1 := ⟨_, rfl⟩
  obtain ⟨tn, htn⟩ : ∃ l : List TurnD, l = d.2.2.2.2.2.1 := ⟨_, rfl⟩
  have l3 : nd.length = n3 := by rw [hnd]; exact (reads_len o3.reads).1
  have l4 : kp.length = n4 := by rw [hkp]; exact (reads_len o4.reads).1
  have l5 : tn.length = n5 := by rw [htn]; exact (reads_len o5.reads).1
  have s3 : n3 + (List.map shNode.sz nd).sum = Sh.sz (.sl shNode) d.2.2.2.1 := by rw [← l3, hnd]; rfl
  have s4 : n4 ≤ Sh.sz (.sl shLink) d.2.2.2.2.1 := by rw [← l4, hkp]; exact Nat.le_add_right _ _
  have s5 : n5 ≤ Sh.sz (.sl shTurn) d.2.2.2.2.2.1 := by rw [← l5, htn]; exact Nat.le_add_right _ _
  have hn3 : n3 + (List.map shNode.sz nd).sum ≤ 1048576 := by omega
  have hn45 : n4 + n5 ≤ 1048576 := by omega
  have hn3' : n3 ≤ 1048576 := by omega
  have HSN : Hid (n3 + (List.map shNode.sz nd).sum ≤ 1048576) := hn3
  rw [← hnd] at o3
  rw [← hkp] at o4
  rw [← htn] at o5
  have l3m : n3 ≤ c3 ∧ c3 ≤ maxLen := (reads_len o3.reads).2
  unfold maxLen at l3m
  have HR : Hid (Own (.sl shNode) w B0 [.slice a3 n3 c3] nd F3 ∧ Own (.sl shLink) w B0 [.slice a4 n4 c4] kp F4 ∧ Own (.sl shTurn) w B0 [.slice a5 n5 c5] tn F5) := ⟨o3, o4, o5⟩
  have HL : Hid (nd.length = n3 ∧ kp.length = n4 ∧ tn.length = n5 ∧ SmallS kp ∧ SmallT tn) := ⟨l3, l4, l5, reads_small o4.reads, reads_smallT o5.reads⟩
  have HD : Hid (x0 = d.1 ∧ x1 = d.2.1 ∧ x2 = d.2.2.1 ∧ nd = d.2.2.2.1 ∧ kp = d.2.2.2.2.1 ∧ tn = d.2.2.2.2.2.1) := ⟨e0, e1, e2, hnd, hkp, htn⟩
  rw [← e0, ← e1, ← e2]
  obtain ⟨W1, hW1⟩ : ∃ W, W = (w.alloc (.cells #[.int .i64 x0, .int .i64 x1, .int .i64 x2, .slice a3 n3 c3, .slice a4 n4 c4, .slice a5 n5 c5] 33)).alloc (.cells #[.int .i64 0, .int .i64 0, .int .i64 0, .slice none 0 0, .slice none 0 0, .slice none 0 0] 33) := ⟨_, rfl⟩
  have bW1 : Below w.heap.size w W1 := by rw [hW1]; exact ((Below.refl _ _).alloc (Nat.le_refl _) _).alloc (by simp) _
  have zW1 : W1.heap.size = w.heap.size + 2 := by rw [hW1]; simp
  have hbd : W1.heap[w.heap.size]? = some (.cells #[.int .i64 x0, .int .i64 x1, .int .i64 x2, .slice a3 n3 c3, .slice a4 n4 c4, .slice a5 n5 c5] 33 (0, 0)) := by
    rw [hW1]; exact (heap_alloc_old _ _ (by simp)).trans (heap_alloc_new w _)
  have hbr : W1.heap[w.heap.size + 1]? = some (.cells #[.int .i64 0, .int .i64 0, .int .i64 0, .slice none 0 0, .slice none 0 0, .slice none 0 0] 33 (0, 0)) := by
    rw [hW1]
    have := heap_alloc_new (w.alloc (.cells #[.int .i64 x0, .int .i64 x1, .int .i64 x2, .slice a3 n3 c3, .slice a4 n4 c4, .slice a5 n5 c5] 33)) (.cells #[.int .i64 0, .int .i64 0, .int .i64 0, .slice none 0 0, .slice none 0 0, .slice none 0 0] 33)
    simpa using this
  have HW1 : Hid (W1 = (w.alloc (.cells #[.int .i64 x0, .int .i64 x1, .int .i64 x2, .slice a3 n3 c3, .slice a4 n4 c4, .slice a5 n5 c5] 33)).alloc (.cells #[.int .i64 0, .int .i64 0, .int .i64 0, .slice none 0 0, .slice none 0 0, .slice none 0 0] 33)) := hW1
  have g00 := Gath.lit shNode 70 W1 (w.heap.size + 2) (by omega)
  rw [zW1] at g00
  have H0 : Hid (Gath shNode 70 (W1.alloc (.cells #[] 70)) (w.heap.size + 2) (.slice (some ⟨w.heap.size + 2, 0, none⟩) 0 0) 0 [] [] [] ∧ Below w.heap.size w (W1.alloc (.cells #[] 70)) ∧
      (W1.alloc (.cells #[] 70)).heap[w.heap.size]? = some (.cells #[.int .i64 x0, .int .i64 x1, .int .i64 x2, .slice a3 n3 c3, .slice a4 n4 c4, .slice a5 n5 c5] 33 (0, 0)) ∧ (W1.alloc (.cells #[] 70)).heap[w.heap.size + 1]? = some (.cells #[.int .i64 0, .int .i64 0, .int .i64 0, .slice none 0 0, .slice none 0 0, .slice none 0 0] 33 (0, 0))) :=
    ⟨g00, bW1.alloc bW1.size _, (heap_alloc_old _ _ (by omega)).trans hbd, (heap_alloc_old _ _ (by omega)).trans hbr⟩
  have hm0 : (0 : Nat) ≤ maxLen := Nat.zero_le _
  clear ho hs hs' o3 o4 o5 e0 e1 e2 hnd hkp htn l3 l4 l5 s3 s4 s5 hn3 hW1 hbd hbr g00
  go_enter Tryz.func32, Tryz.ntmps32
  go_wp2
  rw [← HW1.out]
  go_loopw [3, 10] (fun v i wr => ∃ (k : Nat) (vv : Value) (Cs : List (List Value)) (Fs : List (List Nat)), k ≤ n3 ∧ vv = v ∧ i = .int .i64 k ∧ Hid (Gath shNode 70 wr (w.heap.size + 2) vv k (nd.take k) Cs Fs) ∧ Below w.heap.size w wr ∧ w.heap.size + 2 ≤ wr.heap.size ∧
      Hid (wr.heap[w.heap.size]? = some (.cells #[.int .i64 x0, .int .i64 x1, .int .i64 x2, .slice a3 n3 c3, .slice a4 n4 c4, .slice a5 n5 c5] 33 (0, 0)) ∧ wr.heap[w.heap.size + 1]? = some (.cells #[.int .i64 0, .int .i64 0, .int .i64 0, .slice none 0 0, .slice none 0 0, .slice none 0 0] 33 (0, 0)))) (fun _ i _ => n3 - (intOf i).toNat)
  case atStart => exact ⟨0, _, [], [], Nat.zero_le _, rfl, rfl, H0.out.1, H0.out.2.1, by simp; omega, H0.out.2.2⟩
  case round =>
    obtain ⟨k, vv, Cs, Fs, hk, rfl, rfl, HG, hbel, hsz2, HBX⟩ := hrel
    have hbs := hbel.size
    by_cases hlt : k < n3
    · obtain ⟨g3, cc, x, fx, ha3, hg3, hx, hox, _, hcell⟩ := own_get HR.out.1 k hlt
      subst ha3
      obtain ⟨hkd, hxe⟩ := at_some' hx
      have hsx : shNode.sz x ≤ (List.map shNode.sz nd).sum := sz_elem shNode nd k x hx
      obtain ⟨p1, m1, k1, f1, p2, m2, k2, f2, rfl, _, ob, os⟩ := openO_Node hox
      obtain ⟨y0, ey0⟩ : ∃ y : Int, y = x.1 := ⟨_, rfl⟩
      obtain ⟨zb, ezb⟩ : ∃ z : List Int, z = x.2.1 := ⟨_, rfl⟩
      obtain ⟨zf, ezf⟩ : ∃ z : List Int, z = x.2.2.1 := ⟨_, rfl⟩
      rw [← ezb] at ob
      rw [← ezf] at os
      have hlb : zb.length ≤ 1048576 := by
        have h3 : List.length (α := Int) x.2.1 ≤ shNode.sz x := (sz_len x).1
        rw [← ezb] at h3; have := HSN.out; omega
      have hlf : zf.length ≤ 1048576 := by
        have h3 : List.length (α := Int) x.2.2.1 ≤ shNode.sz x := (sz_len x).2
        rw [← ezf] at h3; have := HSN.out; omega
      have hzb : Hid (∀ i : Nat, 0 ≤ zb[i]?.getD 0 ∧ zb[i]?.getD 0 ≤ 255) := node_bd ob
      have hzf : Hid (∀ i : Nat, 0 ≤ zf[i]?.getD 0 ∧ zf[i]?.getD 0 ≤ 255) := node_bd os
      have QB : Hid (∀ w', Below w.heap.size w w' → Src w' (.slice p1 m1 k1) zb.length (zb.map (Value.int .u8))) := fun w' h' => src_bytes (ob.later h')
      have QF : Hid (∀ w', Below w.heap.size w w' → Src w' (.slice p2 m2 k2) zf.length (zf.map (Value.int .u8))) := fun w' h' => src_bytes (os.later h')
      have g0 : wr.cell? ⟨g3, k * 3, none⟩ = some (.int .i64 y0) := by rw [ey0]; exact (hbel.cell (p := ⟨g3, k * 3 + 0, none⟩) hg3).trans (hcell 0 (by decide))
      have g1 : wr.cell? ⟨g3, k * 3 + 1, none⟩ = some (.slice p1 m1 k1) := (hbel.cell (p := ⟨g3, k * 3 + 1, none⟩) hg3).trans (hcell 1 (by decide))
      have g2 : wr.cell? ⟨g3, k * 3 + 2, none⟩ = some (.slice p2 m2 k2) := (hbel.cell (p := ⟨g3, k * 3 + 2, none⟩) hg3).trans (hcell 2 (by decide))
      have HX : Hid (nd.take (k + 1) = nd.take k ++ [(y0, zb, zf, ())]) := take_snocN nd k hkd _ (by rw [ey0, ezb, ezf]; exact hxe)
      have hkn : (k : Int) < (n3 : Int) := by omega
      obtain ⟨W3, hW3⟩ : ∃ W, W = wr.alloc (.cells #[.int .i64 y0, .slice p1 m1 k1, .slice p2 m2 k2] 70) := ⟨_, rfl⟩
      have bwr3 : Below wr.heap.size wr W3 := by rw [hW3]; exact (Below.refl _ _).alloc (Nat.le_refl _) _
      have zW3 : wr.heap.size < W3.heap.size := by rw [hW3]; simp
      have bW3 : Below w.heap.size w W3 := hbel.trans (bwr3.mono hbs)
      have hb3 : Below W3.heap.size W3 W3 := Below.refl _ _
      have hbn : W3.heap[wr.heap.size]? = some (.cells #[.int .i64 y0, .slice p1 m1 k1, .slice p2 m2 k2] 70 (0, 0)) := by rw [hW3]; exact heap_alloc_new wr _
      have yy0 : W3.cell? ⟨wr.heap.size, 0, none⟩ = some (.int .i64 y0) := box_cell hbn rfl
      have yy1 : W3.cell? ⟨wr.heap.size, 1, none⟩ = some (.slice p1 m1 k1) := box_cell hbn rfl
      have yy2 : W3.cell? ⟨wr.heap.size, 2, none⟩ = some (.slice p2 m2 k2) := box_cell hbn rfl
      have HW3 : Hid (W3 = wr.alloc (.cells #[.int .i64 y0, .slice p1 m1 k1, .slice p2 m2 k2] 70)) := hW3
      have HA1 : Hid ((W3.alloc (.cells #[] 5)).ownsRow W3.heap.size 5 1 (.slice (some ⟨W3.heap.size, 0, none⟩) 0 0) 0 []) := World.ownsRow_lit (base := W3.heap.size) (e := 5) (size := 1) W3 #[] 0 (Nat.le_refl _) hm0 rfl
      have HA2 : Hid (((W3.alloc (.cells #[] 5)).alloc (.cells #[] 5)).ownsRow W3.heap.size 5 1 (.slice (some ⟨W3.heap.size, 0, none⟩) 0 0) 0 []) := HA1.out.alloc _
      have HA3 : Hid (((W3.alloc (.cells #[] 5)).alloc (.cells #[] 5)).ownsRow W3.heap.size 5 1 (.slice (some ⟨W3.heap.size + 1, 0, none⟩) 0 0) 0 []) := by
        show World.ownsRow _ _ _ _ _ _ _
        have := World.ownsRow_lit (base := W3.heap.size) (e := 5) (size := 1) (W3.alloc (.cells #[] 5)) #[] 0 (by simp) hm0 rfl
        simpa using this
      have HB2 : Hid ((((W3.alloc (.cells #[] 5)).alloc (.cells #[] 5)).drew).ownsRow W3.heap.size 5 1 (.slice (some ⟨W3.heap.size, 0, none⟩) 0 0) 0 []) := HA2.out
      have HB3 : Hid ((((W3.alloc (.cells #[] 5)).alloc (.cells #[] 5)).drew).ownsRow W3.heap.size 5 1 (.slice (some ⟨W3.heap.size + 1, 0, none⟩) 0 0) 0 []) := HA3.out
      have NB : Hid (some wr.heap.size ≠ vv.ownBlock) := fun h => by have := (HG.out.row.lt _ h.symm).2; omega
      clear hcell hox hx hxe ey0 ezb ezf ob os hW3 hbn hsx
      go_wp2_with fail
      rw [← HW3.out]
      go_region_held3 (fun w' => w'.cell? ⟨wr.heap.size, 0, none⟩ = some (.int .i64 y0) ∧ w'.cell? ⟨wr.heap.size, 1, none⟩ = some (.slice p1 m1 k1) ∧ w'.cell? ⟨wr.heap.size, 2, none⟩ = some (.slice p2 m2 k2))
        (first | go_keep | (refine ⟨?_, ?_, ?_⟩ <;> first | assumption | (refine (hbB.cell ?_).trans ?_; (simp; omega); assumption) | (refine (hbA.cell ?_).trans ?_; (simp; omega); assumption)))
        (first | ((refine step_clone rfl _ _ (by rfl) W3.heap.size W3.heap.size (by rfl) HA1.out (.slice p1 m1 k1) zb (by rfl) (QB.out _ (bW3.trans ((((hb3).alloc (Nat.le_refl _) (.cells #[] 5)).drew).mono bW3.size))) hzb.out hlb (((hb3).alloc (Nat.le_refl _) (.cells #[] 5)).drew).size ?_; intro v6 wA FA oA ndA atA grA; have hbA : Below W3.heap.size W3 wA := (((hb3).alloc (Nat.le_refl _) (.cells #[] 5)).drew).grown grA (((hb3).alloc (Nat.le_refl _) (.cells #[] 5)).drew).size (fun y h => by cases h; omega); obtain ⟨a6, c6, rfl, _⟩ := own_val oA; have zA := grA.size)) | ((refine step_clone rfl _ _ (by rfl) W3.heap.size W3.heap.size (by rfl) HA2.out (.slice p1 m1 k1) zb (by rfl) (QB.out _ (bW3.trans (((((hb3).alloc (Nat.le_refl _) (.cells #[] 5)).alloc (by simp) (.cells #[] 5)).drew).mono bW3.size))) hzb.out hlb ((((hb3).alloc (Nat.le_refl _) (.cells #[] 5)).alloc (by simp) (.cells #[] 5)).drew).size ?_; intro v6 wA FA oA ndA atA grA; have hbA : Below W3.heap.size W3 wA := ((((hb3).alloc (Nat.le_refl _) (.cells #[] 5)).alloc (by simp) (.cells #[] 5)).drew).grown grA ((((hb3).alloc (Nat.le_refl _) (.cells #[] 5)).alloc (by simp) (.cells #[] 5)).drew).size (fun y h => by cases h; omega); obtain ⟨a6, c6, rfl, _⟩ := own_val oA; have zA := grA.size)) | ((refine step_clone rfl _ _ (by rfl) W3.heap.size (W3.heap.size + 1) (by rfl) HA3.out (.slice p1 m1 k1) zb (by rfl) (QB.out _ (bW3.trans (((((hb3).alloc (Nat.le_refl _) (.cells #[] 5)).alloc (by simp) (.cells #[] 5)).drew).mono bW3.size))) hzb.out hlb ((((hb3).alloc (Nat.le_refl _) (.cells #[] 5)).alloc (by simp) (.cells #[] 5)).drew).size ?_; intro v6 wA FA oA ndA atA grA; have hbA : Below W3.heap.size W3 wA := ((((hb3).alloc (Nat.le_refl _) (.cells #[] 5)).alloc (by simp) (.cells #[] 5)).drew).grown grA ((((hb3).alloc (Nat.le_refl _) (.cells #[] 5)).alloc (by simp) (.cells #[] 5)).drew).size (fun y h => by cases h; omega); obtain ⟨a6, c6, rfl, _⟩ := own_val oA; have zA := grA.size)) | ((refine step_clone rfl _ _ (by rfl) W3.heap.size wA.heap.size (by rfl) (World.ownsRow_lit (base := W3.heap.size) (e := 5) (size := 1) wA #[] 0 hbA.size hm0 rfl) (.slice p2 m2 k2) zf (by rfl) (QF.out _ (bW3.trans ((hbA.alloc hbA.size (.cells #[] 5)).mono bW3.size))) hzf.out hlf (hbA.alloc hbA.size (.cells #[] 5)).size ?_; intro v7 wB FB oB ndB atB grB; have hbB : Below W3.heap.size W3 wB := (hbA.alloc hbA.size (.cells #[] 5)).grown grB (hbA.alloc hbA.size (.cells #[] 5)).size (fun y h => by cases h; first | omega | exact hbA.size); obtain ⟨a7, c7, rfl, _⟩ := own_val oB; have zB := grB.size; have oA7 : Own (.sl .u8) wB W3.heap.size [.slice a6 zb.length c6] zb FA := oA.keep (fun y hy => by (have h1 := atA y hy; have h2 := (oA.lt y hy).2; simp at h1 zA; refine (grB.block y (by first | omega | (simp; omega)) (by first | (simp; omega) | (intro h9; cases h9; omega))).trans ?_; first | rfl | exact heap_alloc_old _ _ h2)); have dAB : ∀ y ∈ FB, y ∉ FA := (fun y hy hy2 => by have h1 := atA y hy2; have h2 := atB y hy; have h3 := (oA.lt y hy2).2; simp at h1 h2 zA; omega))) | ((refine step_clone rfl _ _ (by rfl) W3.heap.size (W3.heap.size + 1) (by rfl) (HB3.out.kept grA (.inr (by simp [Value.ownBlock]))) (.slice p2 m2 k2) zf (by rfl) (QF.out _ (bW3.trans ((hbA).mono bW3.size))) hzf.out hlf (hbA).size ?_; intro v7 wB FB oB ndB atB grB; have hbB : Below W3.heap.size W3 wB := (hbA).grown grB (hbA).size (fun y h => by cases h; first | omega | exact hbA.size); obtain ⟨a7, c7, rfl, _⟩ := own_val oB; have zB := grB.size; have oA7 : Own (.sl .u8) wB W3.heap.size [.slice a6 zb.length c6] zb FA := oA.keep (fun y hy => by (have h1 := atA y hy; have h2 := (oA.lt y hy).2; simp at h1 zA; refine (grB.block y (by first | omega | (simp; omega)) (by first | (simp; omega) | (intro h9; cases h9; omega))).trans ?_; first | rfl | exact heap_alloc_old _ _ h2)); have dAB : ∀ y ∈ FB, y ∉ FA := (fun y hy hy2 => by have h1 := atA y hy2; have h2 := atB y hy; have h3 := (oA.lt y hy2).2; simp at h1 h2 zA; omega))) | ((refine step_clone rfl _ _ (by rfl) W3.heap.size W3.heap.size (by rfl) (HB2.out.kept grA (.inr (by simp [Value.ownBlock]))) (.slice p2 m2 k2) zf (by rfl) (QF.out _ (bW3.trans ((hbA).mono bW3.size))) hzf.out hlf (hbA).size ?_; intro v7 wB FB oB ndB atB grB; have hbB : Below W3.heap.size W3 wB := (hbA).grown grB (hbA).size (fun y h => by cases h; first | omega | exact hbA.size); obtain ⟨a7, c7, rfl, _⟩ := own_val oB; have zB := grB.size; have oA7 : Own (.sl .u8) wB W3.heap.size [.slice a6 zb.length c6] zb FA := oA.keep (fun y hy => by (have h1 := atA y hy; have h2 := (oA.lt y hy).2; simp at h1 zA; refine (grB.block y (by first | omega | (simp; omega)) (by first | (simp; omega) | (intro h9; cases h9; omega))).trans ?_; first | rfl | exact heap_alloc_old _ _ h2)); have dAB : ∀ y ∈ FB, y ∉ FA := (fun y hy hy2 => by have h1 := atA y hy2; have h2 := atB y hy; have h3 := (oA.lt y hy2).2; simp at h1 h2 zA; omega))) | ((refine step_append_lies _ (by rfl) _ _ 29 (by rfl) (w.heap.size + 2) 70 i0 (.agg #[.int .i64 0, .slice none 0 0, .slice none 0 0]) 3 56 Tryz.underlying29 hi hz0 hz1 hz2 rfl (by decide) vv k Cs.flatten (by rfl) ((((HG.out.later bwr3).later hbB).row).alloc _) ⟨wB.heap.size, 0, none⟩ 1 _ [.int .i64 y0, .slice a6 zb.length c6, .slice a7 zf.length c7] (by rfl) rfl (cells_new wB _ _) (by intro u hu; simp at hu; rcases hu with rfl | rfl | rfl <;> rfl) (by omega) (by unfold maxLen; omega) (by omega) (by have := hbB.size; simp; omega) (wB.heap.size + 1) (by simp) ?_; intro g8 cap8 w8 hrow8 grow8 at8 lt8; have t0 : w8.cell? ⟨wr.heap.size, 0, none⟩ = some (.int .i64 y0) := grow8.cell ((World.cell?_alloc_lt (a := ⟨wr.heap.size, 0, none⟩) (h := by have := hbB.size; show wr.heap.size < _; omega) ..).trans ((hbB.cell (p := ⟨wr.heap.size, 0, none⟩) (by omega)).trans yy0)) NB.out; have t1 : w8.cell? ⟨wr.heap.size, 1, none⟩ = some (.slice p1 m1 k1) := grow8.cell ((World.cell?_alloc_lt (a := ⟨wr.heap.size, 1, none⟩) (h := by have := hbB.size; show wr.heap.size < _; omega) ..).trans ((hbB.cell (p := ⟨wr.heap.size, 1, none⟩) (by omega)).trans yy1)) NB.out; have t2 : w8.cell? ⟨wr.heap.size, 2, none⟩ = some (.slice p2 m2 k2) := grow8.cell ((World.cell?_alloc_lt (a := ⟨wr.heap.size, 2, none⟩) (h := by have := hbB.size; show wr.heap.size < _; omega) ..).trans ((hbB.cell (p := ⟨wr.heap.size, 2, none⟩) (by omega)).trans yy2)) NB.out)))
      all_goals
        have bB := bW3.trans (hbB.mono bW3.size)
        have bBs := bB.size
        have hbBs := hbB.size
        have b8 : Below w.heap.size w w8 := (bB.alloc bBs _).grown grow8 (by simp; omega) (fun y h => by have := (HG.out.row.lt y h).1; omega)
        have hvl : ∀ y ∈ vv.ownBlock.toList ++ Fs.flatten, w.heap.size + 2 ≤ y ∧ y < wr.heap.size := HG.out.lt
        have oN : Own shNode (wB.alloc (.cells #[.int .i64 y0, .slice a6 zb.length c6, .slice a7 zf.length c7] 70)) (w.heap.size + 2) [.int .i64 y0, .slice a6 zb.length c6, .slice a7 zf.length c7] (y0, zb, zf, ()) (FA ++ (FB ++ [])) :=
          (own_Node (d := (y0, zb, zf, ())) (oA7.base (by omega)) (oB.base (by omega))).later ((Below.refl _ _).alloc (Nat.le_refl _) _)
        have hnF : (FA ++ (FB ++ [])).Nodup := by
          rw [List.append_nil, List.nodup_append]
          exact ⟨ndA, ndB, fun a ha b hb e => dAB b hb (e ▸ ha)⟩
        have hdF : ∀ y ∈ FA ++ (FB ++ []), y ∉ vv.ownBlock.toList ++ Fs.flatten := by
          intro y hy hm
          have h1 := (hvl y hm).2
          rw [List.append_nil] at hy
          rcases List.mem_append.1 hy with h2 | h2
          · have := (oA7.lt y h2).1; omega
          · have := (oB.lt y h2).1; omega
        have hG8 := (((HG.out.later bwr3).later hbB).later ((Below.refl _ _).alloc (Nat.le_refl _) (.cells #[.int .i64 y0, .slice a6 zb.length c6, .slice a7 zf.length c7] 70))).push oN hnF hdF hrow8 grow8 (by
          rcases at8 with h | h
          · exact .inl h
          · right; simp; omega)
        have HG8 : Hid (Gath shNode 70 w8 (w.heap.size + 2) (.slice (some ⟨g8, 0, none⟩) (k + 1) cap8) (k + 1) (nd.take (k + 1)) (Cs ++ [[.int .i64 y0, .slice a6 zb.length c6, .slice a7 zf.length c7]]) (Fs ++ [FA ++ (FB ++ [])])) :=
          hG8.cast HX.out.symm
        have hold : ∀ y, y < w.heap.size + 2 → w8.heap[y]? = wr.heap[y]? := by
          intro y hy
          refine (grow8.block y (by simp; omega) (fun e => by have := (HG.out.row.lt y e.symm).1; omega)).trans ?_
          refine (heap_alloc_old _ _ (by omega)).trans ?_
          exact (hbB.block y (by omega)).trans (bwr3.block y (by omega))
        have HBX8 : Hid (w8.heap[w.heap.size]? = some (.cells #[.int .i64 x0, .int .i64 x1, .int .i64 x2, .slice (some ⟨g3, 0, none⟩) n3 c3, .slice a4 n4 c4, .slice a5 n5 c5] 33 (0, 0)) ∧ w8.heap[w.heap.size + 1]? = some (.cells #[.int .i64 0, .int .i64 0, .int .i64 0, .slice none 0 0, .slice none 0 0, .slice none 0 0] 33 (0, 0))) := ⟨(hold _ (by omega)).trans HBX.out.1, (hold _ (by omega)).trans HBX.out.2⟩
        have hsz8 : w.heap.size + 2 ≤ w8.heap.size := by have := grow8.size; simp at this; omega
        clear HG HBX hG8 oN hnF hdF hvl hold hrow8 grow8 at8 lt8 oA7 oA oB atA atB dAB grA grB hbA hbB t0 t1 t2 yy0 yy1 yy2 g0 g1 g2 HA1 HA2 HA3 HB2 HB3 NB
        go_wp2
        go_roundw
        case rel => exact ⟨k + 1, _, _, _, by omega, rfl, by go_num, HG8, b8, hsz8, HBX8⟩
        case measure => simp [intOf]; omega
    · have e : k = n3 := by omega
      subst e
      have hGa : Hid (Gath shNode 70 wr (w.heap.size + 2) vv k nd Cs Fs) := by
        have e9 : nd.take k = nd := List.take_of_length_le (by have := HL.out.1; omega)
        exact HG.out.cast e9
      clear HG
      obtain ⟨av, cv, rfl⟩ := hGa.out.form
      have zlt : w.heap.size < wr.heap.size := by omega
      have HLN : Hid (∀ y ∈ (Value.slice av k cv).ownBlock.toList ++ Fs.flatten, w.heap.size + 2 ≤ y ∧ y < wr.heap.size) := hGa.out.lt
      have q3 : wr.cell? ⟨w.heap.size, 3, none⟩ = some (.slice a3 k c3) := box_cell HBX.out.1 rfl
      have r3 : wr.frozen? ⟨w.heap.size, 3, none⟩ = false := box_frozen HBX.out.1
      have q4 : wr.cell? ⟨w.heap.size, 4, none⟩ = some (.slice a4 n4 c4) := box_cell HBX.out.1 rfl
      obtain ⟨U0, hU0⟩ : ∃ U, U = wr.setCell ⟨w.heap.size, 3, none⟩ (.slice av k cv) := ⟨_, rfl⟩
      have zU0 : U0.heap.size = wr.heap.size := by rw [hU0]; simp
      have bU0 : Below w.heap.size w U0 := by rw [hU0]; exact hbel.setCell (Nat.le_refl _) _
      have hd0 : U0.heap[w.heap.size]? = some (.cells #[.int .i64 x0, .int .i64 x1, .int .i64 x2, .slice av k cv, .slice a4 n4 c4, .slice a5 n5 c5] 33 (0, 0)) := by rw [hU0, box_set _ HBX.out.1]; rfl
      have hr0 : U0.heap[w.heap.size + 1]? = some (.cells #[.int .i64 0, .int .i64 0, .int .i64 0, .slice none 0 0, .slice none 0 0, .slice none 0 0] 33 (0, 0)) := by rw [hU0]; exact (box_other _ (by omega)).trans HBX.out.2
      have G0 : Gath shNode 70 U0 (w.heap.size + 2) (.slice av k cv) k nd Cs Fs := by rw [hU0]; exact hGa.out.other _ _ _ (by omega)
      have HU0 : Hid (U0 = wr.setCell ⟨w.heap.size, 3, none⟩ (.slice av k cv)) := hU0
      have aU0 : Below w.heap.size w (U0.alloc (.cells #[] 111)) := bU0.alloc bU0.size _
      have KL : Hid ((cellsL kp).length = n4 * 2 ∧ Src (U0.alloc (.cells #[] 111)) (.slice a4 n4 c4) n4 (cellsL kp) ∧ 0 + n4 ≤ maxLen ∧ wr.heap.size ≤ (U0.alloc (.cells #[] 111)).heap.size ∧ (0 + n4) * 24 ≤ 140737488355328) := by
        refine ⟨by rw [cellsL_len, HL.out.2.1], ?_, by unfold maxLen; omega, by simp; omega, by omega⟩
        have h2 := src_links (HR.out.2.1.later aU0)
        rw [HL.out.2.1] at h2; exact h2
      have KO : Hid ((U0.alloc (.cells #[] 111)).ownsRow wr.heap.size 111 2 (.slice (some ⟨wr.heap.size, 0, none⟩) 0 0) 0 []) := by
        show World.ownsRow _ _ _ _ _ _ _
        have := World.ownsRow_lit (base := wr.heap.size) (e := 111) (size := 2) U0 #[] 0 (by omega) hm0 rfl
        rw [zU0] at this; exact this
      have H0' : Hid (Below w.heap.size w U0 ∧ U0.heap[w.heap.size]? = some (.cells #[.int .i64 x0, .int .i64 x1, .int .i64 x2, .slice av k cv, .slice a4 n4 c4, .slice a5 n5 c5] 33 (0, 0)) ∧ U0.heap[w.heap.size + 1]? = some (.cells #[.int .i64 0, .int .i64 0, .int .i64 0, .slice none 0 0, .slice none 0 0, .slice none 0 0] 33 (0, 0)) ∧ Gath shNode 70 U0 (w.heap.size + 2) (.slice av k cv) k nd Cs Fs ∧ U0.heap.size = wr.heap.size) := ⟨bU0, hd0, hr0, G0, zU0⟩
      clear hU0 zU0 bU0 hd0 hr0 G0 aU0 HBX hGa H0
      obtain ⟨j0, hj, hy0, hy1, hy2⟩ := info_parts infoLink
      obtain ⟨t0, ht, hx0, hx1, hx2⟩ := info_parts infoTurn
      go_wp2_with (at_builtin; rw [← HU0.out]; refine wpList_append_src rfl _ _ 30 rfl wr.heap.size 111 j0 (.agg #[.string ByteArray.empty, .int .i64 0]) 2 24 Tryz.underlying30 hj hy0 hy1 hy2 rfl (by decide) _ 0 [] rfl KO.out (.slice a4 n4 c4) n4 (cellsL kp) rfl KL.out.1 KL.out.2.1 (cellsL_one _) KL.out.2.2.1 KL.out.2.2.2.2 KL.out.2.2.2.1 ?_)
      intro v1 w1 hown1 grow1
      have hown1' : w1.ownsRow wr.heap.size 111 2 v1 n4 (cellsL kp) := by simpa using hown1
      obtain ⟨FK, oK, ndK, atK, av1, cv1, rfl⟩ := own_linksW HL.out.2.1 HL.out.2.2.2.1 hown1'
      obtain ⟨bU0, hd0, hr0, G0, zU0⟩ := H0'.out
      have aU0 : Below U0.heap.size U0 (U0.alloc (.cells #[] 111)) := (Below.refl _ _).alloc (Nat.le_refl _) _
      have hold1 : ∀ y, y < wr.heap.size → w1.heap[y]? = U0.heap[y]? := fun y hy => (grow1.block y (by simp; omega) (by simp [Value.ownBlock]; omega)).trans (heap_alloc_old _ _ (by omega))
      have b1 : Below w.heap.size w w1 := (bU0.alloc bU0.size _).grown grow1 (by simp; omega) (fun y h => by simp [Value.ownBlock] at h; omega)
      have G1 : Gath shNode 70 w1 (w.heap.size + 2) (.slice av k cv) k nd Cs Fs := G0.keep fun y hy => hold1 y (by have := (G0.lt y hy).2; omega)
      have zl1 : wr.heap.size < w1.heap.size := by have := grow1.size; simp at this; omega
      have hlt1 : ∀ y ∈ FK, wr.heap.size ≤ y ∧ y < w1.heap.size := oK.lt
      obtain ⟨U1, hU1⟩ : ∃ U, U = w1.setCell ⟨w.heap.size, 4, none⟩ (.slice av1 n4 cv1) := ⟨_, rfl⟩
      have hd1 := (hold1 _ (by omega)).trans hd0
      have hr1 := (hold1 _ (by omega)).trans hr0
      have zlt1 : w.heap.size < w1.heap.size := by omega
      have q4' : w1.cell? ⟨w.heap.size, 4, none⟩ = some (.slice a4 n4 c4) := box_cell hd1 rfl
      have r4' : w1.frozen? ⟨w.heap.size, 4, none⟩ = false := box_frozen hd1
      have q5' : w1.cell? ⟨w.heap.size, 5, none⟩ = some (.slice a5 n5 c5) := box_cell hd1 rfl
      have bU1 : Below w.heap.size w U1 := by rw [hU1]; exact b1.setCell (Nat.le_refl _) _
      have zU1 : U1.heap.size = w1.heap.size := by rw [hU1]; simp
      have hd1' : U1.heap[w.heap.size]? = some (.cells #[.int .i64 x0, .int .i64 x1, .int .i64 x2, .slice av k cv, .slice av1 n4 cv1, .slice a5 n5 c5] 33 (0, 0)) := by rw [hU1, box_set _ hd1]; rfl
      have hr1' : U1.heap[w.heap.size + 1]? = some (.cells #[.int .i64 0, .int .i64 0, .int .i64 0, .slice none 0 0, .slice none 0 0, .slice none 0 0] 33 (0, 0)) := by rw [hU1]; exact (box_other _ (by omega)).trans hr1
      have G1' : Gath shNode 70 U1 (w.heap.size + 2) (.slice av k cv) k nd Cs Fs := by rw [hU1]; exact G1.other _ _ _ (by omega)
      have oK' : Own (.sl shLink) U1 wr.heap.size [.slice av1 n4 cv1] kp FK := by rw [hU1]; exact oK.keep fun y hy => box_other _ (by have := (hlt1 y hy).1; omega)
      have HU1 : Hid (U1 = w1.setCell ⟨w.heap.size, 4, none⟩ (.slice av1 n4 cv1)) := hU1
      have KT : Hid ((cellsT tn).length = n5 * 4 ∧ Src (U1.alloc (.cells #[] 93)) (.slice a5 n5 c5) n5 (cellsT tn) ∧ 0 + n5 ≤ maxLen ∧ w1.heap.size ≤ (U1.alloc (.cells #[] 93)).heap.size ∧ (0 + n5) * 48 ≤ 140737488355328) := by
        refine ⟨by rw [cellsT_len, HL.out.2.2.1], ?_, by unfold maxLen; omega, by simp; omega, by omega⟩
        have h2 := src_turns (HR.out.2.2.later (bU1.alloc bU1.size (.cells #[] 93)))
        rw [HL.out.2.2.1] at h2; exact h2
      have KO2 : Hid ((U1.alloc (.cells #[] 93)).ownsRow w1.heap.size 93 4 (.slice (some ⟨w1.heap.size, 0, none⟩) 0 0) 0 []) := by
        show World.ownsRow _ _ _ _ _ _ _
        have := World.ownsRow_lit (base := w1.heap.size) (e := 93) (size := 4) U1 #[] 0 (by omega) hm0 rfl
        rw [zU1] at this; exact this
      have H1' : Hid (Below w.heap.size w U1 ∧ U1.heap[w.heap.size]? = some (.cells #[.int .i64 x0, .int .i64 x1, .int .i64 x2, .slice av k cv, .slice av1 n4 cv1, .slice a5 n5 c5] 33 (0, 0)) ∧ U1.heap[w.heap.size + 1]? = some (.cells #[.int .i64 0, .int .i64 0, .int .i64 0, .slice none 0 0, .slice none 0 0, .slice none 0 0] 33 (0, 0)) ∧ Gath shNode 70 U1 (w.heap.size + 2) (.slice av k cv) k nd Cs Fs ∧ U1.heap.size = w1.heap.size ∧ Own (.sl shLink) U1 wr.heap.size [.slice av1 n4 cv1] kp FK) := ⟨bU1, hd1', hr1', G1', zU1, oK'⟩
      clear hown1 hown1' grow1 bU0 hd0 hr0 G0 zU0 aU0 hold1 b1 G1 hd1 hr1 bU1 zU1 hd1' hr1' G1' oK' oK atK hU1 H0' KL KO q3 r3 q4 HU0
      go_wp2_with (at_builtin; rw [← HU1.out]; refine wpList_append_src rfl _ _ 31 rfl w1.heap.size 93 t0 (.agg #[.int .i64 0, .string ByteArray.empty, .string ByteArray.empty, .int .i64 0]) 4 48 Tryz.underlying31 ht hx0 hx1 hx2 rfl (by decide) _ 0 [] rfl KO2.out (.slice a5 n5 c5) n5 (cellsT tn) rfl KT.out.1 KT.out.2.1 (cellsT_one _) KT.out.2.2.1 KT.out.2.2.2.2 KT.out.2.2.2.1 ?_)
      intro v2 w2 hown2 grow2
      have hown2' : w2.ownsRow w1.heap.size 93 4 v2 n5 (cellsT tn) := by simpa using hown2
      obtain ⟨FT, oT, ndT, atT, av2, cv2, rfl⟩ := own_turnsV HL.out.2.2.1 HL.out.2.2.2.2 hown2'
      obtain ⟨bU1, hd1, hr1, G1, zU1, oK⟩ := H1'.out
      have hold2 : ∀ y, y < w1.heap.size → w2.heap[y]? = U1.heap[y]? := fun y hy => (grow2.block y (by simp; omega) (by simp [Value.ownBlock]; omega)).trans (heap_alloc_old _ _ (by omega))
      have b2 : Below w.heap.size w w2 := (bU1.alloc bU1.size _).grown grow2 (by simp; omega) (fun y h => by simp [Value.ownBlock] at h; omega)
      have G2 : Gath shNode 70 w2 (w.heap.size + 2) (.slice av k cv) k nd Cs Fs := G1.keep fun y hy => hold2 y (by have := (G1.lt y hy).2; omega)
      have oK2 : Own (.sl shLink) w2 wr.heap.size [.slice av1 n4 cv1] kp FK := oK.keep fun y hy => hold2 y (by have := (oK.lt y hy).2; omega)
      have zl2 : w1.heap.size < w2.heap.size := by have := grow2.size; simp at this; omega
      have hltT : ∀ y ∈ FT, w1.heap.size ≤ y ∧ y < w2.heap.size := oT.lt
      have hd2 := (hold2 _ (by omega)).trans hd1
      have hr2 := (hold2 _ (by omega)).trans hr1
      have q0 : w2.cell? ⟨w.heap.size, 0, none⟩ = some (.int .i64 x0) := box_cell hd2 rfl
      have q1 : w2.cell? ⟨w.heap.size, 1, none⟩ = some (.int .i64 x1) := box_cell hd2 rfl
      have q2 : w2.cell? ⟨w.heap.size, 2, none⟩ = some (.int .i64 x2) := box_cell hd2 rfl
      have q3 : w2.cell? ⟨w.heap.size, 3, none⟩ = some (.slice av k cv) := box_cell hd2 rfl
      have q4 : w2.cell? ⟨w.heap.size, 4, none⟩ = some (.slice av1 n4 cv1) := box_cell hd2 rfl
      have q5 : w2.cell? ⟨w.heap.size, 5, none⟩ = some (.slice a5 n5 c5) := box_cell hd2 rfl
      have r5 : w2.frozen? ⟨w.heap.size, 5, none⟩ = false := box_frozen hd2
      have s0 : w2.cell? ⟨w.heap.size + 1, 0, none⟩ = some (.int .i64 0) := box_cell hr2 rfl
      have u0 : w2.frozen? ⟨w.heap.size + 1, 0, none⟩ = false := box_frozen hr2
      have s1 : w2.cell? ⟨w.heap.size + 1, 1, none⟩ = some (.int .i64 0) := box_cell hr2 rfl
      have u1 : w2.frozen? ⟨w.heap.size + 1, 1, none⟩ = false := box_frozen hr2
      have s2 : w2.cell? ⟨w.heap.size + 1, 2, none⟩ = some (.int .i64 0) := box_cell hr2 rfl
      have u2 : w2.frozen? ⟨w.heap.size + 1, 2, none⟩ = false := box_frozen hr2
      have s3 : w2.cell? ⟨w.heap.size + 1, 3, none⟩ = some (.slice none 0 0) := box_cell hr2 rfl
      have u3 : w2.frozen? ⟨w.heap.size + 1, 3, none⟩ = false := box_frozen hr2
      have s4 : w2.cell? ⟨w.heap.size + 1, 4, none⟩ = some (.slice none 0 0) := box_cell hr2 rfl
      have u4 : w2.frozen? ⟨w.heap.size + 1, 4, none⟩ = false := box_frozen hr2
      have s5 : w2.cell? ⟨w.heap.size + 1, 5, none⟩ = some (.slice none 0 0) := box_cell hr2 rfl
      have u5 : w2.frozen? ⟨w.heap.size + 1, 5, none⟩ = false := box_frozen hr2
      obtain ⟨FN, oN, ndN, inN⟩ := G2.own
      have hfin : ∃ W, W = (((((((w2.setCell ⟨w.heap.size, 5, none⟩ (.slice av2 n5 cv2)).setCell ⟨w.heap.size + 1, 0, none⟩ (.int .i64 x0)).setCell ⟨w.heap.size + 1, 1, none⟩ (.int .i64 x1)).setCell ⟨w.heap.size + 1, 2, none⟩ (.int .i64 x2)).setCell ⟨w.heap.size + 1, 3, none⟩ (.slice av k cv)).setCell ⟨w.heap.size + 1, 4, none⟩ (.slice av1 n4 cv1)).setCell ⟨w.heap.size + 1, 5, none⟩ (.slice av2 n5 cv2)) ∧ Own shDisk W w.heap.size [.int .i64 x0, .int .i64 x1, .int .i64 x2, .slice av k cv, .slice av1 n4 cv1, .slice av2 n5 cv2] d (FN ++ (FK ++ (FT ++ []))) ∧ Below w.heap.size w W ∧ (FN ++ (FK ++ (FT ++ []))).Nodup ∧ W.heap[w.heap.size + 1]? = some (.cells #[.int .i64 x0, .int .i64 x1, .int .i64 x2, .slice av k cv, .slice av1 n4 cv1, .slice av2 n5 cv2] 33 (0, 0)) := by
        refine ⟨_, rfl, ?_, ?_, ?_, ?_⟩
        · have keep : ∀ y, w.heap.size + 2 ≤ y → ((((((((w2.setCell ⟨w.heap.size, 5, none⟩ (.slice av2 n5 cv2)).setCell ⟨w.heap.size + 1, 0, none⟩ (.int .i64 x0)).setCell ⟨w.heap.size + 1, 1, none⟩ (.int .i64 x1)).setCell ⟨w.heap.size + 1, 2, none⟩ (.int .i64 x2)).setCell ⟨w.heap.size + 1, 3, none⟩ (.slice av k cv)).setCell ⟨w.heap.size + 1, 4, none⟩ (.slice av1 n4 cv1)).setCell ⟨w.heap.size + 1, 5, none⟩ (.slice av2 n5 cv2))).heap[y]? = w2.heap[y]? := fun y hy => ((box_other (b := w.heap.size + 1) (j := 5) _ (by omega)).trans ((box_other (b := w.heap.size + 1) (j := 4) _ (by omega)).trans ((box_other (b := w.heap.size + 1) (j := 3) _ (by omega)).trans ((box_other (b := w.heap.size + 1) (j := 2) _ (by omega)).trans ((box_other (b := w.heap.size + 1) (j := 1) _ (by omega)).trans ((box_other (b := w.heap.size + 1) (j := 0) _ (by omega)).trans (box_other (w := w2) (b := w.heap.size) (j := 5) _ (by omega))))))))
          have k1 : Own (.sl shNode) ((((((((w2.setCell ⟨w.heap.size, 5, none⟩ (.slice av2 n5 cv2)).setCell ⟨w.heap.size + 1, 0, none⟩ (.int .i64 x0)).setCell ⟨w.heap.size + 1, 1, none⟩ (.int .i64 x1)).setCell ⟨w.heap.size + 1, 2, none⟩ (.int .i64 x2)).setCell ⟨w.heap.size + 1, 3, none⟩ (.slice av k cv)).setCell ⟨w.heap.size + 1, 4, none⟩ (.slice av1 n4 cv1)).setCell ⟨w.heap.size + 1, 5, none⟩ (.slice av2 n5 cv2))) w.heap.size [.slice av k cv] nd FN := (oN.keep fun y hy => keep y (G2.lt y (inN y hy)).1).base (by omega)
          have k2 : Own (.sl shLink) ((((((((w2.setCell ⟨w.heap.size, 5, none⟩ (.slice av2 n5 cv2)).setCell ⟨w.heap.size + 1, 0, none⟩ (.int .i64 x0)).setCell ⟨w.heap.size + 1, 1, none⟩ (.int .i64 x1)).setCell ⟨w.heap.size + 1, 2, none⟩ (.int .i64 x2)).setCell ⟨w.heap.size + 1, 3, none⟩ (.slice av k cv)).setCell ⟨w.heap.size + 1, 4, none⟩ (.slice av1 n4 cv1)).setCell ⟨w.heap.size + 1, 5, none⟩ (.slice av2 n5 cv2))) w.heap.size [.slice av1 n4 cv1] kp FK := (oK2.keep fun y hy => keep y (by have := (hlt1 y hy).1; omega)).base (by omega)
          have k3 : Own (.sl shTurn) ((((((((w2.setCell ⟨w.heap.size, 5, none⟩ (.slice av2 n5 cv2)).setCell ⟨w.heap.size + 1, 0, none⟩ (.int .i64 x0)).setCell ⟨w.heap.size + 1, 1, none⟩ (.int .i64 x1)).setCell ⟨w.heap.size + 1, 2, none⟩ (.int .i64 x2)).setCell ⟨w.heap.size + 1, 3, none⟩ (.slice av k cv)).setCell ⟨w.heap.size + 1, 4, none⟩ (.slice av1 n4 cv1)).setCell ⟨w.heap.size + 1, 5, none⟩ (.slice av2 n5 cv2))) w.heap.size [.slice av2 n5 cv2] tn FT := (oT.keep fun y hy => keep y (by have := (hltT y hy).1; omega)).base (by omega)
          generalize ((((((((w2.setCell ⟨w.heap.size, 5, none⟩ (.slice av2 n5 cv2)).setCell ⟨w.heap.size + 1, 0, none⟩ (.int .i64 x0)).setCell ⟨w.heap.size + 1, 1, none⟩ (.int .i64 x1)).setCell ⟨w.heap.size + 1, 2, none⟩ (.int .i64 x2)).setCell ⟨w.heap.size + 1, 3, none⟩ (.slice av k cv)).setCell ⟨w.heap.size + 1, 4, none⟩ (.slice av1 n4 cv1)).setCell ⟨w.heap.size + 1, 5, none⟩ (.slice av2 n5 cv2))) = WW at k1 k2 k3 ⊢
          obtain ⟨h0, h1, h2, h3, h4, h5⟩ := HD.out
          subst h0 h1 h2 h3 h4 h5
          exact own_Disk k1 k2 k3
        · exact ((((((b2.setCell (Nat.le_refl _) _).setCell (by simp) _).setCell (by simp) _).setCell (by simp) _).setCell (by simp) _).setCell (by simp) _).setCell (by simp) _
        · rw [List.append_nil, List.nodup_append, List.nodup_append]
          refine ⟨ndN, ⟨ndK, ndT, fun a ha b hb e => by have h1 := (hlt1 a ha).2; have h2 := (hltT b hb).1; omega⟩, fun a ha b hb e => ?_⟩
          have h3 := (HLN.out a (inN a ha)).2
          rcases List.mem_append.1 hb with h | h
          · have h2 := (hlt1 b h).1; omega
          · have h2 := (hltT b h).1; omega
        · have h9 := (box_set (j := 5) (.slice av2 n5 cv2) (box_set (j := 4) (.slice av1 n4 cv1) (box_set (j := 3) (.slice av k cv) (box_set (j := 2) (.int .i64 x2) (box_set (j := 1) (.int .i64 x1) (box_set (j := 0) (.int .i64 x0) ((box_other (w := w2) (b := w.heap.size) (j := 5) (.slice av2 n5 cv2) (k := w.heap.size + 1) (by omega)).trans hr2)))))))
          rw [h9]; rfl
      obtain ⟨WF, hWF, oF, bF, nF, xF⟩ := hfin
      have HF : Hid (WF = (((((((w2.setCell ⟨w.heap.size, 5, none⟩ (.slice av2 n5 cv2)).setCell ⟨w.heap.size + 1, 0, none⟩ (.int .i64 x0)).setCell ⟨w.heap.size + 1, 1, none⟩ (.int .i64 x1)).setCell ⟨w.heap.size + 1, 2, none⟩ (.int .i64 x2)).setCell ⟨w.heap.size + 1, 3, none⟩ (.slice av k cv)).setCell ⟨w.heap.size + 1, 4, none⟩ (.slice av1 n4 cv1)).setCell ⟨w.heap.size + 1, 5, none⟩ (.slice av2 n5 cv2)) ∧ Own shDisk WF w.heap.size [.int .i64 x0, .int .i64 x1, .int .i64 x2, .slice av k cv, .slice av1 n4 cv1, .slice av2 n5 cv2] d (FN ++ (FK ++ (FT ++ []))) ∧ Below w.heap.size w WF ∧ (FN ++ (FK ++ (FT ++ []))).Nodup) := ⟨hWF, oF, bF, nF⟩
      have v0 : WF.cell? ⟨w.heap.size + 1, 0, none⟩ = some (.int .i64 x0) := box_cell xF rfl
      have v1 : WF.cell? ⟨w.heap.size + 1, 1, none⟩ = some (.int .i64 x1) := box_cell xF rfl
      have v2 : WF.cell? ⟨w.heap.size + 1, 2, none⟩ = some (.int .i64 x2) := box_cell xF rfl
      have v3 : WF.cell? ⟨w.heap.size + 1, 3, none⟩ = some (.slice av k cv) := box_cell xF rfl
      have v4 : WF.cell? ⟨w.heap.size + 1, 4, none⟩ = some (.slice av1 n4 cv1) := box_cell xF rfl
      have v5 : WF.cell? ⟨w.heap.size + 1, 5, none⟩ = some (.slice av2 n5 cv2) := box_cell xF rfl
      have zlt2 : w.heap.size < w2.heap.size := by omega
      have zlt3 : w.heap.size + 1 < w2.heap.size := by omega
      clear hWF oF bF nF xF oN ndN inN G2 G1 hd2 hr2 hd1 hr1 oK2 oK oT grow2 hown2 hown2' hold2 b2 bU1 zU1 KT KO2 H1' q4' r4' q5' atT ndK ndT hlt1 hltT
      go_wp2
      rw [← HF.out.1]
      exact bodyPost_ret (v := .agg #[.int .i64 x0, .int .i64 x1, .int .i64 x2, .slice av k cv, .slice av1 n4 cv1, .slice av2 n5 cv2]) (by simp [results, Tryz.results32, go_sem, v0, v1, v2, v3, v4, v5]) rfl ⟨_, _, rfl, HF.out.2.1, HF.out.2.2.2, HF.out.2.2.1⟩

end Go.Proofs.YtkaegbhmeonjfaaGreat

/- CrashS: DiskCrash of the model. By program (crashsgen.py). -/
namespace Go.Proofs.YtkaegbhmeonjfaaGreat
open Go.RowKit
set_option linter.unusedVariables false
set_option maxRecDepth 100000
set_option linter.unusedSimpArgs false

theorem specOkR_ok (cs : List Value) (d : shDisk.D) (w : World) (hr : Reads shDisk w cs d) (hs : shDisk.sz d ≤ 1048576) :
    Calls Tryz.prog 31 #[.agg cs.toArray] w fun e w' => e = .returned (.bool (implOkB d)) ∧ Below w.heap.size w w' :=
  specOk_ok (implOkB d) cs d w (fun h => (ok_same d).1 h) (fun h => by
    cases e : implOkB d with
    | false => rfl
    | true => exact absurd ((ok_same d).2 e) h) hr hs

/-- Tear of the model, up to its answer's own memory. -/
theorem specTearV (a b : Option Addr) (n m ca cb : Nat) (xs ys : List Int) (k : Int) (B1 B2 : Nat) (F1 F2 : List Nat) (w : World) (h1 : Own (.sl .u8) w B1 [.slice a n ca] xs F1) (h2 : Own (.sl .u8) w B2 [.slice b m cb] ys F2) (hn : n ≤ 1048576) (hm : m ≤ 1048576) (hk1 : -9223372036854775808 ≤ k) (hk2 : k ≤ 9223372036854775807) :
    Calls Tryz.prog 35 #[.slice a n ca, .slice b m cb, .int .i64 k] w fun e w' => ∃ va nv vc F, e = .returned (.slice va nv vc) ∧ Own (.sl .u8) w' w.heap.size [.slice va nv vc] (tear xs ys k) F ∧ F.Nodup ∧ nv = (tear xs ys k).length ∧ Below w.heap.size w w' := by
  obtain ⟨l1, r1, c1, cm1⟩ := reads_bytes h1.reads
  obtain ⟨l2, r2, c2, cm2⟩ := reads_bytes h2.reads
  have z1 : a = none → ca = 0 := fun e => by subst e; exact (own_nil h1).2.1
  have z2 : b = none → cb = 0 := fun e => by subst e; exact (own_nil h2).2.1
  refine (specTear_any a b n m ca cb xs ys k w l1 l2 r1 r2 (by omega) (by omega) c1 c2 cm1 cm2 z1 z2 hk1 hk2).mono ?_
  rintro e w' ⟨v, rfl, ho, hb⟩
  obtain ⟨F, hF, hnd⟩ := own_row rfl (tear_byt k r1.1 r2.1) ho
  obtain ⟨va, vc, rfl, _⟩ := own_val hF
  exact ⟨va, _, vc, F, rfl, hF, hnd, rfl, hb⟩

set_option maxRecDepth 100000 in
set_option maxHeartbeats 2000000 in
theorem specCrash_bad (cs : List Value) (tn : Int) (vc6 : Value) (d : shDisk.D) (w : World) (hr : Reads shDisk w cs d) (hs : shDisk.sz d ≤ 1048576) (hok : implOkB d = false) :
    Calls Tryz.prog 7 #[.agg cs.toArray, .int .i64 tn, vc6] w fun e w' => e = .returned (.tuple #[.agg #[.int .i64 0, .int .i64 0, .int .i64 0, .slice none 0 0, .slice none 0 0, .slice none 0 0], .bool false]) ∧ Below w.heap.size w w' := by
  obtain ⟨a3, n3, c3, a4, n4, c4, a5, n5, c5, rfl, r3, r4, r5⟩ := open_Disk hr
  obtain ⟨x0, e0⟩ : ∃ x : Int, x = d.1 := ⟨_, rfl⟩
  obtain ⟨x1, e1⟩ : ∃ x : Int, x = d.2.1 := ⟨_, rfl⟩
  obtain ⟨x2, e2⟩ : ∃ x : Int, x = d.2.2.1 := ⟨_, rfl⟩
  have qok : Hid (∀ w', Below w.heap.size w w' → Calls Tryz.prog 31 #[.agg #[.int .i64 x0, .int .i64 x1, .int .i64 x2, .slice a3 n3 c3, .slice a4 n4 c4, .slice a5 n5 c5]] w' fun e w'' => e = .returned (.bool false) ∧ Below w'.heap.size w' w'') := fun w' h' => by
    rw [e0, e1, e2, ← hok]; exact specOkR_ok _ d w' (hr.later h') hs
  rw [← e0, ← e1, ← e2]
  obtain ⟨W0, hW0⟩ : ∃ W0, W0 = (w.alloc (.cells #[.int .i64 x0, .int .i64 x1, .int .i64 x2, .slice a3 n3 c3, .slice a4 n4 c4, .slice a5 n5 c5] 33)).alloc (.cells #[.int .i64 0, .int .i64 0, .int .i64 0, .slice none 0 0, .slice none 0 0, .slice none 0 0] 33) := ⟨_, rfl⟩
  have bW0 : Below w.heap.size w W0 := by rw [hW0]; exact ((Below.refl _ _).alloc (Nat.le_refl _) _).alloc (by simp) _
  have hB : W0.heap[w.heap.size + 1]? = some (.cells #[.int .i64 0, .int .i64 0, .int .i64 0, .slice none 0 0, .slice none 0 0, .slice none 0 0] 33 (0, 0)) := by rw [hW0]; have := heap_alloc_new (w.alloc (.cells #[.int .i64 x0, .int .i64 x1, .int .i64 x2, .slice a3 n3 c3, .slice a4 n4 c4, .slice a5 n5 c5] 33)) (.cells #[.int .i64 0, .int .i64 0, .int .i64 0, .slice none 0 0, .slice none 0 0, .slice none 0 0] 33); simpa using this
  have zW0 : W0.heap.size = w.heap.size + 1 + 1 := by rw [hW0]; simp
  have HW0 : Hid (W0 = _) := hW0
  have HB : Hid _ := hB
  clear hr hs r3 r4 r5 e0 e1 e2 hok hW0 hB
  go_enter Tryz.func7, Tryz.ntmps7
  go_wp2_with fail
  rw [← HW0.out]
  refine (qok.out _ bW0).mono ?_
  rintro e w1 ⟨rfl, hb1⟩
  have b1 := bW0.trans (hb1.mono bW0.size)
  have i1 : w1.heap[w.heap.size + 1]? = some (.cells #[.int .i64 0, .int .i64 0, .int .i64 0, .slice none 0 0, .slice none 0 0, .slice none 0 0] 33 (0, 0)) := (hb1.block _ (by omega)).trans HB.out
  have yr0 : w1.cell? ⟨w.heap.size + 1, 0, none⟩ = some (.int .i64 0) := box_cell i1 rfl
  have yg0 : w1.frozen? ⟨w.heap.size + 1, 0, none⟩ = false := box_frozen i1
  have yr1 : w1.cell? ⟨w.heap.size + 1, 1, none⟩ = some (.int .i64 0) := box_cell i1 rfl
  have yg1 : w1.frozen? ⟨w.heap.size + 1, 1, none⟩ = false := box_frozen i1
  have yr2 : w1.cell? ⟨w.heap.size + 1, 2, none⟩ = some (.int .i64 0) := box_cell i1 rfl
  have yg2 : w1.frozen? ⟨w.heap.size + 1, 2, none⟩ = false := box_frozen i1
  have yr3 : w1.cell? ⟨w.heap.size + 1, 3, none⟩ = some (.slice none 0 0) := box_cell i1 rfl
  have yg3 : w1.frozen? ⟨w.heap.size + 1, 3, none⟩ = false := box_frozen i1
  have yr4 : w1.cell? ⟨w.heap.size + 1, 4, none⟩ = some (.slice none 0 0) := box_cell i1 rfl
  have yg4 : w1.frozen? ⟨w.heap.size + 1, 4, none⟩ = false := box_frozen i1
  have yr5 : w1.cell? ⟨w.heap.size + 1, 5, none⟩ = some (.slice none 0 0) := box_cell i1 rfl
  have yg5 : w1.frozen? ⟨w.heap.size + 1, 5, none⟩ = false := box_frozen i1
  have yz0 : ((w1).setCell ⟨w.heap.size + 1, 0, none⟩ (.int .i64 0)).cell? ⟨w.heap.size + 1, 0, none⟩ = some (.int .i64 0) := World.cell?_setCell_same _ _ _ (by exact yr0)
  have yz1 : (((w1).setCell ⟨w.heap.size + 1, 0, none⟩ (.int .i64 0)).setCell ⟨w.heap.size + 1, 1, none⟩ (.int .i64 0)).cell? ⟨w.heap.size + 1, 1, none⟩ = some (.int .i64 0) := World.cell?_setCell_same _ _ _ (by rw [World.cell?_setCell_other _ _ _ _ (by simp)]; exact yr1)
  have yz2 : ((((w1).setCell ⟨w.heap.size + 1, 0, none⟩ (.int .i64 0)).setCell ⟨w.heap.size + 1, 1, none⟩ (.int .i64 0)).setCell ⟨w.heap.size + 1, 2, none⟩ (.int .i64 0)).cell? ⟨w.heap.size + 1, 2, none⟩ = some (.int .i64 0) := World.cell?_setCell_same _ _ _ (by rw [World.cell?_setCell_other _ _ _ _ (by simp), World.cell?_setCell_other _ _ _ _ (by simp)]; exact yr2)
  have yz3 : (((((w1).setCell ⟨w.heap.size + 1, 0, none⟩ (.int .i64 0)).setCell ⟨w.heap.size + 1, 1, none⟩ (.int .i64 0)).setCell ⟨w.heap.size + 1, 2, none⟩ (.int .i64 0)).setCell ⟨w.heap.size + 1, 3, none⟩ (.slice none 0 0)).cell? ⟨w.heap.size + 1, 3, none⟩ = some (.slice none 0 0) := World.cell?_setCell_same _ _ _ (by rw [World.cell?_setCell_other _ _ _ _ (by simp), World.cell?_setCell_other _ _ _ _ (by simp), World.cell?_setCell_other _ _ _ _ (by simp)]; exact yr3)
  have yz4 : ((((((w1).setCell ⟨w.heap.size + 1, 0, none⟩ (.int .i64 0)).setCell ⟨w.heap.size + 1, 1, none⟩ (.int .i64 0)).setCell ⟨w.heap.size + 1, 2, none⟩ (.int .i64 0)).setCell ⟨w.heap.size + 1, 3, none⟩ (.slice none 0 0)).setCell ⟨w.heap.size + 1, 4, none⟩ (.slice none 0 0)).cell? ⟨w.heap.size + 1, 4, none⟩ = some (.slice none 0 0) := World.cell?_setCell_same _ _ _ (by rw [World.cell?_setCell_other _ _ _ _ (by simp), World.cell?_setCell_other _ _ _ _ (by simp), World.cell?_setCell_other _ _ _ _ (by simp), World.cell?_setCell_other _ _ _ _ (by simp)]; exact yr4)
  have yz5 : (((((((w1).setCell ⟨w.heap.size + 1, 0, none⟩ (.int .i64 0)).setCell ⟨w.heap.size + 1, 1, none⟩ (.int .i64 0)).setCell ⟨w.heap.size + 1, 2, none⟩ (.int .i64 0)).setCell ⟨w.heap.size + 1, 3, none⟩ (.slice none 0 0)).setCell ⟨w.heap.size + 1, 4, none⟩ (.slice none 0 0)).setCell ⟨w.heap.size + 1, 5, none⟩ (.slice none 0 0)).cell? ⟨w.heap.size + 1, 5, none⟩ = some (.slice none 0 0) := World.cell?_setCell_same _ _ _ (by rw [World.cell?_setCell_other _ _ _ _ (by simp), World.cell?_setCell_other _ _ _ _ (by simp), World.cell?_setCell_other _ _ _ _ (by simp), World.cell?_setCell_other _ _ _ _ (by simp), World.cell?_setCell_other _ _ _ _ (by simp)]; exact yr5)
  have HB1 : Hid (Below w.heap.size w w1) := b1
  clear i1 hb1 b1
  go_wp2
  (try simp only [Exit.inBlock, Exit.then])
  refine bodyPost_ret (by simp [results, Tryz.results7, go_sem, yz0, yz1, yz2, yz3, yz4, yz5]; try rfl) rfl ?_
  exact ⟨rfl, ((((((HB1.out.setCell (p := ⟨w.heap.size + 1, 0, none⟩) (by simp <;> omega) _).setCell (p := ⟨w.heap.size + 1, 1, none⟩) (by simp <;> omega) _).setCell (p := ⟨w.heap.size + 1, 2, none⟩) (by simp <;> omega) _).setCell (p := ⟨w.heap.size + 1, 3, none⟩) (by simp <;> omega) _).setCell (p := ⟨w.heap.size + 1, 4, none⟩) (by simp <;> omega) _).setCell (p := ⟨w.heap.size + 1, 5, none⟩) (by simp <;> omega) _)⟩

end Go.Proofs.YtkaegbhmeonjfaaGreat
