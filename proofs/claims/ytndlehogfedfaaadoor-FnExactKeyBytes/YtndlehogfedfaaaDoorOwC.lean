/-
  Bytes of the call's own that were turned out of a string: the row bears the mark of such a conversion behind its last cell.
-/
import Derived.Test.YtndlehogfedfaaaDoorMkB
import Derived.Test.YtndlehogfedfaaaDoorVB
import Derived.Lib.ConvBytes
namespace Go.Proofs.YtndlehogfedfaaaDoor
open Go.RowKit
set_option linter.unusedVariables false

theorem box_cellF {w : World} {b j : Nat} {cs : Array Value} {t : TypeId} {v : Value} {fz : Nat × Nat} (h : w.heap[b]? = some (.cells cs t fz)) (hv : cs[j]? = some v) : w.cell? ⟨b, j, none⟩ = some v := by
  simp [World.cell?, h, hv]
theorem box_frozenF {w : World} {b j : Nat} {cs : Array Value} {t : TypeId} {fz : Nat × Nat} (h : w.heap[b]? = some (.cells cs t fz)) (hj : ¬ (fz.1 ≤ j ∧ j < fz.2)) : w.frozen? ⟨b, j, none⟩ = false := by
  simp [World.frozen?, h]
  omega
theorem box_setF {w : World} {b j : Nat} {cs : Array Value} {t : TypeId} {fz : Nat × Nat} (v : Value) (h : w.heap[b]? = some (.cells cs t fz)) : (w.setCell ⟨b, j, none⟩ v).heap[b]? = some (.cells (cs.setIfInBounds j v) t fz) := by
  simp [World.setCell, Array.getElem?_modify, h]

/-- Bytes of the call's own, the mark of a conversion behind them or none. -/
def OwC (w : World) (B : Nat) (v : Value) (d : List Int) (F : List Nat) : Prop :=
  (v = .slice none 0 0 ∧ d = [] ∧ F = []) ∨
  ∃ (g cap : Nat) (cur : Array Value) (fz : Nat × Nat), v = .slice (some ⟨g, 0, none⟩) d.length cap ∧ F = [g] ∧ B ≤ g ∧ w.heap[g]? = some (.cells cur 5 fz) ∧ d.length ≤ cap ∧ cap ≤ maxLen ∧ (fz.2 = 0 ∨ cap ≤ fz.1) ∧ (∀ i, i < d.length → cur[i]? = some (.int .u8 (d[i]?.getD 0))) ∧ (∀ x ∈ d, 0 ≤ x ∧ x ≤ 255)

theorem OwC.nil (w : World) (B : Nat) : OwC w B (.slice none 0 0) [] [] := .inl ⟨rfl, rfl, rfl⟩

theorem OwC.lt {w : World} {B : Nat} {v : Value} {d : List Int} {F : List Nat} (h : OwC w B v d F) : ∀ g ∈ F, B ≤ g ∧ g < w.heap.size := by
  intro g hg
  rcases h with ⟨_, _, rfl⟩ | ⟨g', cap, cur, fz, _, rfl, hB, hh, _⟩
  · cases hg
  · rw [List.mem_singleton.1 hg]
    exact ⟨hB, (Array.getElem?_eq_some_iff.1 hh).1⟩

theorem OwC.val {w : World} {B : Nat} {v : Value} {d : List Int} {F : List Nat} (h : OwC w B v d F) : ∃ a c, v = .slice a d.length c := by
  rcases h with ⟨rfl, rfl, _⟩ | ⟨g, cap, cur, fz, rfl, _⟩
  · exact ⟨none, 0, rfl⟩
  · exact ⟨_, cap, rfl⟩

theorem OwC.reads {w : World} {B : Nat} {v : Value} {d : List Int} {F : List Nat} (h : OwC w B v d F) : Reads (.sl .u8) w [v] d := by
  rcases h with ⟨rfl, rfl, _⟩ | ⟨g, cap, cur, fz, rfl, _, hB, hh, h1, h2, _, h3, h4⟩
  · exact reads_mk (zs := []) ⟨by simp, .inl rfl⟩ rfl (Nat.le_refl _) (Nat.zero_le _)
  · refine reads_mk ⟨fun i => ?_, ?_⟩ rfl h1 h2
    · by_cases hi : i < d.length
      · simp [hi]; exact h4 _ (List.getElem_mem hi)
      · simp [hi]
    · right
      refine ⟨g, 0, rfl, (Array.getElem?_eq_some_iff.1 hh).1, fun i hi => ?_⟩
      rw [Nat.zero_add]
      exact box_cellF hh (h3 i hi)

theorem OwC.keep {w w' : World} {B : Nat} {v : Value} {d : List Int} {F : List Nat} (h : OwC w B v d F) (hk : ∀ g ∈ F, w'.heap[g]? = w.heap[g]?) : OwC w' B v d F := by
  rcases h with h | ⟨g, cap, cur, fz, rfl, rfl, hB, hh, r⟩
  · exact .inl h
  · exact .inr ⟨g, cap, cur, fz, rfl, rfl, hB, (hk g (by simp)).trans hh, r⟩

theorem OwC.later {w w' : World} {B : Nat} {v : Value} {d : List Int} {F : List Nat} (h : OwC w B v d F) (hb : Below w.heap.size w w') : OwC w' B v d F :=
  h.keep fun g hg => hb.block g (h.lt g hg).2

theorem OwC.base {w : World} {B B' : Nat} {v : Value} {d : List Int} {F : List Nat} (h : OwC w B v d F) (hB : B' ≤ B) : OwC w B' v d F := by
  rcases h with h | ⟨g, cap, cur, fz, hv, hF, hg, r⟩
  · exact .inl h
  · exact .inr ⟨g, cap, cur, fz, hv, hF, by omega, r⟩

theorem Touch.ownC {w w' : World} {B : Nat} {v : Value} {d : List Int} {F G : List Nat} (h : Touch w w' F) (ho : OwC w B v d G) (hd : ∀ g ∈ G, g ∉ F) : OwC w' B v d G :=
  ho.keep fun g hg => h.block g (ho.lt g hg).2 (hd g hg)

/-- A row that was laid, or made, without a mark. -/
theorem owC_row {w : World} {B g cap : Nat} {cur : Array Value} {d : List Int} (hB : B ≤ g) (hh : w.heap[g]? = some (.cells cur 5 (0, 0))) (h1 : d.length ≤ cap) (h2 : cap ≤ maxLen) (h3 : ∀ i, i < d.length → cur[i]? = some (.int .u8 (d[i]?.getD 0))) (h4 : ∀ x ∈ d, 0 ≤ x ∧ x ≤ 255) : OwC w B (.slice (some ⟨g, 0, none⟩) d.length cap) d [g] :=
  .inr ⟨g, cap, cur, (0, 0), rfl, rfl, hB, hh, h1, h2, .inl rfl, h3, h4⟩

/-- What a string's conversion leaves. -/
theorem owC_conv (w : World) (s : ByteArray) (hs : s.size ≤ maxLen) : OwC (Lib.bytesWorld w 5 s) w.heap.size (.slice (some ⟨w.heap.size, 0, none⟩) s.size (grownCap w s.size 0 5)) (s.data.toList.map fun b => (b.toNat : Int)) [w.heap.size] := by
  have hsz : (s.data.toList.map fun b => (b.toNat : Int)).length = s.size := by simp
  refine .inr ⟨w.heap.size, grownCap w s.size 0 5, Lib.bytesCells w 5 s, ((Lib.bytesCells w 5 s).size, (Lib.bytesCells w 5 s).size + 1), by rw [hsz], rfl, Nat.le_refl _, Lib.bytesWorld_at_new w 5 s, ?_, ?_, ?_, ?_, ?_⟩
  · rw [hsz]; exact grownCap_ge w s.size 0 5
  · exact grownCap_le_maxLen w s.size 0 5 hs
  · right
    have := grownCap_ge w s.size 0 5
    show grownCap w s.size 0 5 ≤ (Lib.bytesCells w 5 s).size
    simp [Lib.bytesCells]; omega
  · intro i hi
    rw [hsz] at hi
    have hi2 : i < s.data.size := hi
    simp [Lib.bytesCells, Array.getElem?_append, hi]
  · intro x hx
    obtain ⟨b, _, rfl⟩ := List.mem_map.1 hx
    have := b.toNat_lt
    omega

theorem below_conv (w : World) (s : ByteArray) : Below w.heap.size w (Lib.bytesWorld w 5 s) := by
  have h1 : Below w.heap.size w (w.drew.alloc (.cells (Lib.bytesCells w 5 s) 5)) := ((Below.refl _ w).drew).alloc (Nat.le_refl _) _
  refine ⟨?_, ?_, ?_, ?_, fun i hi => Lib.bytesWorld_at_old w 5 s i hi⟩
  · exact h1.os
  · exact h1.tape
  · exact h1.output
  · rw [Lib.bytesWorld_size]; omega

set_option maxRecDepth 100000 in
set_option maxHeartbeats 1000000 in
theorem markByteS_c (v : Value) (B : Nat) (k : Int) (kn : Nat) (d : List Int) (F : List Nat) (w : World) (hkn : k = kn) (ho : OwC w B v d F) (hnd : F.Nodup) (hk0 : 1 ≤ kn) (hk : kn + Sh.cnt (.sl .u8) d ≤ 1000000000000) :
    Calls Tryd.prog 15 #[v, .int .i64 k] w fun e w' => e = .returned (.int .i64 ((kn + Sh.cnt (.sl .u8) d : Nat) : Int)) ∧ OwC w' B v (Sh.mk (.sl .u8) d kn) F ∧ Touch w w' F := by
  subst hkn
  rw [cnt_bytes] at hk ⊢
  obtain ⟨n, hn⟩ : ∃ n, n = d.length := ⟨_, rfl⟩
  obtain ⟨a, cap, hv⟩ := ho.val
  rw [← hn] at hv hk ⊢
  subst hv
  have HN : Hid (d.length = n) := hn.symm
  have HO : Hid (OwC w B (.slice a n cap) d F) := ho
  have hm : n ≤ 1000000000000 := by omega
  clear ho hn
  go_enter Tryd.func15, Tryd.ntmps15
  go_wp2
  go_loopw [1, 5] (fun m i wr => ∃ j : Nat, j ≤ n ∧ m = .int .i64 ((kn + j : Nat) : Int) ∧ i = .int .i64 j ∧ Hid (OwC wr B (.slice a n cap) (mkTo .u8 d kn j) F) ∧ Touch w wr F) (fun _ i _ => n - (intOf i).toNat)
  case atStart => exact ⟨0, Nat.zero_le _, by simp, rfl, (congrArg (fun z => OwC w B (.slice a n cap) z F) (mkTo_zero .u8 d kn)).mpr HO.out, Touch.refl _ _⟩
  case round =>
    obtain ⟨j, hj, rfl, rfl, ho, ht⟩ := hrel
    by_cases hlt : j < n
    · have hxd : Sh.at .u8 d j = some (d[j]'(by have := HN.out; omega)) := List.getElem?_eq_getElem _
      have hlen : (mkTo .u8 d kn j).length = n := (mkTo_length .u8 d kn j).trans HN.out
      obtain ⟨Z, hZ⟩ : ∃ Z : List Int, Z = mkTo .u8 d kn j := ⟨_, rfl⟩
      have hstep : Z.set j (((kn + j) % 256 : Nat) : Int) = mkTo .u8 d kn (j + 1) := by
        have h1 := mkTo_set .u8 d kn j _ hxd
        rw [cntTo_bytes d j (by have := HN.out; omega)] at h1
        rw [hZ]; exact h1
      have ho' : OwC wr B (.slice a n cap) Z F := by rw [hZ]; exact ho.out
      have hlen' : Z.length = n := by rw [hZ]; exact hlen
      rcases ho' with ⟨h1, h2, h3⟩ | ⟨g, cp, cur, fz, hv, hF, hB, hh, h1, h2, h3, h4, h5⟩
      · rw [h2] at hlen'; simp at hlen'; omega
      · simp only [Value.slice.injEq] at hv
        obtain ⟨rfl, _, rfl⟩ := hv
        have hc0 : wr.cell? ⟨g, j, none⟩ = some (.int .u8 (Z[j]?.getD 0)) := box_cellF hh (h4 j (by omega))
        have hf0 : wr.frozen? ⟨g, j, none⟩ = false := box_frozenF hh (by omega)
        have hset : OwC (wr.setCell ⟨g, j, none⟩ (.int .u8 (((kn + j : Nat) : Int) % 256))) B (.slice (some ⟨g, 0, none⟩) n cap) (mkTo .u8 d kn (j + 1)) F := by
          rw [← hstep]
          refine .inr ⟨g, cap, _, fz, by rw [List.length_set, hlen'], hF, hB, box_setF _ hh, by rw [List.length_set]; exact h1, h2, h3, ?_, ?_⟩
          · intro i hi
            rw [List.length_set] at hi
            have hci := h4 i hi
            have hcs : i < cur.size := (Array.getElem?_eq_some_iff.1 hci).1
            by_cases e : j = i
            · subst e
              simp [hcs, hi]
            · rw [Array.getElem?_setIfInBounds_ne e, List.getElem?_set_ne e]
              exact hci
          · intro x hx
            rcases List.mem_or_eq_of_mem_set hx with hx | rfl
            · exact h5 x hx
            · omega
        have ht2 : Touch w (wr.setCell ⟨g, j, none⟩ (.int .u8 (((kn + j : Nat) : Int) % 256))) F := ht.trans (Touch.set wr g j _ (by rw [hF]; simp))
        have HH : Hid (_ ∧ _) := ⟨hset, ht2⟩
        obtain ⟨u, hu⟩ : ∃ u, u = Z[j]?.getD 0 := ⟨_, rfl⟩
        rw [← hu] at hc0
        clear hh hset ht2 ho ht hxd hZ hstep hlen hlen' h1 h2 h3 h4 h5 hF hB hu
        go_wp2
        go_roundw
        case rel => exact ⟨j + 1, by omega, by congr 1, by go_num, HH.out.1, HH.out.2⟩
        case measure => simp [intOf]; omega
    · have e : j = n := by omega
      subst e
      have hfin : OwC wr B (.slice a j cap) (Sh.mk (.sl .u8) d kn) F := (congrArg (fun z => OwC wr B (.slice a j cap) z F) (mkTo_all .u8 d kn j (Nat.le_of_eq HN.out))).mp ho.out
      have HH : Hid (OwC wr B (.slice a j cap) (Sh.mk (.sl .u8) d kn) F) := hfin
      clear hfin ho
      go_wp2
      go_ret
      exact ⟨rfl, HH.out, ht⟩

set_option maxRecDepth 100000 in
set_option maxHeartbeats 1000000 in
theorem heldByteS_c (v : Value) (B : Nat) (k : Int) (kn : Nat) (d : List Int) (F : List Nat) (w : World) (hkn : k = kn) (ho : OwC w B v (Sh.mk (.sl .u8) d kn) F) (hnd : F.Nodup) (hk0 : 1 ≤ kn) (hk : kn + Sh.cnt (.sl .u8) d ≤ 1000000000000) :
    Calls Tryd.prog 16 #[v, .int .i64 k] w fun e w' => e = .returned (.int .i64 ((kn + Sh.cnt (.sl .u8) d : Nat) : Int)) ∧ Below w.heap.size w w' := by
  subst hkn
  rw [cnt_bytes] at hk ⊢
  obtain ⟨n, hn⟩ : ∃ n, n = d.length := ⟨_, rfl⟩
  have hln : List.length (α := Int) (Sh.mk (.sl .u8) d kn) = n := (mkRow_length _ _ _ _).trans hn.symm
  obtain ⟨a, cap, hv⟩ := ho.val
  rw [hln] at hv
  rw [← hn] at hk ⊢
  subst hv
  have HR : Hid (Reads (.sl .u8) w [.slice a n cap] (Sh.mk (.sl .u8) d kn)) := ho.reads
  have HL : Hid (d.length = n) := hn.symm
  have hm : n ≤ 1000000000000 := by omega
  clear ho hn hln
  go_enter Tryd.func16, Tryd.ntmps16
  go_wp2
  go_loop [1, 5] (fun m i => ∃ j : Nat, j ≤ n ∧ m = .int .i64 ((kn + j : Nat) : Int) ∧ i = .int .i64 j) (fun _ i => n - (intOf i).toNat)
  case atStart => exact ⟨0, Nat.zero_le _, by simp, rfl⟩
  case round =>
    obtain ⟨j, hj, rfl, rfl⟩ := hrel
    by_cases hlt : j < n
    · obtain ⟨b, off, c, x, rfl, hb, hx, hrx, hcell⟩ := reads_elem HR.out j hlt
      have hxd : Sh.at .u8 d j = some (d[j]'(by have := HL.out; omega)) := List.getElem?_eq_getElem _
      have hx2 := mk_at .u8 d kn j _ hxd
      rw [cntTo_bytes d j (by have := HL.out; omega)] at hx2
      have hxe := Option.some.inj (hx.symm.trans hx2)
      obtain ⟨rfl, _⟩ := hrx
      have hc0 : w.cell? ⟨b, off + j, none⟩ = some (.int .u8 (((kn + j : Nat) : Int) % 256)) := by
        have := hcell 0 (by decide)
        simp only [Sh.size_u8, Nat.mul_one, Nat.add_zero] at this
        rw [this, hxe]
        show some (Value.int .u8 ((((kn + j) % 256 : Nat)) : Int)) = _
        simp
      have hne : ((((kn + j : Nat) : Int) % 256) != (((kn + j : Nat) : Int) % 256)) = false := by simp
      clear hx hcell hxd hx2 hxe
      go_wp2
      go_round
      case rel => exact ⟨j + 1, by omega, by congr 1, by go_num⟩
      case measure => simp [intOf]; omega
    · have e : j = n := by omega
      subst e
      go_wp2
      go_ret
      exact ⟨rfl, Below.refl _ _⟩

end Go.Proofs.YtndlehogfedfaaaDoor
