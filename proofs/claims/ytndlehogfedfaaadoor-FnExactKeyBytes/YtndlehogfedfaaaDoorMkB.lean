/-
  markByteS and heldByteS, from any number on, in the words of shapes.
-/
import Derived.Test.YtndlehogfedfaaaDoorMk
namespace Go.Proofs.YtndlehogfedfaaaDoor
open Go.RowKit
set_option linter.unusedVariables false

theorem set_toArray1 (cur : Array Value) (i : Nat) (v : Value) : cur.setIfInBounds i v = (setRow cur.toList (i * 1) [v]).toArray := by
  apply Array.ext'
  simp [setRow]

theorem cnt_bytes (d : List Int) : Sh.cnt (.sl .u8) d = d.length := by
  show (List.map (fun _ => 1) d).sum = d.length
  induction d with
  | nil => rfl
  | cons a l ih => simp [ih]; omega

theorem cntTo_bytes (d : List Int) (i : Nat) (h : i ≤ d.length) : cntTo .u8 d i = i := by
  have h1 : cntTo .u8 d i = Sh.cnt (.sl .u8) (List.take (α := Int) i d) := rfl
  exact h1.trans ((cnt_bytes (List.take (α := Int) i d)).trans (by rw [List.length_take]; omega))

theorem own_len {e : Sh} {w : World} {B : Nat} {a : Option Addr} {n cap : Nat} {d : List e.D} {F : List Nat} (h : Own (.sl e) w B [.slice a n cap] d F) : d.length = n ∧ n ≤ maxLen ∧ (n = 0 ∨ ∃ g, a = some ⟨g, 0, none⟩) := by
  rcases h with ⟨h1, h2, _⟩ | ⟨g, cp, t, cur, Cs, Fs, h1, _, _, h2, h3, _⟩
  · simp only [List.cons.injEq, Value.slice.injEq, and_true] at h1
    obtain ⟨_, rfl, _⟩ := h1
    exact ⟨h2, Nat.zero_le _, .inl rfl⟩
  · simp only [List.cons.injEq, Value.slice.injEq, and_true] at h1
    obtain ⟨rfl, rfl, rfl⟩ := h1
    exact ⟨rfl, Nat.le_trans h2 h3, .inr ⟨g, rfl⟩⟩

set_option maxRecDepth 100000 in
set_option maxHeartbeats 1000000 in
theorem markByteS_own (a : Option Addr) (n cap B k : Nat) (d : List Int) (F : List Nat) (w : World) (ho : Own (.sl .u8) w B [.slice a n cap] d F) (hnd : F.Nodup) (hk : k + Sh.cnt (.sl .u8) d ≤ 1000000000000) :
    Calls Tryd.prog 15 #[.slice a n cap, .int .i64 k] w fun e w' => e = .returned (.int .i64 ((k + Sh.cnt (.sl .u8) d : Nat) : Int)) ∧ Own (.sl .u8) w' B [.slice a n cap] (Sh.mk (.sl .u8) d k) F ∧ Touch w w' F := by
  obtain ⟨hl0, hm, hg⟩ := own_len ho
  have hl : List.length (α := Int) d = n := hl0
  rw [cnt_bytes] at hk ⊢
  have HO : Hid (Own (.sl .u8) w B [.slice a n cap] d F ∧ F.Nodup) := ⟨ho, hnd⟩
  have HL : Hid (d.length = n) := hl
  rw [hl] at hk ⊢
  clear ho hnd hl hl0
  unfold maxLen at hm
  go_enter Tryd.func15, Tryd.ntmps15
  go_wp2
  go_loopw [1, 5] (fun m i wr => ∃ j : Nat, j ≤ n ∧ m = .int .i64 ((k + j : Nat) : Int) ∧ i = .int .i64 j ∧ Hid (Own (.sl .u8) wr B [.slice a n cap] (mkTo .u8 d k j) F) ∧ Touch w wr F) (fun _ i _ => n - (intOf i).toNat)
  case atStart => exact ⟨0, Nat.zero_le _, by simp, rfl, (congrArg (fun z => Own (.sl .u8) w B [.slice a n cap] z F) (mkTo_zero .u8 d k)).mpr HO.out.1, Touch.refl _ _⟩
  case round =>
    obtain ⟨j, hj, rfl, rfl, ho, ht⟩ := hrel
    by_cases hlt : j < n
    · obtain ⟨g, rfl⟩ := hg.resolve_left (by omega)
      have hxd : Sh.at .u8 d j = some (d[j]'(by have := HL.out; omega)) := List.getElem?_eq_getElem _
      obtain ⟨t, cur, c, x, f, hh, hx, hoe, hnf, hgf, hfF, hgF, hBg, hcur, hclose⟩ := own_elem ho.out HO.out.2 j hlt
      obtain ⟨⟨rfl, _⟩, rfl⟩ := hoe
      have hc0 : wr.cell? ⟨g, j, none⟩ = some (.int .u8 x) := box_cell hh (by have := hcur 0 (by decide); simpa [Sh.size_u8] using this)
      have hf0 : wr.frozen? ⟨g, j, none⟩ = false := box_frozen hh
      have hset : Own (.sl .u8) (wr.setCell ⟨g, j, none⟩ (.int .u8 (((k + j : Nat) : Int) % 256))) B [.slice (some ⟨g, 0, none⟩) n cap] (mkTo .u8 d k (j + 1)) F := by
        have h1 := mkTo_set .u8 d k j _ hxd
        rw [cntTo_bytes d j (by have := HL.out; omega)] at h1
        rw [← h1]
        refine hclose _ [.int .u8 (((k + j : Nat) : Int) % 256)] _ ⟨⟨?_, ?_⟩, rfl⟩ ?_ ?_
        · show [_] = [Value.int .u8 ((((k + j) % 256 : Nat)) : Int)]
          simp
        · show isByte ((((k + j) % 256 : Nat)) : Int)
          unfold isByte; omega
        · rw [box_set _ hh, set_toArray1]; rfl
        · intro y _ hy _; exact box_other _ hy
      have ht2 : Touch w (wr.setCell ⟨g, j, none⟩ (.int .u8 (((k + j : Nat) : Int) % 256))) F := ht.trans (Touch.set wr g j _ hgF)
      have HH : Hid (_ ∧ _) := ⟨hset, ht2⟩
      clear hh hx hcur hclose hset ht2 hfF hgF hBg hnf hgf ho ht hxd
      go_wp2
      go_roundw
      case rel => exact ⟨j + 1, by omega, by congr 1, by go_num, HH.out.1, HH.out.2⟩
      case measure => simp [intOf]; omega
    · have e : j = n := by omega
      subst e
      have hfin : Own (.sl .u8) wr B [.slice a j cap] (Sh.mk (.sl .u8) d k) F := (congrArg (fun z => Own (.sl .u8) wr B [.slice a j cap] z F) (mkTo_all .u8 d k j (Nat.le_of_eq HL.out))).mp ho.out
      have HH : Hid (Own (.sl .u8) wr B [.slice a j cap] (Sh.mk (.sl .u8) d k) F) := hfin
      clear hfin ho
      go_wp2
      go_ret
      exact ⟨rfl, HH.out, ht⟩

set_option maxRecDepth 100000 in
set_option maxHeartbeats 1000000 in
theorem heldByteS_own (a : Option Addr) (n cap B k : Nat) (d : List Int) (F : List Nat) (w : World) (ho : Own (.sl .u8) w B [.slice a n cap] (Sh.mk (.sl .u8) d k) F) (hk : k + Sh.cnt (.sl .u8) d ≤ 1000000000000) :
    Calls Tryd.prog 16 #[.slice a n cap, .int .i64 k] w fun e w' => e = .returned (.int .i64 ((k + Sh.cnt (.sl .u8) d : Nat) : Int)) ∧ Below w.heap.size w w' := by
  obtain ⟨hl0, hm, hg⟩ := own_len ho
  have hl : List.length (α := Int) d = n := by rw [← hl0]; exact (mkRow_length _ _ _ _).symm
  rw [cnt_bytes] at hk ⊢
  have HR : Hid (Reads (.sl .u8) w [.slice a n cap] (Sh.mk (.sl .u8) d k)) := ho.reads
  have HL : Hid (d.length = n) := hl
  rw [hl] at hk ⊢
  clear ho hl hl0 hg
  unfold maxLen at hm
  go_enter Tryd.func16, Tryd.ntmps16
  go_wp2
  go_loop [1, 5] (fun m i => ∃ j : Nat, j ≤ n ∧ m = .int .i64 ((k + j : Nat) : Int) ∧ i = .int .i64 j) (fun _ i => n - (intOf i).toNat)
  case atStart => exact ⟨0, Nat.zero_le _, by simp, rfl⟩
  case round =>
    obtain ⟨j, hj, rfl, rfl⟩ := hrel
    by_cases hlt : j < n
    · obtain ⟨b, off, c, x, rfl, hb, hx, hrx, hcell⟩ := reads_elem HR.out j hlt
      have hxd : Sh.at .u8 d j = some (d[j]'(by have := HL.out; omega)) := List.getElem?_eq_getElem _
      have hx2 := mk_at .u8 d k j _ hxd
      rw [cntTo_bytes d j (by have := HL.out; omega)] at hx2
      have hxe := Option.some.inj (hx.symm.trans hx2)
      obtain ⟨rfl, _⟩ := hrx
      have hc0 : w.cell? ⟨b, off + j, none⟩ = some (.int .u8 (((k + j : Nat) : Int) % 256)) := by
        have := hcell 0 (by decide)
        simp only [Sh.size_u8, Nat.mul_one, Nat.add_zero] at this
        rw [this, hxe]
        show some (Value.int .u8 ((((k + j) % 256 : Nat)) : Int)) = _
        simp
      have hne : ((((k + j : Nat) : Int) % 256) != (((k + j : Nat) : Int) % 256)) = false := by simp
      clear hx hcell hxd hx2 hxe
      go_wp2
      go_round
      case rel => exact ⟨j + 1, by omega, by congr 1, by go_num⟩
      case measure => simp [intOf]; omega
    · have e : j = n := by omega
      subst e
      go_wp2
      go_ret
      exact ⟨rfl, Below.refl _ _⟩

end Go.Proofs.YtndlehogfedfaaaDoor
