/-
  EmitCost of the program: what stands behind a sequence.
-/
import Derived.Test.YtcchjcllkfaadaaDoorEmQ
import Derived.Lib.SlBytesConst
namespace Go.Proofs.YtcchjcllkfaadaaDoor
open Go.RowKit
set_option linter.unusedVariables false
set_option linter.unusedSimpArgs false

/-- A slice of bytes that is read, as an answer. -/
def AnsB (w : World) (v : Value) (l : List Int) : Prop := ∃ p c, v = .slice p l.length c ∧ l.length ≤ c ∧ c ≤ maxLen ∧ Rd w p l

theorem h256 : (Tryd.prog.info? (Tryd.slbv8_ren.t 27)).map (fun i => (i.zero, i.size)) = some (some (.agg (Array.replicate 256 (.bool false))), 256) := by kernel_rfl

theorem cut_ascii : ∀ b ∈ cutS.data.toList, b.toNat < 128 := by decide

theorem fromV_some (b off r c j : Nat) : Lib.fromV (some ⟨b, off, none⟩) r c j = .slice (if c = j then some ⟨b, off, none⟩ else some ⟨b, off + j, none⟩) (r - j) (c - j) := by
  unfold Lib.fromV
  simp [← Go.WideShapes.add_plain]

theorem trim_no {b off r c : Nat} {t : List Int} (h : ∀ x ∈ t, 0 ≤ x ∧ x < 256) (hn : ∀ u, t ≠ 91 :: u) : Lib.trimPrefixV (some ⟨b, off, none⟩) r c (27 :: t) [27, 91] = .slice (some ⟨b, off, none⟩) r c := by
  show Lib.bytesTrimPrefix b off r c (27 :: t) [27, 91] = _
  unfold Lib.bytesTrimPrefix
  rw [head_no t h hn]
  rfl
theorem trim_yes {b off r c : Nat} {t : List Int} : Lib.trimPrefixV (some ⟨b, off, none⟩) r c (27 :: 91 :: t) [27, 91] = Lib.fromV (some ⟨b, off, none⟩) r c 2 := by
  show Lib.bytesTrimPrefix b off r c (27 :: 91 :: t) [27, 91] = _
  unfold Lib.bytesTrimPrefix
  rw [head_yes t, fromV_some]
  rfl

theorem two_in {w : World} {g : Nat} {t : TypeId} {fz : Nat × Nat} (h : w.heap[g]? = some (.cells #[.int .u8 27, .int .u8 91] t fz)) : Lib.BytesIn w (some ⟨g, 0, none⟩) 2 [27, 91] := fun _ => ⟨g, 0, rfl, fun i hi => by
  rcases (show i = 0 ∨ i = 1 by omega) with rfl | rfl
  · simp [World.cell?, h]
  · simp [World.cell?, h]⟩

theorem AnsB.later {w w' : World} {v : Value} {l : List Int} (h : AnsB w v l) (hb : Below w.heap.size w w') : AnsB w' v l := by
  obtain ⟨p, c, h1, h2, h3, h4⟩ := h
  exact ⟨p, c, h1, h2, h3, h4.later hb⟩

/-- The slice without its first byte. -/
theorem ansB_tail {w : World} {b off r c : Nat} {x : Int} {t : List Int} (hl : t.length + 1 = r) (hc : r ≤ c) (hm : c ≤ maxLen) (h : Rd w (some ⟨b, off, none⟩) (x :: t)) :
    AnsB w (.slice (if c = 1 then some ⟨b, off, none⟩ else some ⟨b, off + 1, none⟩) (r - 1) (c - 1)) t := by
  obtain ⟨q, h1, h2⟩ := rd_fromV h (n := r) (c := c) (j := 1) (by simpa using hl) hc (by omega)
  rw [fromV_some] at h1
  rw [h1]
  exact ⟨q, c - 1, by congr 1; omega, by omega, by unfold maxLen at hm ⊢; omega, h2⟩

theorem ansB_tail1 {w : World} {b off r : Nat} {x : Int} {t : List Int} (hl : t.length + 1 = r) (hc : r ≤ 1) (h : Rd w (some ⟨b, off, none⟩) (x :: t)) :
    AnsB w (.slice (some ⟨b, off, none⟩) (r - 1) 0) t := by
  have := ansB_tail hl hc (by unfold maxLen; omega) h
  rw [if_pos rfl] at this
  exact this
theorem ansB_tail2 {w : World} {b off r c : Nat} {x : Int} {t : List Int} (hl : t.length + 1 = r) (hc : r ≤ c) (hm : c ≤ maxLen) (h1 : ¬ c = 1) (h : Rd w (some ⟨b, off, none⟩) (x :: t)) :
    AnsB w (.slice (some ⟨b, off + 1, none⟩) (r - 1) (c - 1)) t := by
  have := ansB_tail hl hc hm h
  rw [if_neg h1] at this
  exact this

set_option maxRecDepth 100000 in
set_option maxHeartbeats 4000000 in
theorem implBeh_no (b off r c : Nat) (t : List Int) (w : World) (hl : t.length + 1 = r) (hc : r ≤ c) (hm : c ≤ maxLen) (h : Rd w (some ⟨b, off, none⟩) (27 :: t)) (hn : ∀ u, t ≠ 91 :: u) :
    Calls Tryd.prog 15 #[.slice (some ⟨b, off, none⟩) r c] w fun e w' => ∃ v, e = .returned v ∧ AnsB w' v t ∧ Below w.heap.size w w' := by
  have hcut : Hid (∀ w' g d, (∃ ty fz, w'.heap[g]? = some (.cells #[.int .u8 27, .int .u8 91] ty fz)) → Below w.heap.size w w' → Calls Tryd.prog 18 #[.slice (some ⟨b, off, none⟩) r c, .slice (some ⟨g, 0, none⟩) 2 d] w' fun e w'' => e = .returned (.tuple #[.slice (some ⟨b, off, none⟩) r c, .bool false]) ∧ w'' = w') := fun w' g d ⟨ty, fz, hg⟩ hb => by
    have h9 := Tryd.bytes_CutPrefix_all (some ⟨b, off, none⟩) (some ⟨g, 0, none⟩) r c 2 d (27 :: t) [27, 91] w' (by simpa using hl) rfl hc (rd_bytesIn (h.later hb) (by simpa using hl)) (two_in hg)
    rw [head_no t (fun x hx => rd_mem h x (by simp [hx])) hn, trim_no (fun x hx => rd_mem h x (by simp [hx])) hn] at h9
    exact h9
  have h1 : (1 : Int) ≤ (r : Int) := by omega
  have h2 : (r : Int) ≤ (c : Int) := by omega
  have h3 : (1 : Int) ≤ (c : Int) := by omega
  have kc := fun (w : World) (C : Array Value) (n c : Nat) => Lib.run_convert_bytes_const (P := Tryd.prog) w 22 5 C n c Tryd.underlying22 Tryd.underlying5
  have hb : Below w.heap.size w (w.alloc (.cells #[.int .u8 27, .int .u8 91] 5 (2, 3))) := (Below.refl _ _).alloc (Nat.le_refl _) _
  by_cases hc1 : c = 1
  · subst hc1
    obtain rfl : r = 1 := by omega
    have HV : Hid (_ ∧ _) := ⟨(ansB_tail1 hl hc h).later hb, hb⟩
    clear h hn hl hm hb
    go_enter Tryd.func15, Tryd.ntmps15
    go_wp2_with fail
    refine (hcut.out _ _ _ ⟨5, _, heap_alloc_new _ _⟩ ((Below.refl _ _).alloc (Nat.le_refl _) _)).mono ?_
    rintro e w1 ⟨rfl, rfl⟩
    go_wp2
    go_ret
    exact ⟨_, rfl, HV.out.1, HV.out.2⟩
  · have HV : Hid (_ ∧ _) := ⟨(ansB_tail2 hl hc hm hc1 h).later hb, hb⟩
    unfold maxLen at hm
    clear h hn hl hb
    go_enter Tryd.func15, Tryd.ntmps15
    go_wp2_with fail
    refine (hcut.out _ _ _ ⟨5, _, heap_alloc_new _ _⟩ ((Below.refl _ _).alloc (Nat.le_refl _) _)).mono ?_
    rintro e w1 ⟨rfl, rfl⟩
    go_wp2
    go_ret
    exact ⟨_, rfl, HV.out.1, HV.out.2⟩

set_option maxRecDepth 100000 in
set_option maxHeartbeats 4000000 in
theorem implBeh_yes (b off r c : Nat) (u : List Int) (w : World) (hl : u.length + 2 = r) (hc : r ≤ c) (hm : c ≤ maxLen) (h : Rd w (some ⟨b, off, none⟩) (27 :: 91 :: u)) :
    Calls Tryd.prog 15 #[.slice (some ⟨b, off, none⟩) r c] w fun e w' => ∃ v, e = .returned v ∧ AnsB w' v ((u.dropWhile argC).drop 1) ∧ Below w.heap.size w w' := by
  have hlr : (27 :: 91 :: u).length = r := by simpa using hl
  obtain ⟨q, hq, hru⟩ := rd_fromV h (n := r) (c := c) (j := 2) hlr hc (by omega)
  have hru : Rd w q u := hru
  have hcut : Hid (∀ w' g d, (∃ ty fz, w'.heap[g]? = some (.cells #[.int .u8 27, .int .u8 91] ty fz)) → Below w.heap.size w w' → Calls Tryd.prog 18 #[.slice (some ⟨b, off, none⟩) r c, .slice (some ⟨g, 0, none⟩) 2 d] w' fun e w'' => e = .returned (.tuple #[.slice q (r - 2) (c - 2), .bool true]) ∧ w'' = w') := fun w' g d ⟨ty, fz, hg⟩ hb => by
    have h9 := Tryd.bytes_CutPrefix_all (some ⟨b, off, none⟩) (some ⟨g, 0, none⟩) r c 2 d (27 :: 91 :: u) [27, 91] w' hlr rfl hc (rd_bytesIn (h.later hb) hlr) (two_in hg)
    rw [head_yes u, trim_yes, hq] at h9
    exact h9
  obtain ⟨D, hD⟩ : ∃ D, D = u.dropWhile argC := ⟨_, rfl⟩
  have hDl : D.length ≤ u.length := by rw [hD]; exact dropWhile_len argC u
  obtain ⟨n2, hn2⟩ : ∃ k, k = r - 2 := ⟨_, rfl⟩
  obtain ⟨c2, hc2⟩ : ∃ k, k = c - 2 := ⟨_, rfl⟩
  rw [← hn2, ← hc2] at hcut
  have hun : u.length = n2 := by omega
  have htr : ∀ w', Below w.heap.size w w' → Calls Tryd.prog 19 #[.slice q n2 c2, .string ⟨#[48, 49, 50, 51, 52, 53, 54, 55, 56, 57, 59]⟩] w' fun e w'' => e = .returned (Lib.leftV q n2 c2 (n2 - D.length)) ∧ Below w'.heap.size w' w'' := fun w' hb => by
    have h9 := Any.bytes_TrimLeft_laid Tryd.slbv8 h256 q n2 c2 u cutS w' hun (by omega) (by unfold maxLen at hm; omega) (rd_bytesIn (hru.later hb) hun) (rd_mem hru) (by decide) (fun j b hj => cut_ascii b (List.mem_of_getElem? hj))
    rw [trim_len (rd_mem hru), ← hD] at h9
    exact h9
  have kc := fun (w : World) (C : Array Value) (n c : Nat) => Lib.run_convert_bytes_const (P := Tryd.prog) w 22 5 C n c Tryd.underlying22 Tryd.underlying5
  have hb0 : Below w.heap.size w (w.alloc (.cells #[.int .u8 27, .int .u8 91] 5 (2, 3))) := (Below.refl _ _).alloc (Nat.le_refl _) _
  have HB0 : Hid (Below w.heap.size w (w.alloc (.cells #[.int .u8 27, .int .u8 91] 5 (2, 3)))) := hb0
  rw [← hD]
  by_cases hD0 : D = []
  · have e0 : Lib.leftV q n2 c2 (n2 - D.length) = .slice none 0 0 := by
      unfold Lib.leftV
      rw [if_pos (by rw [hD0]; simp)]
    rw [e0] at htr
    have HT : Hid _ := htr
    have HD0 : Hid (D = []) := hD0
    clear h hru hl hlr hq hm hc hb0 htr hD0 hD hDl hn2 hc2 hun e0
    go_enter Tryd.func15, Tryd.ntmps15
    go_wp2_with fail
    refine (hcut.out _ _ _ ⟨5, _, heap_alloc_new _ _⟩ ((Below.refl _ _).alloc (Nat.le_refl _) _)).mono ?_
    rintro e w1 ⟨rfl, rfl⟩
    go_wp2_with fail
    refine (HT.out _ HB0.out).mono ?_
    rintro e w2 ⟨rfl, hb2⟩
    have hb2' := HB0.out.trans (hb2.mono HB0.out.size)
    go_wp2
    go_ret
    refine ⟨_, rfl, ?_, hb2'⟩
    rw [HD0.out]
    exact ⟨none, 0, rfl, Nat.le_refl _, Nat.zero_le _, ⟨by simp, .inl rfl⟩⟩
  · obtain ⟨z, D1, hD1⟩ : ∃ z D1, D = z :: D1 := by
      cases D with
      | nil => exact absurd rfl hD0
      | cons z D1 => exact ⟨z, D1, rfl⟩
    have hpos : 0 < D.length := by rw [hD1]; simp
    obtain ⟨q3, hq3, hr3⟩ := rd_fromV hru (n := n2) (c := c2) (j := n2 - D.length) hun (by omega) (by omega)
    have ed : u.drop (n2 - D.length) = D := by rw [← hun, hD]; exact drop_dropWhile argC u
    rw [ed] at hr3
    obtain ⟨b3, o3, rfl, _⟩ := hr3.2.resolve_left hD0
    have e0 : Lib.leftV q n2 c2 (n2 - D.length) = .slice (some ⟨b3, o3, none⟩) D.length (c2 - (n2 - D.length)) := by
      unfold Lib.leftV
      rw [if_neg (by omega), hq3]
      congr 1
      omega
    obtain ⟨r3, hr3e⟩ : ∃ k, k = D.length := ⟨_, rfl⟩
    obtain ⟨c3, hc3⟩ : ∃ k, k = c2 - (n2 - D.length) := ⟨_, rfl⟩
    rw [e0, ← hc3, ← hr3e] at htr
    rw [hD1] at hr3
    have hl3 : D1.length + 1 = r3 := by rw [hr3e, hD1]; simp
    have h31 : (1 : Int) ≤ (r3 : Int) := by omega
    have h32 : (r3 : Int) ≤ (c3 : Int) := by omega
    have h33 : (1 : Int) ≤ (c3 : Int) := by omega
    have hm3 : c3 ≤ maxLen := by unfold maxLen at hm ⊢; omega
    have hrc3 : r3 ≤ c3 := by omega
    have hmin : min (1 : Int) (r3 : Int) = 1 := by omega
    have HT : Hid _ := htr
    have HD1 : Hid (D.drop 1 = D1) := by show _ = _; rw [hD1]; rfl
    by_cases hc1 : c3 = 1
    · subst hc1
      obtain rfl : r3 = 1 := by omega
      have HV : Hid (AnsB w _ D1) := ansB_tail1 hl3 hrc3 hr3
      clear h hru hl hlr hq hm hc hb0 htr hD0 hD hDl hn2 hc2 hun e0 hq3 hr3 hr3e hc3 hl3 hm3 hrc3 ed hpos hD1
      go_enter Tryd.func15, Tryd.ntmps15
      go_wp2_with fail
      refine (hcut.out _ _ _ ⟨5, _, heap_alloc_new _ _⟩ ((Below.refl _ _).alloc (Nat.le_refl _) _)).mono ?_
      rintro e w1 ⟨rfl, rfl⟩
      go_wp2_with fail
      refine (HT.out _ HB0.out).mono ?_
      rintro e w2 ⟨rfl, hb2⟩
      have hb2' := HB0.out.trans (hb2.mono HB0.out.size)
      go_wp2
      go_ret
      exact ⟨_, rfl, by rw [HD1.out]; exact HV.out.later hb2', hb2'⟩
    · have HV : Hid (AnsB w _ D1) := ansB_tail2 hl3 hrc3 hm3 hc1 hr3
      unfold maxLen at hm3
      clear h hru hl hlr hq hm hc hb0 htr hD0 hD hDl hn2 hc2 hun e0 hq3 hr3 hr3e hc3 hl3 ed hpos hD1
      go_enter Tryd.func15, Tryd.ntmps15
      go_wp2_with fail
      refine (hcut.out _ _ _ ⟨5, _, heap_alloc_new _ _⟩ ((Below.refl _ _).alloc (Nat.le_refl _) _)).mono ?_
      rintro e w1 ⟨rfl, rfl⟩
      go_wp2_with fail
      refine (HT.out _ HB0.out).mono ?_
      rintro e w2 ⟨rfl, hb2⟩
      have hb2' := HB0.out.trans (hb2.mono HB0.out.size)
      go_wp2
      go_ret
      exact ⟨_, rfl, by rw [HD1.out]; exact HV.out.later hb2', hb2'⟩

theorem implBeh_any (b off r c : Nat) (t : List Int) (w : World) (hl : t.length + 1 = r) (hc : r ≤ c) (hm : c ≤ maxLen) (h : Rd w (some ⟨b, off, none⟩) (27 :: t)) :
    Calls Tryd.prog 15 #[.slice (some ⟨b, off, none⟩) r c] w fun e w' => ∃ v, e = .returned v ∧ AnsB w' v (behZ t) ∧ Below w.heap.size w w' := by
  by_cases hn : ∃ u, t = 91 :: u
  · obtain ⟨u, rfl⟩ := hn
    rw [behZ_yes]
    exact implBeh_yes b off r c u w (by simp only [List.length_cons] at hl; omega) hc hm h
  · have e : behZ t = t := by
      cases t with
      | nil => rfl
      | cons y u => exact behZ_no (fun e => hn ⟨u, by rw [e]⟩) u
    rw [e]
    exact implBeh_no b off r c t w hl hc hm h (fun u e => hn ⟨u, e⟩)

end Go.Proofs.YtcchjcllkfaadaaDoor
