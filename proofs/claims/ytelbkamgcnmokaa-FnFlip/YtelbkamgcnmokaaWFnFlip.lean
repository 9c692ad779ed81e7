/-
  The walk of the law FnFlip: it returns true and writes nothing that was there. By program (flipgen.py).
-/
import Derived.Test.YtelbkamgcnmokaaJ5FnFlip
import Derived.Deep.RegionHeld3
namespace Go.Proofs.Ytelbkamgcnmokaa
open Go.RowKit
set_option linter.unusedVariables false
set_option linter.unusedSimpArgs false

theorem scanA_nil : scanA [] = ([], 0) := by
  unfold scanA
  exact scanL_end _ _ _ _ (not_on _ _ _ (by unfold frAns; simp))

theorem ents_none : ∀ (l : List EntD) (p : Option Int), entsFrom p l = true → entsFrom none l = true
  | [], _, _ => rfl
  | y :: l, p, h => by
    have h' : (entB y.1 (ByteArray.size y.2.1) && linkB p y.1 && entsFrom (some y.1) l) = true := h
    simp only [Bool.and_eq_true] at h'
    show (entB y.1 (ByteArray.size y.2.1) && linkB none y.1 && entsFrom (some y.1) l) = true
    rw [h'.1.1, h'.2]; rfl

theorem xor_ne (a v : Nat) (h : v ≠ 0) : a ^^^ v ≠ a := by
  intro e
  have := congrArg (a ^^^ ·) e
  simp [← Nat.xor_assoc] at this
  exact h this

theorem own_set {w : World} {B g n cap : Nat} {zs : List Int} (h : w.ownsRow B 5 1 (.slice (some ⟨g, 0, none⟩) n cap) n (zs.map (Value.int .u8))) (i : Nat) (x : Int) :
    (w.setCell ⟨g, i, none⟩ (.int .u8 x)).ownsRow B 5 1 (.slice (some ⟨g, 0, none⟩) n cap) n ((zs.set i x).map (Value.int .u8)) := by
  rw [List.map_set]
  exact (h.stored i (.int .u8 x)).1

set_option maxRecDepth 100000 in
set_option maxHeartbeats 40000000 in
theorem flipLaw_in (a : Option Addr) (n cap : Nat) (zs : List Int) (w : World) (HL : Hid (zs.length = n)) (hn : n ≤ 1048576) (hr : Rd w a zs) :
    Calls Try.prog 3 #[.slice a n cap] w fun e w' => e = .returned (.bool true) ∧ Below w.heap.size w w' := by
  obtain ⟨i0, hi, hz0, hz1, hz2⟩ := info_parts Try.infoB
  have hlt : ¬ (1048576 : Int) < (n : Int) := by omega
  have HR : Hid (Rd w a zs) := hr
  clear hr
  go_enter Try.func3, Try.ntmps3
  go_wp2_with fail
  refine (makeEntries_any a n cap zs _ HL hn HR.out).mono ?_
  rintro e w1 ⟨d, m, g, cp, hm6, hdl, hE, hsz, rfl, ho1, hb1⟩
  have small : SmallE d := fun x hx => by have := hsz x hx; unfold maxLen; omega
  have hR1 : Reads (.sl shEntry) w1 [.slice (some ⟨g, 0, none⟩) m cp] d := by
    obtain ⟨F, hF, _⟩ := own_entsV hdl small ho1
    exact hF.reads
  obtain ⟨_, hmcp, hcpm⟩ := reads_len hR1
  unfold maxLen at hcpm
  have HD : Hid (∀ w', Below w1.heap.size w1 w' → Reads (.sl shEntry) w' [.slice (some ⟨g, 0, none⟩) m cp] d) := fun w' h => hR1.later h
  have HP : Hid (d.length = m ∧ entsB d = true ∧ (∀ x ∈ d, ByteArray.size x.2.1 ≤ 20)) := ⟨hdl, hE, hsz⟩
  clear ho1 hR1 hdl hE hsz small
  by_cases hm0 : m = 0
  · have qS : Hid (∀ w', Calls Try.prog 6 #[.slice none 0 0] w' fun e w'' => ∃ u, e = .returned (.tuple #[u, .int .i64 0]) ∧ Below w'.heap.size w' w'') := fun w' => by
      have hrn : Reads (.sl .u8) w' [.slice none 0 0] ([] : List Int) := ⟨none, 0, rfl, Nat.le_refl _, Nat.zero_le _, .inl rfl⟩
      refine (implScan_any _ [] w' hrn (by simp)).mono ?_
      rintro e w'' ⟨u, rfl, ho, hk, hb⟩
      rw [scanA_nil]
      exact ⟨u, rfl, hb⟩
    have qF : Hid (∀ w', Calls Try.prog 7 #[.slice none 0 0, .int .i64 0] w' fun e w'' => ∃ x0 x1 nx, e = .returned (.tuple #[.agg #[.int .i64 x0, .string x1], .int .i64 nx, .int .i64 2]) ∧ Below w'.heap.size w' w'') := fun w' => by
      have hrn : Reads (.sl .u8) w' [.slice none 0 0] ([] : List Int) := ⟨none, 0, rfl, Nat.le_refl _, Nat.zero_le _, .inl rfl⟩
      refine (rf_impl _ [] 0 w' hrn (by simp) (by omega) (by omega)).mono ?_
      rintro e w'' ⟨rfl, hb⟩
      have e : (frAns [] 0).2.2.2 = 2 := by unfold frAns; simp
      rw [e]
      exact ⟨_, _, _, rfl, hb⟩
    subst hm0
    go_wp2_with fail
    refine (qS.out _).mono ?_
    rintro e w2 ⟨u, rfl, hb2⟩
    have b2 := hb1.trans (hb2.mono hb1.size)
    go_wp2_with fail
    refine (qF.out _).mono ?_
    rintro e w3 ⟨x0, x1, nx, rfl, hb3⟩
    have b3 := b2.trans (hb3.mono b2.size)
    have b4 : Below w.heap.size w (w3.alloc (.cells #[.int .i64 x0, .string x1] 28)) := b3.alloc b3.size _
    go_wp2
    go_ret
    exact ⟨rfl, b4⟩
  have hmn : ¬ ((m : Int) = 0) := by omega
  have hme : ((m : Int) == 0) = false := by simp; omega
  go_wp2_with fail
  refine (makeNum_any a n cap zs _ _ HL hn (HR.out.later hb1) (by omega) (by omega)).mono ?_
  rintro e w2 ⟨k, rfl, hk, hb2⟩
  have hkm : k < m := by omega
  have hk1 : k ≤ cp := by omega
  have hk2 : ¬ cp < k := by omega
  obtain ⟨LA, hLA⟩ : ∃ L, L = logL (d.take k) := ⟨_, rfl⟩
  obtain ⟨la, hla⟩ : ∃ l, l = LA.length := ⟨_, rfl⟩
  have hEk : entsB (d.take k) = true := ents_takeB d none k HP.out.2.1
  have hla6 : la ≤ 180 := by
    have h1 := log_small (d.take k) (fun x hx => HP.out.2.2 x (List.mem_of_mem_take hx))
    rw [List.length_take, HP.out.1] at h1
    rw [hla, hLA]; omega
  have qL : Hid (Calls Try.prog 9 #[.slice (some ⟨g, 0, none⟩) k cp] w2 fun e w' => ∃ va vc, e = .returned (.tuple #[.slice va la vc, .bool true]) ∧ w'.ownsRow w2.heap.size 5 1 (.slice va la vc) la (LA.map (Value.int .u8)) ∧ Below w2.heap.size w2 w') := by
    refine (implLog_good _ _ _ (d.take k) w2 (reads_front (HD.out w2 hb2) k (by omega)) hEk).mono ?_
    rintro e w' ⟨hb, ⟨_, v, rfl, ho⟩ | ⟨h1, _⟩⟩
    · rw [← hLA, ← hla] at ho
      obtain ⟨va, vc, rfl⟩ := own_slice ho
      exact ⟨va, vc, rfl, ho, hb⟩
    · rw [← hLA, ← hla] at h1; omega
  have HA : Hid (LA = logL (d.take k) ∧ la = LA.length ∧ entsB (d.take k) = true) := ⟨hLA, hla, hEk⟩
  clear hLA hla hEk
  go_wp2_with fail
  refine qL.out.mono ?_
  rintro e w3 ⟨va, vc, rfl, ho3, hb3⟩
  have hb13 : Below w1.heap.size w1 w3 := hb2.trans (hb3.mono hb2.size)
  obtain ⟨b, off, cc, x, he, hb, hx, hrx, hcell⟩ := reads_elem (HD.out w3 hb13) k hkm
  simp only [Option.some.injEq, Addr.mk.injEq, and_true] at he
  obtain ⟨rfl, rfl⟩ := he
  obtain ⟨rfl, ls⟩ := open_Entry hrx
  obtain ⟨y0, ey0⟩ : ∃ y : Int, y = x.1 := ⟨_, rfl⟩
  obtain ⟨y1, ey1⟩ : ∃ y : ByteArray, y = x.2.1 := ⟨_, rfl⟩
  have hB : entB y0 y1.size = true := by rw [ey0, ey1]; exact ents_at d HP.out.2.1 k x hx
  have hy20 : y1.size ≤ 20 := by rw [ey1]; exact HP.out.2.2 x (List.mem_of_getElem? hx)
  have hbd := (entB_iff _ _).1 hB
  have hy1 : 1 ≤ y1.size := hbd.2.2.1
  have g0 : w3.cell? ⟨g, k * 2, none⟩ = some (.int .i64 y0) := by rw [ey0]; have := hcell 0 (by decide); simpa [size_Entry] using this
  have g1 : w3.cell? ⟨g, k * 2 + 1, none⟩ = some (.string y1) := by rw [ey1]; have := hcell 1 (by decide); simpa [size_Entry] using this
  have qF : Hid (∀ w', Calls Try.prog 10 #[.agg #[.int .i64 y0, .string y1]] w' fun e w'' => ∃ gf cf, e = .returned (.tuple #[.slice (some ⟨gf, 0, none⟩) (10 + y1.size) cf, .bool true]) ∧ w''.ownsRow w'.heap.size 5 1 (.slice (some ⟨gf, 0, none⟩) (10 + y1.size) cf) (10 + y1.size) ((frameL y0 (sB y1)).map (Value.int .u8)) ∧ Below w'.heap.size w' w'') := fun w' => by
    refine (implFrame_yes y0 y1 w' hB).mono ?_
    rintro e w'' ⟨v, rfl, ho, hb⟩
    obtain ⟨gf, cf, rfl, _⟩ := own_form ho (by omega)
    exact ⟨gf, cf, rfl, ho, hb⟩
  have hgz : g < w3.heap.size := hb
  have HO3 : Hid (w3.ownsRow w2.heap.size 5 1 (.slice va la vc) la (LA.map (Value.int .u8))) := ho3
  have hki : (k : Int) < (m : Int) := by omega
  clear hcell hrx hx ey0 ey1 hB hb ho3 qL
  go_wp2_with fail
  refine (qF.out _).mono ?_
  rintro e w4 ⟨gf, cf, rfl, ho4, hb4⟩
  have hb14 := hb13.trans (hb4.mono hb13.size)
  have t11 : ¬ (((10 : Int) + (y1.size : Int)) < 11) := by omega
  have t12 : ¬ (10 + y1.size < 11) := by omega
  have hbw4 := hb1.trans (hb14.mono hb1.size)
  have HO4 : Hid (w4.ownsRow w3.heap.size 5 1 (.slice (some ⟨gf, 0, none⟩) (10 + y1.size) cf) (10 + y1.size) ((frameL y0 (sB y1)).map (Value.int .u8))) := ho4
  clear g0 g1 ho4
  go_wp2_with fail
  have hq1 : (1 : Int) ≤ 10 + (y1.size : Int) - 2 := by omega
  refine (makeNum_any a n cap zs _ _ HL hn (HR.out.later hbw4) hq1 (by omega)).mono ?_
  rintro e w5 ⟨q, rfl, hq, hb5⟩
  obtain ⟨P, hP⟩ : ∃ P, P = 2 + q := ⟨_, rfl⟩
  have p1 : (2 : Int) + (q : Int) = (P : Int) := by omega
  have p2 : IntKind.i64.wrap (P : Int) = (P : Int) := wrap_i64_in _ (by omega) (by omega)
  have p3 : P < 10 + y1.size := by omega
  have p4 : 2 ≤ P := by omega
  have p5 : (0 : Int) ≤ (P : Int) := by omega
  have p6 : (P : Int) < 10 + (y1.size : Int) := by omega
  have p7 : (P : Int) < ((10 + y1.size : Nat) : Int) := by omega
  obtain ⟨b0, hb0⟩ : ∃ b0 : Nat, (frameL y0 (sB y1))[P]? = some (b0 : Int) ∧ b0 < 256 := by
    have hfl : (frameL y0 (sB y1)).length = 10 + y1.size := by rw [frameL_len, sB_len]
    have h8 := byt_frameL y0 (sB y1) (byt_sB _) P
    have h9 := get_some (frameL y0 (sB y1)) P (by omega)
    obtain ⟨N, hN⟩ := Int.eq_ofNat_of_zero_le h8.1
    rw [hN] at h9 h8
    exact ⟨N, h9, by omega⟩
  have HBZ : Hid ((frameL y0 (sB y1))[P]? = some (b0 : Int)) := hb0.1
  have hb256 := hb0.2
  have HC5 : Hid (∀ w', Below w5.heap.size w5 w' → w'.cell? ⟨gf, P, none⟩ = some (.int .u8 (b0 : Int))) := fun w' h => by
    have o9 := own_later (own_later HO4.out hb5) h
    rw [o9.cellAt P (by omega), List.getElem?_map, HBZ.out]; rfl
  have qV : Hid (∀ w', Below w5.heap.size w5 w' → Calls Try.prog 8 #[.slice a n cap, .int .i64 255] w' fun e w'' => ∃ x : Nat, e = .returned (.int .i64 x) ∧ (x : Int) < 255 ∧ Below w'.heap.size w' w'') := fun w' h => makeNum_any a n cap zs 255 w' HL hn (HR.out.later (hbw4.trans ((hb5.trans (h.mono hb5.size)).mono hbw4.size))) (by omega) (by omega)
  obtain ⟨K1, hK1⟩ : ∃ K1, K1 = k + 1 := ⟨_, rfl⟩
  obtain ⟨mr, hmr⟩ : ∃ mr, mr = m - K1 := ⟨_, rfl⟩
  obtain ⟨LR, hLR⟩ : ∃ L, L = logL (d.drop K1) := ⟨_, rfl⟩
  obtain ⟨lr, hlr⟩ : ∃ l, l = LR.length := ⟨_, rfl⟩
  have hlr6 : lr ≤ 180 := by
    have h1 := log_small (d.drop K1) (fun x hx => HP.out.2.2 x (List.mem_of_mem_drop hx))
    rw [List.length_drop, HP.out.1] at h1
    rw [hlr, hLR]; omega
  have HRR : Hid (LR = logL (d.drop K1) ∧ lr = LR.length) := ⟨hLR, hlr⟩
  have qR : Hid (∀ w' ad c', Reads (.sl shEntry) w' [.slice ad mr c'] (d.drop K1) → Calls Try.prog 9 #[.slice ad mr c'] w' fun e w'' => ∃ va vc, e = .returned (.tuple #[.slice va lr vc, .bool true]) ∧ w''.ownsRow w'.heap.size 5 1 (.slice va lr vc) lr (LR.map (Value.int .u8)) ∧ Below w'.heap.size w' w'') := fun w' ad c' hrd => by
    have hEr : entsB (d.drop K1) = true := ents_none _ _ (ents_from d HP.out.2.1 K1 (by rw [HP.out.1]; omega))
    refine (implLog_good _ _ _ (d.drop K1) w' hrd hEr).mono ?_
    rintro e w'' ⟨hb, ⟨_, v, rfl, ho⟩ | ⟨h1, _⟩⟩
    · rw [← hLR, ← hlr] at ho
      obtain ⟨va, vc, rfl⟩ := own_slice ho
      exact ⟨va, vc, rfl, ho, hb⟩
    · rw [← hLR, ← hlr] at h1; omega
  have s1 : (k : Int) + 1 = (K1 : Int) := by omega
  have s2 : IntKind.i64.wrap (K1 : Int) = (K1 : Int) := wrap_i64_in _ (by omega) (by omega)
  have s3 : K1 ≤ m := by omega
  have s4 : K1 ≤ cp := by omega
  have s5 : m - K1 = mr := by omega
  clear hP hb0 hLR hlr hK1 hmr hq
  have c5 : w5.cell? ⟨gf, P, none⟩ = some (.int .u8 (b0 : Int)) := HC5.out w5 (Below.refl _ _)
  go_wp2_with fail
  refine wp_region_held_drew (S := fun w' => True) (by kernel_rfl) trivial (fun hHeld => ?_)
  refine wpAnyH_take (i := 0) (v := .slice (some ⟨gf, 0, none⟩) (10 + y1.size) cf) rfl (by kernel_rfl) (by kernel_rfl) (by kernel_rfl) (fun _ _ _ h => h) (Or.inl ⟨by kernel_rfl, ?_⟩) (by assumption) ?_
  · intro w9 hSw; (try dsimp only at hSw); go_simp
  simp only [Act.put, List.getElem_toArray, List.getElem_cons_succ, List.getElem_cons_zero, List.setIfInBounds_toArray, List.set_cons_zero, List.set_cons_succ]
  refine wpAnyH_take (i := 1) (v := .int .i64 P) rfl (by kernel_rfl) (by kernel_rfl) (by kernel_rfl) (fun _ _ _ h => h) (Or.inl ⟨by kernel_rfl, ?_⟩) (by assumption) ?_
  · intro w9 hSw; (try dsimp only at hSw); go_simp
  simp only [Act.put, List.getElem_toArray, List.getElem_cons_succ, List.getElem_cons_zero, List.setIfInBounds_toArray, List.set_cons_zero, List.set_cons_succ]
  refine wpAnyH_take (i := 2) (v := .slice (some ⟨gf, 0, none⟩) (10 + y1.size) cf) rfl (by kernel_rfl) (by kernel_rfl) (by kernel_rfl) (fun _ _ _ h => h) (Or.inl ⟨by kernel_rfl, ?_⟩) (by assumption) ?_
  · intro w9 hSw; (try dsimp only at hSw); go_simp
  simp only [Act.put, List.getElem_toArray, List.getElem_cons_succ, List.getElem_cons_zero, List.setIfInBounds_toArray, List.set_cons_zero, List.set_cons_succ]
  refine wpAnyH_take (i := 3) (v := .int .i64 P) rfl (by kernel_rfl) (by kernel_rfl) (by kernel_rfl) (fun _ _ _ h => h) (Or.inl ⟨by kernel_rfl, ?_⟩) (by assumption) ?_
  · intro w9 hSw; (try dsimp only at hSw); go_simp
  simp only [Act.put, List.getElem_toArray, List.getElem_cons_succ, List.getElem_cons_zero, List.setIfInBounds_toArray, List.set_cons_zero, List.set_cons_succ]
  refine wpAnyH_take (i := 4) (v := .pointer (some ⟨gf, P, none⟩)) rfl (by kernel_rfl) (by kernel_rfl) (by kernel_rfl) (fun _ _ _ h => h) (Or.inl ⟨by kernel_rfl, ?_⟩) (by assumption) ?_
  · intro w9 hSw; (try dsimp only at hSw); go_simp
  simp only [Act.put, List.getElem_toArray, List.getElem_cons_succ, List.getElem_cons_zero, List.setIfInBounds_toArray, List.set_cons_zero, List.set_cons_succ]
  refine wpAnyH_take (i := 6) (v := .slice a n cap) rfl (by kernel_rfl) (by kernel_rfl) (by kernel_rfl) (fun _ _ _ h => h) (Or.inl ⟨by kernel_rfl, ?_⟩) (by assumption) ?_
  · intro w9 hSw; (try dsimp only at hSw); go_simp
  simp only [Act.put, List.getElem_toArray, List.getElem_cons_succ, List.getElem_cons_zero, List.setIfInBounds_toArray, List.set_cons_zero, List.set_cons_succ]
  refine wpAnyH_ready (rs := [5, 7]) (by kernel_rfl) (by simp) ?_
  refine AllReadyH.cons rfl (fun K hK => ?_) (AllReadyH.cons rfl (fun K hK => ?_) AllReadyH.nil)
  · go_simp
    refine hK.out _ _ trivial (fun hH5 => ?_)
    clear hK
    refine wpAnyH_ready (rs := [7]) (by kernel_rfl) (by simp) ?_
    refine AllReadyH.cons rfl (fun K hK => ?_) AllReadyH.nil
    go_simp
    refine (qV.out _ (Below.refl _ _).drew).mono ?_
    rintro e w6 ⟨v, rfl, hv, hb6⟩
    have hb6' : Below w5.heap.size w5 w6 := (Below.refl _ _).drew.trans (hb6.mono (by simp))
    go_wp2_with fail
    refine hK.out _ _ trivial (fun hH7 => ?_)
    clear hK
    obtain ⟨V, hV⟩ : ∃ V, V = 1 + v := ⟨_, rfl⟩
    have v1 : (1 : Int) + (v : Int) = (V : Int) := by omega
    have v2 : IntKind.i64.wrap (V : Int) = (V : Int) := wrap_i64_in _ (by omega) (by omega)
    have v3 : (V : Int) % 256 = (V : Int) := by omega
    obtain ⟨X, hX⟩ : ∃ X : Int, X = ((b0 ^^^ V : Nat) : Int) := ⟨_, rfl⟩
    have v4 : bits .xor .u8 (b0 : Int) (V : Int) = X := by rw [hX]; exact u8_xor_nat b0 V (by omega) (by omega)
    have hXb : 0 ≤ X ∧ X ≤ 255 := by rw [hX]; have : b0 ^^^ V < 2 ^ 8 := Nat.xor_lt_two_pow (by omega) (by omega); omega
    have hXn : X ≠ (b0 : Int) := by rw [hX]; have := xor_ne b0 V (by omega); omega
    have hVb : 1 ≤ V ∧ V ≤ 255 := by omega
    have v5 : IntKind.u8.wrap (V : Int) = (V : Int) := by simp [IntKind.wrap, IntKind.bits, IntKind.signed]; omega
    clear hV hX
    refine wpAnyH_take (i := 8) (v := .int .i64 V) rfl (by kernel_rfl) (by kernel_rfl) (by kernel_rfl) (fun _ _ _ h => h) (Or.inl ⟨by kernel_rfl, ?_⟩) (by assumption) ?_
    · intro w9 hSw; (try dsimp only at hSw); go_simp
    simp only [Act.put, List.getElem_toArray, List.getElem_cons_succ, List.getElem_cons_zero, List.setIfInBounds_toArray, List.set_cons_zero, List.set_cons_succ]
    refine wpAnyH_take (i := 9) (v := .int .u8 V) rfl (by kernel_rfl) (by kernel_rfl) (by kernel_rfl) (fun _ _ _ h => h) (Or.inl ⟨by kernel_rfl, ?_⟩) (by assumption) ?_
    · intro w9 hSw; (try dsimp only at hSw); go_simp
    simp only [Act.put, List.getElem_toArray, List.getElem_cons_succ, List.getElem_cons_zero, List.setIfInBounds_toArray, List.set_cons_zero, List.set_cons_succ]
    refine wpAnyH_take (i := 10) (v := .int .u8 X) rfl (by kernel_rfl) (by kernel_rfl) (by kernel_rfl) (fun _ _ _ h => h) (Or.inl ⟨by kernel_rfl, ?_⟩) (by assumption) ?_
    · intro w9 hSw; (try dsimp only at hSw); go_simp
    simp only [Act.put, List.getElem_toArray, List.getElem_cons_succ, List.getElem_cons_zero, List.setIfInBounds_toArray, List.set_cons_zero, List.set_cons_succ]
    refine wpAnyH_take (i := 11) (v := .pointer (some ⟨gf, P, none⟩)) rfl (by kernel_rfl) (by kernel_rfl) (by kernel_rfl) (fun _ _ _ h => h) (Or.inl ⟨by kernel_rfl, ?_⟩) (by assumption) ?_
    · intro w9 hSw; (try dsimp only at hSw); go_simp
    simp only [Act.put, List.getElem_toArray, List.getElem_cons_succ, List.getElem_cons_zero, List.setIfInBounds_toArray, List.set_cons_zero, List.set_cons_succ]
    have c6 : w6.cell? ⟨gf, P, none⟩ = some (.int .u8 b0) := HC5.out w6 hb6'
    have f6 : w6.frozen? ⟨gf, P, none⟩ = false := (own_later (own_later HO4.out hb5) hb6').frozenAt P
    refine wpAnyH_ready (rs := [12]) (by kernel_rfl) (by simp) ?_
    refine AllReadyH.cons rfl (fun K hK => ?_) AllReadyH.nil
    go_simp
    refine hK.out _ _ trivial (fun hH12 => ?_)
    clear hK
    refine wpAnyH_done (by kernel_rfl) ?_ _
    obtain ⟨w7, hw7⟩ : ∃ w7, w7 = w6.setCell ⟨gf, P, none⟩ (.int .u8 X) := ⟨_, rfl⟩
    obtain ⟨F, hF⟩ : ∃ F, F = (frameL y0 (sB y1)).set P X := ⟨_, rfl⟩
    have HFF : Hid (F = (frameL y0 (sB y1)).set P X) := hF
    have HFl : Hid (F.length = 10 + y1.size) := by show _ = _; rw [hF, List.length_set, frameL_len, sB_len]
    have HBF : Byt F := by
      rw [hF, byt_iff]
      intro z hz
      rcases List.mem_or_eq_of_mem_set hz with h9 | h9
      · exact (byt_iff _).1 (byt_frameL _ _ (byt_sB _)) z h9
      · rw [h9]; exact hXb
    have HBy : Hid (Byt (LA ++ (F ++ LR))) := byt_append (by rw [HA.out.1]; exact byt_logL _) (byt_append HBF (by rw [HRR.out.1]; exact byt_logL _))
    have HSC : Hid (scanA (LA ++ (F ++ LR)) = (d.take k, la)) := by
      have hfl : (frameL y0 (sB y1)).length = 10 + y1.size := by rw [frameL_len, sB_len]
      have h9 := scan_flip (d.take k) HA.out.2.2 F LR y0 (sB y1) HBF (by rw [HRR.out.1]; exact byt_logL _) (byt_sB _) (by rw [sB_len]; omega) (by rw [sB_len]; exact HFl.out) P (by omega) (by rw [sB_len]; omega) (by rw [hF, List.getElem?_set_self (by rw [hfl]; omega)]; intro e9; rw [HBZ.out] at e9; exact hXn (Option.some.inj e9).symm) (fun i hi9 => by rw [hF, List.getElem?_set_ne (by omega)])
      show scanA _ = _
      rw [HA.out.1, h9, HA.out.2.1, HA.out.1]
    clear hF HBF hXn v4 hH12
    have HO7 : Hid (w7.ownsRow w3.heap.size 5 1 (.slice (some ⟨gf, 0, none⟩) (10 + y1.size) cf) (10 + y1.size) (F.map (Value.int .u8))) := by show World.ownsRow _ _ _ _ _ _ _; rw [hw7, HFF.out]; exact own_set (own_later (own_later HO4.out hb5) hb6') P X
    have b37 : Below w3.heap.size w3 w7 := by rw [hw7]; exact ((hb4.trans ((hb5.trans (hb6'.mono hb5.size)).mono hb4.size))).setCell (HO4.out.lt gf rfl).1 _
    have b17 := hb13.trans (b37.mono hb13.size)
    have oA7 := own_later HO3.out b37
    rw [← hw7]
    clear hw7
    (try simp only [Exit.inBlock, Exit.then])
    refine (by assumption : ∀ (a : Act) (w : World), Code.wp Try.prog _ _ a w → _) _ _ ?_
    by_cases hcK : cp = K1
    · subst hcK
      exact flip_tail1 w w1 w7 d g m cp k mr va la vc gf cf y1.size lr _ _ LA F LR _ _ _ _ _ _ _ _ _ _ _ _ _ _ _ _ _ _ _ _ _ _ _ _ _ _ _ _ _ _ _ _ _ _ _ _ _ _ _ _ _ _ _ _ _ _ _ _ _ _ _ _ _ _ _ _ _ _ _ _ _ _ _ _ _ _ _ _ _ _ _ _ _ _ _ _ _ _ _ _ _ _ _ _ _ _ _ _ _ _ _ _ _ _ _ _ _ _ _ _ _ _ _ _ _ _ _ _ _ _ _ _ _ _ hm6 hkm hmcp hcpm s1 s5 hla6 hlr6 hy20 HP HD HA.out.2.1 HFl HRR.out.2 HBy HSC HO7 oA7 qR hb1 b17
    · exact flip_tail2 w w1 w7 d g m cp k K1 mr va la vc gf cf y1.size lr _ _ LA F LR _ _ _ _ _ _ _ _ _ _ _ _ _ _ _ _ _ _ _ _ _ _ _ _ _ _ _ _ _ _ _ _ _ _ _ _ _ _ _ _ _ _ _ _ _ _ _ _ _ _ _ _ _ _ _ _ _ _ _ _ _ _ _ _ _ _ _ _ _ _ _ _ _ _ _ _ _ _ _ _ _ _ _ _ _ _ _ _ _ _ _ _ _ _ _ _ _ _ _ _ _ _ _ _ _ _ _ _ _ _ _ _ _ _ hcK hm6 hkm hmcp hcpm s1 s5 hla6 hlr6 hy20 HP HD HA.out.2.1 HFl HRR.out.2 HBy HSC HO7 oA7 qR hb1 b17
  · go_simp
    refine (qV.out _ (Below.refl _ _).drew).mono ?_
    rintro e w6 ⟨v, rfl, hv, hb6⟩
    have hb6' : Below w5.heap.size w5 w6 := (Below.refl _ _).drew.trans (hb6.mono (by simp))
    go_wp2_with fail
    refine hK.out _ _ trivial (fun hH7 => ?_)
    clear hK
    obtain ⟨V, hV⟩ : ∃ V, V = 1 + v := ⟨_, rfl⟩
    have v1 : (1 : Int) + (v : Int) = (V : Int) := by omega
    have v2 : IntKind.i64.wrap (V : Int) = (V : Int) := wrap_i64_in _ (by omega) (by omega)
    have v3 : (V : Int) % 256 = (V : Int) := by omega
    obtain ⟨X, hX⟩ : ∃ X : Int, X = ((b0 ^^^ V : Nat) : Int) := ⟨_, rfl⟩
    have v4 : bits .xor .u8 (b0 : Int) (V : Int) = X := by rw [hX]; exact u8_xor_nat b0 V (by omega) (by omega)
    have hXb : 0 ≤ X ∧ X ≤ 255 := by rw [hX]; have : b0 ^^^ V < 2 ^ 8 := Nat.xor_lt_two_pow (by omega) (by omega); omega
    have hXn : X ≠ (b0 : Int) := by rw [hX]; have := xor_ne b0 V (by omega); omega
    have hVb : 1 ≤ V ∧ V ≤ 255 := by omega
    have v5 : IntKind.u8.wrap (V : Int) = (V : Int) := by simp [IntKind.wrap, IntKind.bits, IntKind.signed]; omega
    clear hV hX
    refine wpAnyH_take (i := 8) (v := .int .i64 V) rfl (by kernel_rfl) (by kernel_rfl) (by kernel_rfl) (fun _ _ _ h => h) (Or.inl ⟨by kernel_rfl, ?_⟩) (by assumption) ?_
    · intro w9 hSw; (try dsimp only at hSw); go_simp
    simp only [Act.put, List.getElem_toArray, List.getElem_cons_succ, List.getElem_cons_zero, List.setIfInBounds_toArray, List.set_cons_zero, List.set_cons_succ]
    refine wpAnyH_take (i := 9) (v := .int .u8 V) rfl (by kernel_rfl) (by kernel_rfl) (by kernel_rfl) (fun _ _ _ h => h) (Or.inl ⟨by kernel_rfl, ?_⟩) (by assumption) ?_
    · intro w9 hSw; (try dsimp only at hSw); go_simp
    simp only [Act.put, List.getElem_toArray, List.getElem_cons_succ, List.getElem_cons_zero, List.setIfInBounds_toArray, List.set_cons_zero, List.set_cons_succ]
    have c6' : w6.cell? ⟨gf, P, none⟩ = some (.int .u8 (b0 : Int)) := HC5.out w6 hb6'
    refine wpAnyH_ready (rs := [5]) (by kernel_rfl) (by simp) ?_
    refine AllReadyH.cons rfl (fun K hK => ?_) AllReadyH.nil
    go_simp
    refine hK.out _ _ trivial (fun hH5 => ?_)
    clear hK c6'
    refine wpAnyH_take (i := 10) (v := .int .u8 X) rfl (by kernel_rfl) (by kernel_rfl) (by kernel_rfl) (fun _ _ _ h => h) (Or.inl ⟨by kernel_rfl, ?_⟩) (by assumption) ?_
    · intro w9 hSw; (try dsimp only at hSw); go_simp
    simp only [Act.put, List.getElem_toArray, List.getElem_cons_succ, List.getElem_cons_zero, List.setIfInBounds_toArray, List.set_cons_zero, List.set_cons_succ]
    refine wpAnyH_take (i := 11) (v := .pointer (some ⟨gf, P, none⟩)) rfl (by kernel_rfl) (by kernel_rfl) (by kernel_rfl) (fun _ _ _ h => h) (Or.inl ⟨by kernel_rfl, ?_⟩) (by assumption) ?_
    · intro w9 hSw; (try dsimp only at hSw); go_simp
    simp only [Act.put, List.getElem_toArray, List.getElem_cons_succ, List.getElem_cons_zero, List.setIfInBounds_toArray, List.set_cons_zero, List.set_cons_succ]
    have c6 : w6.cell? ⟨gf, P, none⟩ = some (.int .u8 b0) := HC5.out w6 hb6'
    have f6 : w6.frozen? ⟨gf, P, none⟩ = false := (own_later (own_later HO4.out hb5) hb6').frozenAt P
    refine wpAnyH_ready (rs := [12]) (by kernel_rfl) (by simp) ?_
    refine AllReadyH.cons rfl (fun K hK => ?_) AllReadyH.nil
    go_simp
    refine hK.out _ _ trivial (fun hH12 => ?_)
    clear hK
    refine wpAnyH_done (by kernel_rfl) ?_ _
    obtain ⟨w7, hw7⟩ : ∃ w7, w7 = w6.setCell ⟨gf, P, none⟩ (.int .u8 X) := ⟨_, rfl⟩
    obtain ⟨F, hF⟩ : ∃ F, F = (frameL y0 (sB y1)).set P X := ⟨_, rfl⟩
    have HFF : Hid (F = (frameL y0 (sB y1)).set P X) := hF
    have HFl : Hid (F.length = 10 + y1.size) := by show _ = _; rw [hF, List.length_set, frameL_len, sB_len]
    have HBF : Byt F := by
      rw [hF, byt_iff]
      intro z hz
      rcases List.mem_or_eq_of_mem_set hz with h9 | h9
      · exact (byt_iff _).1 (byt_frameL _ _ (byt_sB _)) z h9
      · rw [h9]; exact hXb
    have HBy : Hid (Byt (LA ++ (F ++ LR))) := byt_append (by rw [HA.out.1]; exact byt_logL _) (byt_append HBF (by rw [HRR.out.1]; exact byt_logL _))
    have HSC : Hid (scanA (LA ++ (F ++ LR)) = (d.take k, la)) := by
      have hfl : (frameL y0 (sB y1)).length = 10 + y1.size := by rw [frameL_len, sB_len]
      have h9 := scan_flip (d.take k) HA.out.2.2 F LR y0 (sB y1) HBF (by rw [HRR.out.1]; exact byt_logL _) (byt_sB _) (by rw [sB_len]; omega) (by rw [sB_len]; exact HFl.out) P (by omega) (by rw [sB_len]; omega) (by rw [hF, List.getElem?_set_self (by rw [hfl]; omega)]; intro e9; rw [HBZ.out] at e9; exact hXn (Option.some.inj e9).symm) (fun i hi9 => by rw [hF, List.getElem?_set_ne (by omega)])
      show scanA _ = _
      rw [HA.out.1, h9, HA.out.2.1, HA.out.1]
    clear hF HBF hXn v4 hH12
    have HO7 : Hid (w7.ownsRow w3.heap.size 5 1 (.slice (some ⟨gf, 0, none⟩) (10 + y1.size) cf) (10 + y1.size) (F.map (Value.int .u8))) := by show World.ownsRow _ _ _ _ _ _ _; rw [hw7, HFF.out]; exact own_set (own_later (own_later HO4.out hb5) hb6') P X
    have b37 : Below w3.heap.size w3 w7 := by rw [hw7]; exact ((hb4.trans ((hb5.trans (hb6'.mono hb5.size)).mono hb4.size))).setCell (HO4.out.lt gf rfl).1 _
    have b17 := hb13.trans (b37.mono hb13.size)
    have oA7 := own_later HO3.out b37
    rw [← hw7]
    clear hw7
    (try simp only [Exit.inBlock, Exit.then])
    refine (by assumption : ∀ (a : Act) (w : World), Code.wp Try.prog _ _ a w → _) _ _ ?_
    by_cases hcK : cp = K1
    · subst hcK
      exact flip_tail1 w w1 w7 d g m cp k mr va la vc gf cf y1.size lr _ _ LA F LR _ _ _ _ _ _ _ _ _ _ _ _ _ _ _ _ _ _ _ _ _ _ _ _ _ _ _ _ _ _ _ _ _ _ _ _ _ _ _ _ _ _ _ _ _ _ _ _ _ _ _ _ _ _ _ _ _ _ _ _ _ _ _ _ _ _ _ _ _ _ _ _ _ _ _ _ _ _ _ _ _ _ _ _ _ _ _ _ _ _ _ _ _ _ _ _ _ _ _ _ _ _ _ _ _ _ _ _ _ _ _ _ _ _ hm6 hkm hmcp hcpm s1 s5 hla6 hlr6 hy20 HP HD HA.out.2.1 HFl HRR.out.2 HBy HSC HO7 oA7 qR hb1 b17
    · exact flip_tail2 w w1 w7 d g m cp k K1 mr va la vc gf cf y1.size lr _ _ LA F LR _ _ _ _ _ _ _ _ _ _ _ _ _ _ _ _ _ _ _ _ _ _ _ _ _ _ _ _ _ _ _ _ _ _ _ _ _ _ _ _ _ _ _ _ _ _ _ _ _ _ _ _ _ _ _ _ _ _ _ _ _ _ _ _ _ _ _ _ _ _ _ _ _ _ _ _ _ _ _ _ _ _ _ _ _ _ _ _ _ _ _ _ _ _ _ _ _ _ _ _ _ _ _ _ _ _ _ _ _ _ _ _ _ _ hcK hm6 hkm hmcp hcpm s1 s5 hla6 hlr6 hy20 HP HD HA.out.2.1 HFl HRR.out.2 HBy HSC HO7 oA7 qR hb1 b17

theorem flipLaw_any (a : Option Addr) (n cap : Nat) (zs : List Int) (w : World) (hl : zs.length = n) (hr : Rd w a zs) :
    Calls Try.prog 3 #[.slice a n cap] w fun e w' => e = .returned (.bool true) ∧ Below w.heap.size w w' := by
  by_cases hn : n ≤ 1048576
  · exact flipLaw_in a n cap zs w hl hn hr
  · have hlt : (1048576 : Int) < (n : Int) := by omega
    clear hr hl
    go_enter Try.func3, Try.ntmps3
    go_wp2
    go_ret
    exact ⟨rfl, Below.refl _ _⟩

end Go.Proofs.Ytelbkamgcnmokaa
