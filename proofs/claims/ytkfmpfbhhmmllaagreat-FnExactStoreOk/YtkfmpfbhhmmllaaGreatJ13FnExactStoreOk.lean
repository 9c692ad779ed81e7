/-
  Joined: LogP, ScT, ScU, Fnd, EnsS, LogS, LogI.
-/
import Derived.Test.YtkfmpfbhhmmllaaGreatJ9FnExactStoreOk
import Derived.Test.YtkfmpfbhhmmllaaGreatJ12FnExactStoreOk
import Derived.Test.YtkfmpfbhhmmllaaGreatJ4FnExactStoreOk
import Derived.Deep.RegionHeld3
import Derived.Test.YtkfmpfbhhmmllaaGreatJ10FnExactStoreOk
/- LogP: A log: the records of a list of entries, one behind the other (plain facts). -/
namespace Go.Proofs.YtkfmpfbhhmmllaaGreat
open Go.RowKit
set_option linter.unusedVariables false
set_option maxRecDepth 100000

def recL (x : EntD) : List Int := frameL x.1 (sB x.2.1)

theorem recL_len (x : EntD) : (recL x).length = 10 + ByteArray.size x.2.1 := by unfold recL; rw [frameL_len, sB_len]
theorem byt_recL (x : EntD) : Byt (recL x) := byt_frameL _ _ (byt_sB _)

/-- The records of the first k. -/
def logTo (d : List EntD) (k : Nat) : List Int := (d.take k).flatMap recL

def logL (d : List EntD) : List Int := d.flatMap recL

theorem logTo_zero (d : List EntD) : logTo d 0 = [] := by simp [logTo]
theorem logTo_all (d : List EntD) (k : Nat) (h : d.length ≤ k) : logTo d k = logL d := by unfold logTo logL; rw [List.take_of_length_le h]

theorem logTo_succ (d : List EntD) (k : Nat) (x : EntD) (h : d[k]? = some x) : logTo d (k + 1) = logTo d k ++ recL x := by
  have hk : k < d.length := (List.getElem?_eq_some_iff.1 h).1
  have hx : d[k] = x := (List.getElem?_eq_some_iff.1 h).2
  unfold logTo
  rw [List.take_succ_eq_append_getElem hk, hx, List.flatMap_append]
  simp

theorem logTo_le (d : List EntD) (k : Nat) : (logTo d k).length ≤ (logL d).length := by
  unfold logTo logL
  conv => rhs; rw [← List.take_append_drop k d, List.flatMap_append, List.length_append]
  omega

theorem byt_flat (d : List EntD) : Byt (d.flatMap recL) := by
  rw [byt_iff]
  intro z hz
  obtain ⟨x, _, hx⟩ := List.mem_flatMap.1 hz
  exact (byt_iff _).1 (byt_recL x) z hx

theorem byt_logTo (d : List EntD) (k : Nat) : Byt (logTo d k) := byt_flat _
theorem byt_logL (d : List EntD) : Byt (logL d) := byt_flat _

theorem ents_all : ∀ (l : List EntD) (p : Option Int), entsFrom p l = true → ∀ x ∈ l, entB x.1 (ByteArray.size x.2.1) = true
  | [], _, _, x, hx => by cases hx
  | y :: l, p, h, x, hx => by
    simp only [entsFrom, Bool.and_eq_true] at h
    rcases List.mem_cons.1 hx with rfl | hx
    · exact h.1.1
    · exact ents_all l _ h.2 x hx

theorem ents_at (d : List EntD) (h : entsB d = true) (k : Nat) (x : EntD) (hx : d[k]? = some x) : entB x.1 (ByteArray.size x.2.1) = true :=
  ents_all d none h x (List.mem_of_getElem? hx)

theorem own_slice {w : World} {B n : Nat} {e : TypeId} {size : Nat} {v : Value} {xs : List Value} (h : w.ownsRow B e size v n xs) : ∃ a c, v = .slice a n c := by
  rcases h.2 with ⟨h1, h2⟩ | ⟨g, cap, cur, hv, _⟩
  · exact ⟨none, 0, by rw [h1, h2]⟩
  · exact ⟨_, _, hv⟩

end Go.Proofs.YtkfmpfbhhmmllaaGreat

/- ScT: Scanning what was written: the records are found again; of a torn log those that are all there (plain facts). -/
namespace Go.Proofs.YtkfmpfbhhmmllaaGreat
open Go.RowKit
set_option linter.unusedVariables false
set_option maxRecDepth 100000

theorem gnum_cutP (zs : List Int) (P m q : Nat) : ∀ k, q + k ≤ m → gnum (cutL zs P m) q k = gnum zs (P + q) k
  | 0, _ => rfl
  | k + 1, h => by
    show gnum (cutL zs P m) q k * 256 + (cutL zs P m)[q + k]?.getD 0 = gnum zs (P + q) k * 256 + zs[P + q + k]?.getD 0
    rw [gnum_cutP zs P m q k (by omega), cutL_at zs P m (q + k) (by omega), Nat.add_assoc]

theorem str_sB (s : ByteArray) : strOfNums (sB s) = s := by
  apply ByteArray.ext
  apply Array.toList_inj.1
  rw [strOfNums_data]
  unfold sB
  rw [List.map_map]
  conv => rhs; rw [← List.map_id s.data.toList]
  refine List.map_congr_left fun b _ => ?_
  show UInt8.ofNat ((b.toNat : Int)).toNat = b
  simp

theorem frame_list (x : Int) (t : List Int) : frameL x t = [(t.length : Int) / 256 % 256, (t.length : Int) / 1 % 256, x / 16777216 % 256, x / 65536 % 256, x / 256 % 256, x / 1 % 256,
    crcI (headL x t.length ++ t) / 16777216 % 256, crcI (headL x t.length ++ t) / 65536 % 256, crcI (headL x t.length ++ t) / 256 % 256, crcI (headL x t.length ++ t) / 1 % 256] ++ t := by
  unfold frameL
  rw [pdig4]
  conv => lhs; unfold headL
  rw [pdig2, pdig4]
  rfl

theorem frame_size (x : Int) (t : List Int) (h : t.length < 65536) : gnum (frameL x t) 0 2 = (t.length : Int) := by
  rw [frame_list]
  obtain ⟨n, hn⟩ : ∃ n, n = t.length := ⟨_, rfl⟩
  rw [← hn] at h ⊢
  simp [gnum]
  omega

theorem frame_num (x : Int) (t : List Int) (h0 : 0 ≤ x) (h : x < 4294967296) : gnum (frameL x t) 2 4 = x := by
  rw [frame_list]
  obtain ⟨C, hC⟩ : ∃ C, C = crcI (headL x t.length ++ t) := ⟨_, rfl⟩
  rw [← hC]
  simp [gnum]
  omega

/-- A record that stands at p is read. -/
theorem fr_rec (zs : List Int) (hz : Byt zs) (p : Nat) (x : Int) (t : List Int) (s : Nat) (hs : t.length = s) (hc : cutL zs p (10 + s) = frameL x t) (hp : p + 10 + s ≤ zs.length) (h1 : 1 ≤ s) (h2 : s ≤ 1000) (h3 : 1 ≤ x) (h4 : x ≤ 1000000000) :
    frAns zs (p : Int) = (x, strOfNums t, (p : Int) + 10 + (s : Int), 0) := by
  have g1 : gnum zs p 2 = (s : Int) := by
    have e := gnum_cutP zs p (10 + s) 0 2 (by omega)
    rw [hc, frame_size x t (by omega), hs] at e
    exact e.symm
  have g2 : gnum zs (p + 2) 4 = x := by
    have e := gnum_cutP zs p (10 + s) 2 4 (by omega)
    rw [hc, frame_num x t (by omega) (by omega)] at e
    exact e.symm
  have ht : cutL zs (p + 10) s = t := by
    have e := cutL_split zs p 10 s
    rw [hc] at e
    have e2 : frameL x t = (headL x t.length ++ pdig (crcI (headL x t.length ++ t)) 4 4) ++ t := rfl
    rw [e2] at e
    have hl : (headL x t.length ++ pdig (crcI (headL x t.length ++ t)) 4 4).length = (cutL zs p 10).length := by
      rw [cutL_len _ _ _ (by omega), List.length_append, headL_len, pdig_len]
    exact ((List.append_inj e hl).2).symm
  have h5 := (frame_at zs hz p s (by omega) g1).1 (by rw [g2, ht, hc])
  have eP : ((p : Int)).toNat = p := by omega
  have es : ((s : Int)).toNat = s := by omega
  unfold frAns
  rw [eP, g1, g2, es, if_neg (by omega), if_neg (by omega), if_neg (by omega), if_neg (by omega), if_neg (by omega), if_pos h5, ht]

/-- A record of which a part is missing is not read. -/
theorem fr_torn (zs : List Int) (p m : Nat) (x : Int) (t : List Int) (hl : zs.length = p + m) (hm : m < 10 + t.length) (hc : cutL zs p m = (frameL x t).take m) (ht : t.length ≤ 1000) : (frAns zs (p : Int)).2.2.2 ≠ 0 := by
  have eP : ((p : Int)).toNat = p := by omega
  unfold frAns
  rw [eP, if_neg (by omega)]
  by_cases h10 : m < 10
  · rw [if_pos (by omega)]; simp
  · rw [if_neg (by omega)]
    have g1 : gnum zs p 2 = (t.length : Int) := by
      have e := gnum_cutP zs p m 0 2 (by omega)
      rw [hc] at e
      have e2 : gnum ((frameL x t).take m) 0 2 = gnum (frameL x t) 0 2 := by
        have := gnum_cutP (frameL x t) 0 m 0 2 (by omega)
        simpa [cutL] using this
      rw [e2, frame_size x t (by omega)] at e
      exact e.symm
    rw [g1]
    split
    · simp
    · rw [if_pos (by omega)]; simp

end Go.Proofs.YtkfmpfbhhmmllaaGreat

/- ScU: What Scan finds of a log that is cut off anywhere (plain facts). -/
namespace Go.Proofs.YtkfmpfbhhmmllaaGreat
open Go.RowKit
set_option linter.unusedVariables false
set_option maxRecDepth 100000

theorem ents_from (d : List EntD) (h : entsB d = true) : ∀ i, i ≤ d.length → entsFrom (prevN d i) (d.drop i) = true
  | 0, _ => h
  | i + 1, hi => by
    have ih := ents_from d h i (by omega)
    have hx : d[i]? = some d[i] := List.getElem?_eq_getElem (by omega)
    rw [ents_step d i _ hx] at ih
    simp only [Bool.and_eq_true] at ih
    exact ih.2

theorem ents_link (d : List EntD) (h : entsB d = true) (i : Nat) (x : EntD) (hx : d[i]? = some x) : linkB (prevN d i) x.1 = true := by
  have hi : i < d.length := (List.getElem?_eq_some_iff.1 hx).1
  have ih := ents_from d h i (by omega)
  rw [ents_step d i _ hx] at ih
  simp only [Bool.and_eq_true] at ih
  exact ih.1.2

theorem lastNum_take (d : List EntD) (i : Nat) (hi : i ≤ d.length) : lastNum (d.take i) = prevN d i := by
  unfold lastNum prevN
  rw [List.length_take, Nat.min_eq_left hi]
  by_cases h : i = 0
  · rw [if_pos h, if_pos h]
  · rw [if_neg h, if_neg h, List.getElem?_take_of_lt (by omega)]

theorem log_split (d : List EntD) (i : Nat) (x : EntD) (hx : d[i]? = some x) : logL d = logTo d i ++ (recL x ++ (d.drop (i + 1)).flatMap recL) := by
  have hi : i < d.length := (List.getElem?_eq_some_iff.1 hx).1
  have e : d[i] = x := (List.getElem?_eq_some_iff.1 hx).2
  unfold logL logTo
  conv => lhs; rw [← List.take_append_drop i d, List.flatMap_append, List.drop_eq_getElem_cons hi, e]
  simp

theorem cut_whole (A R Q : List Int) (k : Nat) (h : A.length + R.length ≤ k) : cutL ((A ++ (R ++ Q)).take k) A.length R.length = R := by
  unfold cutL
  rw [List.drop_take, List.drop_left, List.take_take, Nat.min_eq_left (by omega), List.take_left]

theorem cut_part (A R Q : List Int) (m : Nat) (h : m ≤ R.length) : cutL ((A ++ (R ++ Q)).take (A.length + m)) A.length m = R.take m := by
  unfold cutL
  rw [List.drop_take, List.drop_left, List.take_take, Nat.add_sub_cancel_left, Nat.min_self, List.take_append_of_le_length h]

theorem byt_take (l : List Int) (h : Byt l) (k : Nat) : Byt (l.take k) := by
  rw [byt_iff] at *
  exact fun x hx => h x (List.mem_of_mem_take hx)

theorem not_on (zs : List Int) (acc : List EntD) (p : Nat) (h : (frAns zs (p : Int)).2.2.2 ≠ 0) : goesOn zs acc p = false := by
  unfold goesOn; simp [h]

theorem scan_from (d : List EntD) (hd : entsB d = true) (k : Nat) (hk : k ≤ (logL d).length) : ∀ (r i f : Nat), r + i = d.length → (logTo d i).length ≤ k → k + 1 ≤ f + (logTo d i).length →
    ∃ j, j ≤ d.length ∧ scanL ((logL d).take k) f (d.take i) (logTo d i).length = (d.take j, (logTo d j).length) ∧ (logTo d j).length ≤ k ∧ (j < d.length → k < (logTo d (j + 1)).length)
  | r, i, f, hr, hp, hf => by
    have hlen : ((logL d).take k).length = k := by rw [List.length_take]; omega
    have hz : Byt ((logL d).take k) := byt_take _ (byt_logL d) k
    by_cases hi : i < d.length
    · have hx : d[i]? = some d[i] := List.getElem?_eq_getElem hi
      obtain ⟨x, ex⟩ : ∃ x, d[i] = x := ⟨_, rfl⟩
      rw [ex] at hx
      have hok := (entB_iff _ _).1 (ents_at d hd i x hx)
      have hs := log_split d i x hx
      have hsu := logTo_succ d i x hx
      have hrl := recL_len x
      have hsl : (logTo d (i + 1)).length = (logTo d i).length + (10 + ByteArray.size x.2.1) := by rw [hsu, List.length_append, hrl]
      by_cases hin : (logTo d (i + 1)).length ≤ k
      · have hc : cutL ((logL d).take k) (logTo d i).length (10 + ByteArray.size x.2.1) = frameL x.1 (sB x.2.1) := by
          have := cut_whole (logTo d i) (recL x) ((d.drop (i + 1)).flatMap recL) k (by rw [hrl]; omega)
          rw [← hs, hrl] at this
          exact this
        have ha := fr_rec _ hz (logTo d i).length x.1 (sB x.2.1) (ByteArray.size x.2.1) (sB_len _) hc (by rw [hlen]; omega) hok.2.2.1 hok.2.2.2 hok.1 hok.2.1
        rw [str_sB] at ha
        have hg : goesOn ((logL d).take k) (d.take i) (logTo d i).length = true := by
          unfold goesOn
          rw [ha, lastNum_take d i (by omega)]
          simp [ents_link d hd i x hx]
        have hrec : recOf ((logL d).take k) (logTo d i).length = x := by unfold recOf; rw [ha]
        have hnx : ((frAns ((logL d).take k) ((logTo d i).length : Int)).2.2.1).toNat = (logTo d (i + 1)).length := by rw [ha]; show ((((logTo d i).length : Int) + 10 + (ByteArray.size x.2.1 : Int))).toNat = _; omega
        have htk : d.take i ++ [x] = d.take (i + 1) := by rw [List.take_succ_eq_append_getElem hi, ex]
        rw [scanL_on _ f _ _ hg (by omega), hrec, hnx, htk]
        match r, hr with
        | 0, hr => omega
        | r + 1, hr => exact scan_from d hd k hk r (i + 1) (f - 1) (by omega) hin (by omega)
      · have hc : cutL ((logL d).take k) (logTo d i).length (k - (logTo d i).length) = (frameL x.1 (sB x.2.1)).take (k - (logTo d i).length) := by
          have := cut_part (logTo d i) (recL x) ((d.drop (i + 1)).flatMap recL) (k - (logTo d i).length) (by rw [hrl]; omega)
          rw [← hs, show (logTo d i).length + (k - (logTo d i).length) = k by omega] at this
          exact this
        have ht := fr_torn ((logL d).take k) (logTo d i).length (k - (logTo d i).length) x.1 (sB x.2.1) (by rw [hlen]; omega) (by rw [sB_len]; omega) hc (by rw [sB_len]; exact hok.2.2.2)
        exact ⟨i, by omega, scanL_end _ f _ _ (not_on _ _ _ ht), hp, fun _ => by omega⟩
    · have hi' : i = d.length := by omega
      have ha : logTo d i = logL d := logTo_all d i (by omega)
      have hpe : (logTo d i).length = (logL d).length := by rw [ha]
      have ht : (frAns ((logL d).take k) ((logTo d i).length : Int)).2.2.2 ≠ 0 := by
        unfold frAns
        rw [hlen, if_neg (by omega), if_pos (by omega)]
        simp
      exact ⟨i, by omega, scanL_end _ f _ _ (not_on _ _ _ ht), hp, fun h => by omega⟩

/-- Of a log that is cut off behind k bytes just the records are found that are all there. -/
theorem scan_cut (d : List EntD) (hd : entsB d = true) (k : Nat) (hk : k ≤ (logL d).length) :
    ∃ j, j ≤ d.length ∧ scanA ((logL d).take k) = (d.take j, (logTo d j).length) ∧ (logTo d j).length ≤ k ∧ (j < d.length → k < (logTo d (j + 1)).length) := by
  have hlen : ((logL d).take k).length = k := by rw [List.length_take]; omega
  have h := scan_from d hd k hk d.length 0 (k + 1) (by omega) (by rw [logTo_zero]; exact Nat.zero_le _) (by omega)
  obtain ⟨j, h1, h2, h3, h4⟩ := h
  refine ⟨j, h1, ?_, h3, h4⟩
  unfold scanA
  rw [hlen, ← h2, logTo_zero]
  rfl

/-- What was written is found again. -/
theorem scan_log (d : List EntD) (hd : entsB d = true) : scanA (logL d) = (d, (logL d).length) := by
  obtain ⟨j, h1, h2, h3, h4⟩ := scan_cut d hd (logL d).length (Nat.le_refl _)
  rw [List.take_length] at h2
  have hj : j = d.length := by
    rcases Nat.lt_or_ge j d.length with h | h
    · have h5 := h4 h
      have h6 := logTo_le d (j + 1)
      omega
    · omega
  rw [h2, hj, List.take_length, logTo_all d d.length (Nat.le_refl _)]

end Go.Proofs.YtkfmpfbhhmmllaaGreat

/- Fnd: Found of both sides, and scanFile of the program: what the reading of the history's file tells. -/
namespace Go.Proofs.YtkfmpfbhhmmllaaGreat
open Go.RowKit
set_option linter.unusedVariables false
set_option maxRecDepth 100000

/-- The history's file. -/
def histB : ByteArray := ⟨#[104, 105, 115, 116]⟩
/-- The file that is made beside it. -/
def tempB : ByteArray := ⟨#[116, 101, 109, 112]⟩
theorem histB_small : histB.size ≤ maxLen := by unfold maxLen; show 4 ≤ _; omega
theorem tempB_small : tempB.size ≤ maxLen := by unfold maxLen; show 4 ≤ _; omega

set_option maxRecDepth 100000 in
set_option maxHeartbeats 2000000 in
theorem implScanFile_any (cs : List Value) (d : shDisk.D) (B : Nat) (G : List Nat) (w : World) (ho : Own shDisk w B cs d G) (hs : shDisk.sz d ≤ 1048576) :
    Calls Tryz.prog 37 #[.agg cs.toArray] w fun e w' => ∃ u, e = .returned (.tuple #[u, .int .i64 ((scanA (rdA d histB).1).2 : Int)]) ∧ w'.ownsRow w.heap.size 71 2 u (scanA (rdA d histB).1).1.length (cellsE (scanA (rdA d histB).1).1) ∧ Hid (AccOk (scanA (rdA d histB).1).1 ∧ (scanA (rdA d histB).1).2 ≤ (rdA d histB).1.length) ∧ Below w.heap.size w w' := by
  obtain ⟨a3, n3, c3, F3, a4, n4, c4, F4, a5, n5, c5, F5, rfl, _, o3, o4, o5⟩ := openO_Disk ho
  obtain ⟨x0, e0⟩ : ∃ x : Int, x = d.1 := ⟨_, rfl⟩
  obtain ⟨x1, e1⟩ : ∃ x : Int, x = d.2.1 := ⟨_, rfl⟩
  obtain ⟨x2, e2⟩ : ∃ x : Int, x = d.2.2.1 := ⟨_, rfl⟩
  obtain ⟨zs, hzs⟩ : ∃ z, z = (rdA d histB).1 := ⟨_, rfl⟩
  obtain ⟨vb, hvb⟩ : ∃ z, z = (rdA d histB).2 := ⟨_, rfl⟩
  have hlen : zs.length ≤ 1048576 := by rw [hzs]; exact rdA_small histB hs
  have qrd : Hid (∀ w', Below w.heap.size w w' → Calls Tryz.prog 67 #[.agg #[.int .i64 x0, .int .i64 x1, .int .i64 x2, .slice a3 n3 c3, .slice a4 n4 c4, .slice a5 n5 c5], .string histB] w' fun e w'' => ∃ v F, e = .returned (.tuple #[v, .bool vb]) ∧ Own (.sl .u8) w'' w'.heap.size [v] zs F ∧ F.Nodup ∧ Below w'.heap.size w' w'') := fun w' h' => by
    rw [e0, e1, e2, hzs, hvb]; exact implRead_any _ d histB B G w' (ho.later h') hs histB_small
  rw [← e0, ← e1, ← e2, ← hzs]
  have bW0 : Below w.heap.size w (w.alloc (.cells #[.int .i64 x0, .int .i64 x1, .int .i64 x2, .slice a3 n3 c3, .slice a4 n4 c4, .slice a5 n5 c5] 36)) := (Below.refl _ _).alloc (Nat.le_refl _) _
  have HL : Hid (zs.length ≤ 1048576) := hlen
  clear ho hs o3 o4 o5 e0 e1 e2 hzs hvb hlen
  go_enter Tryz.func37, Tryz.ntmps37
  go_wp2_with fail
  refine (qrd.out _ bW0).mono ?_
  rintro e w1 ⟨v, F, rfl, p, nd, hb1⟩
  have b1 := bW0.trans (hb1.mono bW0.size)
  have qsc : Hid (Calls Tryz.prog 78 #[v] w1 fun e w' => ∃ u, e = .returned (.tuple #[u, .int .i64 ((scanA zs).2 : Int)]) ∧ w'.ownsRow w1.heap.size 71 2 u (scanA zs).1.length (cellsE (scanA zs).1) ∧ Hid (AccOk (scanA zs).1 ∧ (scanA zs).2 ≤ zs.length) ∧ Below w1.heap.size w1 w') := implScan_any v zs w1 p.reads HL.out
  clear hb1 p nd qrd bW0
  go_wp2_with fail
  refine qsc.out.mono ?_
  rintro e w2 ⟨u, rfl, ho2, hk2, hb2⟩
  have b2 := b1.trans (hb2.mono b1.size)
  have HO : Hid _ := own_lower ho2 b1.size
  clear hb2 qsc ho2
  go_wp2
  go_ret2
  exact ⟨u, rfl, HO.out, hk2, b2⟩

set_option maxRecDepth 100000 in
set_option maxHeartbeats 2000000 in
theorem implFound_any (cs : List Value) (d : shDisk.D) (B : Nat) (G : List Nat) (w : World) (ho : Own shDisk w B cs d G) (hs : shDisk.sz d ≤ 1048576) :
    Calls Tryz.prog 13 #[.agg cs.toArray] w fun e w' => ∃ u, e = .returned u ∧ w'.ownsRow w.heap.size 71 2 u (scanA (rdA d histB).1).1.length (cellsE (scanA (rdA d histB).1).1) ∧ Hid (AccOk (scanA (rdA d histB).1).1 ∧ (scanA (rdA d histB).1).2 ≤ (rdA d histB).1.length) ∧ Below w.heap.size w w' := by
  obtain ⟨a3, n3, c3, F3, a4, n4, c4, F4, a5, n5, c5, F5, rfl, _, o3, o4, o5⟩ := openO_Disk ho
  obtain ⟨x0, e0⟩ : ∃ x : Int, x = d.1 := ⟨_, rfl⟩
  obtain ⟨x1, e1⟩ : ∃ x : Int, x = d.2.1 := ⟨_, rfl⟩
  obtain ⟨x2, e2⟩ : ∃ x : Int, x = d.2.2.1 := ⟨_, rfl⟩
  obtain ⟨zs, hzs⟩ : ∃ z, z = (rdA d histB).1 := ⟨_, rfl⟩
  have qrd : Hid (∀ w', Below w.heap.size w w' → Calls Tryz.prog 37 #[.agg #[.int .i64 x0, .int .i64 x1, .int .i64 x2, .slice a3 n3 c3, .slice a4 n4 c4, .slice a5 n5 c5]] w' fun e w'' => ∃ u, e = .returned (.tuple #[u, .int .i64 ((scanA zs).2 : Int)]) ∧ w''.ownsRow w'.heap.size 71 2 u (scanA zs).1.length (cellsE (scanA zs).1) ∧ Hid (AccOk (scanA zs).1 ∧ (scanA zs).2 ≤ zs.length) ∧ Below w'.heap.size w' w'') := fun w' h' => by
    rw [e0, e1, e2, hzs]; exact implScanFile_any _ d B G w' (ho.later h') hs
  rw [← e0, ← e1, ← e2, ← hzs]
  have bW0 : Below w.heap.size w (w.alloc (.cells #[.int .i64 x0, .int .i64 x1, .int .i64 x2, .slice a3 n3 c3, .slice a4 n4 c4, .slice a5 n5 c5] 36)) := (Below.refl _ _).alloc (Nat.le_refl _) _
  clear ho hs o3 o4 o5 e0 e1 e2 hzs
  go_enter Tryz.func13, Tryz.ntmps13
  go_wp2_with fail
  refine (qrd.out _ bW0).mono ?_
  rintro e w1 ⟨u, rfl, ho2, hk2, hb1⟩
  have b1 := bW0.trans (hb1.mono bW0.size)
  have HO : Hid _ := own_lower ho2 bW0.size
  clear hb1 qrd bW0 ho2
  go_wp2
  go_ret
  exact ⟨u, rfl, HO.out, hk2, b1⟩

set_option maxRecDepth 100000 in
set_option maxHeartbeats 2000000 in
theorem specFound_any (cs : List Value) (d : shDisk.D) (B : Nat) (G : List Nat) (w : World) (ho : Own shDisk w B cs d G) (hs : shDisk.sz d ≤ 1048576) :
    Calls Tryz.prog 11 #[.agg cs.toArray] w fun e w' => ∃ u, e = .returned u ∧ w'.ownsRow w.heap.size 71 2 u (scanA (rdA d histB).1).1.length (cellsE (scanA (rdA d histB).1).1) ∧ Hid (AccOk (scanA (rdA d histB).1).1 ∧ (scanA (rdA d histB).1).2 ≤ (rdA d histB).1.length) ∧ Below w.heap.size w w' := by
  obtain ⟨a3, n3, c3, F3, a4, n4, c4, F4, a5, n5, c5, F5, rfl, _, o3, o4, o5⟩ := openO_Disk ho
  obtain ⟨x0, e0⟩ : ∃ x : Int, x = d.1 := ⟨_, rfl⟩
  obtain ⟨x1, e1⟩ : ∃ x : Int, x = d.2.1 := ⟨_, rfl⟩
  obtain ⟨x2, e2⟩ : ∃ x : Int, x = d.2.2.1 := ⟨_, rfl⟩
  obtain ⟨zs, hzs⟩ : ∃ z, z = (rdA d histB).1 := ⟨_, rfl⟩
  obtain ⟨vb, hvb⟩ : ∃ z, z = (rdA d histB).2 := ⟨_, rfl⟩
  have hnil : vb = false → zs = [] := by
    rw [hvb, hzs]; unfold rdA; split
    · intro h; cases h
    · intro _; rfl
  have hlen : zs.length ≤ 1048576 := by rw [hzs]; exact rdA_small histB hs
  have qrd : Hid (∀ w', Below w.heap.size w w' → Calls Tryz.prog 23 #[.agg #[.int .i64 x0, .int .i64 x1, .int .i64 x2, .slice a3 n3 c3, .slice a4 n4 c4, .slice a5 n5 c5], .string histB] w' fun e w'' => ∃ v F, e = .returned (.tuple #[v, .bool vb]) ∧ Own (.sl .u8) w'' w'.heap.size [v] zs F ∧ F.Nodup ∧ Below w'.heap.size w' w'') := fun w' h' => by
    rw [e0, e1, e2, hzs, hvb]; exact specRead_any _ d histB B G w' (ho.later h') hs
  rw [← e0, ← e1, ← e2, ← hzs]
  have bW0 : Below w.heap.size w (w.alloc (.cells #[.int .i64 x0, .int .i64 x1, .int .i64 x2, .slice a3 n3 c3, .slice a4 n4 c4, .slice a5 n5 c5] 36)) := (Below.refl _ _).alloc (Nat.le_refl _) _
  have HL : Hid (zs.length ≤ 1048576) := hlen
  clear ho hs o3 o4 o5 e0 e1 e2 hzs hvb hlen
  go_enter Tryz.func11, Tryz.ntmps11
  go_wp2_with fail
  refine (qrd.out _ bW0).mono ?_
  rintro e w1 ⟨v, F, rfl, p, nd, hb1⟩
  have b1 := bW0.trans (hb1.mono bW0.size)
  have qsc : Hid (Calls Tryz.prog 33 #[v] w1 fun e w' => ∃ u, e = .returned (.tuple #[u, .int .i64 ((scanA zs).2 : Int)]) ∧ w'.ownsRow w1.heap.size 71 2 u (scanA zs).1.length (cellsE (scanA zs).1) ∧ Hid (AccOk (scanA zs).1 ∧ (scanA zs).2 ≤ zs.length) ∧ Below w1.heap.size w1 w') := specScan_any v zs w1 p.reads HL.out
  clear hb1 p nd qrd bW0
  cases vb with
  | false =>
    have hz := hnil rfl
    clear qsc
    subst hz
    go_wp2
    go_ret
    exact ⟨_, rfl, ⟨rfl, .inl ⟨rfl, rfl⟩⟩, ⟨(fun x hx => (by cases hx)), Nat.le_refl _⟩, b1⟩
  | true =>
    clear hnil
    go_wp2_with fail
    refine qsc.out.mono ?_
    rintro e w2 ⟨u, rfl, ho2, hk2, hb2⟩
    have b2 := b1.trans (hb2.mono b1.size)
    have HO : Hid _ := own_lower ho2 b1.size
    clear hb2 qsc ho2
    go_wp2
    go_ret
    exact ⟨u, rfl, HO.out, hk2, b2⟩

end Go.Proofs.YtkfmpfbhhmmllaaGreat

/- EnsS: EntriesOk of the model. By program (entgen.py). -/
namespace Go.Proofs.YtkfmpfbhhmmllaaGreat
open Go.RowKit
set_option linter.unusedVariables false
set_option maxRecDepth 100000
set_option linter.unusedSimpArgs false

set_option maxRecDepth 100000 in
set_option maxHeartbeats 4000000 in
theorem specEnts_any (a : Option Addr) (n c : Nat) (d : List EntD) (w : World) (hr : Reads (.sl shEntry) w [.slice a n c] d) :
    Calls Tryz.prog 22 #[.slice a n c] w fun e w' => e = .returned (.bool (entsB d)) ∧ Below w.heap.size w w' := by
  obtain ⟨hl, hc1, hc2⟩ := reads_len hr
  unfold maxLen at hc2
  have HR : Hid (Reads (.sl shEntry) w [.slice a n c] d) := hr
  have HL : Hid (List.length (α := EntD) d = n) := hl
  obtain ⟨V, hV⟩ : ∃ V, V = entsB d := ⟨_, rfl⟩
  have HV : Hid (V = entsFrom (prevN d 0) (d.drop 0)) := hV
  rw [← hV]
  clear hr hl hV
  go_enter Tryz.func22, Tryz.ntmps22
  go_wp2
  go_loopw [7] (fun i wr => ∃ k : Nat, k ≤ n ∧ i = .int .i64 k ∧ Hid (V = entsFrom (prevN d k) (d.drop k)) ∧ Hid (∀ j x, k = j + 1 → d[j]? = some x → 1 ≤ x.1 ∧ x.1 ≤ 1000000000) ∧ Below w.heap.size w wr) (fun i _ => n - (intOf i).toNat)
  case atStart => exact ⟨0, Nat.zero_le _, rfl, HV, (fun j x h => by omega : ∀ j x, _ → _ → _), Below.refl _ _⟩
  case round =>
    obtain ⟨k, hk, rfl, HE, HP, hbel⟩ := hrel
    by_cases hlt : k < n
    · obtain ⟨b, off, cc, x, rfl, hb, hx, hrx, hcell⟩ := reads_elem HR.out k hlt
      have hst : V = (entB x.1 (ByteArray.size x.2.1) && linkB (prevN d k) x.1 && entsFrom (prevN d (k + 1)) (d.drop (k + 1))) := HE.out.trans (ents_step d k x hx)
      obtain ⟨rfl, ls⟩ := open_Entry hrx
      obtain ⟨y0, ey0⟩ : ∃ y : Int, y = x.1 := ⟨_, rfl⟩
      obtain ⟨y1, ey1⟩ : ∃ y : ByteArray, y = x.2.1 := ⟨_, rfl⟩
      have g0 : wr.cell? ⟨b, off + k * 2, none⟩ = some (.int .i64 y0) := by rw [ey0]; exact (hbel.cell (p := ⟨b, off + (k * 2 + 0), none⟩) hb).trans (hcell 0 (by decide))
      have g1 : wr.cell? ⟨b, off + k * 2 + 1, none⟩ = some (.string y1) := by rw [ey1]; exact (hbel.cell (p := ⟨b, off + (k * 2 + 1), none⟩) hb).trans (hcell 1 (by decide))
      rw [← ey0, ← ey1] at hst
      rw [← ey1] at ls
      have HX : Hid (d[k]? = some x ∧ y0 = x.1) := ⟨hx, ey0⟩
      obtain ⟨W0, hW0⟩ : ∃ W0, W0 = wr.alloc (.cells #[.int .i64 y0, .string y1] 71) := ⟨_, rfl⟩
      have hbs := hbel.size
      have bw0 : Below wr.heap.size wr W0 := by rw [hW0]; exact (Below.refl _ _).alloc (Nat.le_refl _) _
      have bW0 : Below w.heap.size w W0 := hbel.trans (bw0.mono hbs)
      have hbox : W0.heap[wr.heap.size]? = some (.cells #[.int .i64 y0, .string y1] 71 (0, 0)) := by rw [hW0]; exact heap_alloc_new wr _
      have zlt0 : wr.heap.size < W0.heap.size := by rw [hW0]; simp
      have BX : Hid (∀ w', Below W0.heap.size W0 w' → w'.cell? ⟨wr.heap.size, 0, none⟩ = some (.int .i64 y0) ∧ w'.cell? ⟨wr.heap.size, 1, none⟩ = some (.string y1)) := fun w' h' => by
        have i := (h'.block _ zlt0).trans hbox
        exact ⟨box_cell i rfl, box_cell i rfl⟩
      have HW0 : Hid (W0 = wr.alloc (.cells #[.int .i64 y0, .string y1] 71)) := hW0
      have bD0 : Below W0.heap.size W0 W0.drew := (Below.refl _ _).drew
      obtain ⟨v0, v1⟩ := BX.out W0 (Below.refl _ _)
      have hNx : Hid (∀ V', V = V' → entB y0 y1.size = true → Hid (V = V') ∧ Hid (∀ j x, k + 1 = j + 1 → d[j]? = some x → 1 ≤ x.1 ∧ x.1 ≤ 1000000000)) := fun V' h1 h2 => ⟨h1, (fun j z hj hz => by
        obtain rfl : k = j := by omega
        rw [HX.out.1] at hz
        obtain rfl := Option.some.inj hz
        rw [← HX.out.2]
        have := (entB_iff _ _).1 h2
        omega : ∀ j x, _ → _ → _)⟩
      clear hcell hrx hx ey0 ey1 hW0 hbox
      cases hB : entB y0 y1.size with
      | false =>
        have EE : Hid (V = false) := by show _ = _; rw [hst, hB]; rfl
        have qE : Hid (∀ w', Calls Tryz.prog 53 #[.agg #[.int .i64 y0, .string y1]] w' fun e w'' => e = .returned (.bool false) ∧ Below w'.heap.size w' w'') := fun w' => by rw [← hB]; exact specEnt_any _ _ w' ls
        clear hst hB hNx
        go_wp2_with fail
        rw [← HW0.out]
        refine wp_region_held_drew (S := fun w' => w'.cell? ⟨wr.heap.size, 0, none⟩ = some (.int .i64 y0) ∧ w'.cell? ⟨wr.heap.size, 1, none⟩ = some (.string y1)) (by kernel_rfl) ⟨v0, v1⟩ (fun hHeld => ?_)
        refine wpAnyH_take (i := 0) (v := .agg #[.int .i64 y0, .string y1]) rfl (by kernel_rfl) (by kernel_rfl) (by kernel_rfl) (fun _ _ _ h => h) (Or.inl ⟨by kernel_rfl, ?_⟩) (by assumption) ?_
        · intro w9 hSw; (try dsimp only at hSw); go_simp
        simp only [Act.put, List.getElem_toArray, List.getElem_cons_succ, List.getElem_cons_zero, List.setIfInBounds_toArray, List.set_cons_zero, List.set_cons_succ]
        refine wpAnyH_ready (rs := [1]) (by kernel_rfl) (by simp) ?_
        refine AllReadyH.cons rfl (fun K hK => ?_) AllReadyH.nil
        go_simp
        refine (qE.out _).mono ?_
        rintro e w1 ⟨rfl, hb1⟩
        have d1 : Below W0.heap.size W0 w1 := bD0.trans (hb1.mono bD0.size)
        clear hb1
        go_wp2_with fail
        refine hK.out _ _ (BX.out w1 d1) (fun hHeld1 => ?_)
        clear hK
        refine wpAnyH_take (i := 2) (v := .bool true) rfl (by kernel_rfl) (by kernel_rfl) (by kernel_rfl) (fun _ _ _ h => h) (Or.inl ⟨by kernel_rfl, ?_⟩) (by assumption) ?_
        · intro w9 hSw; (try dsimp only at hSw); go_simp
        simp only [Act.put, List.getElem_toArray, List.getElem_cons_succ, List.getElem_cons_zero, List.setIfInBounds_toArray, List.set_cons_zero, List.set_cons_succ]
        refine wpAnyH_take (i := 3) (v := .bool true) rfl (by kernel_rfl) (by kernel_rfl) (by kernel_rfl) (fun _ _ _ h => h) (Or.inl ⟨by kernel_rfl, ?_⟩) (by assumption) ?_
        · intro w9 hSw; (try dsimp only at hSw); go_simp
        simp only [Act.put, List.getElem_toArray, List.getElem_cons_succ, List.getElem_cons_zero, List.setIfInBounds_toArray, List.set_cons_zero, List.set_cons_succ]
        refine wpAnyH_take (i := 4) (v := undef) rfl (by kernel_rfl) (by kernel_rfl) (by kernel_rfl) (fun _ _ _ h => h) (Or.inr ⟨by kernel_rfl, rfl⟩) (by assumption) ?_
        simp only [Act.put, List.getElem_toArray, List.getElem_cons_succ, List.getElem_cons_zero, List.setIfInBounds_toArray, List.set_cons_zero, List.set_cons_succ]
        refine wpAnyH_take (i := 5) (v := undef) rfl (by kernel_rfl) (by kernel_rfl) (by kernel_rfl) (fun _ _ _ h => h) (Or.inr ⟨by kernel_rfl, rfl⟩) (by assumption) ?_
        simp only [Act.put, List.getElem_toArray, List.getElem_cons_succ, List.getElem_cons_zero, List.setIfInBounds_toArray, List.set_cons_zero, List.set_cons_succ]
        refine wpAnyH_take (i := 6) (v := undef) rfl (by kernel_rfl) (by kernel_rfl) (by kernel_rfl) (fun _ _ _ h => h) (Or.inr ⟨by kernel_rfl, rfl⟩) (by assumption) ?_
        simp only [Act.put, List.getElem_toArray, List.getElem_cons_succ, List.getElem_cons_zero, List.setIfInBounds_toArray, List.set_cons_zero, List.set_cons_succ]
        refine wpAnyH_take (i := 7) (v := undef) rfl (by kernel_rfl) (by kernel_rfl) (by kernel_rfl) (fun _ _ _ h => h) (Or.inr ⟨by kernel_rfl, rfl⟩) (by assumption) ?_
        simp only [Act.put, List.getElem_toArray, List.getElem_cons_succ, List.getElem_cons_zero, List.setIfInBounds_toArray, List.set_cons_zero, List.set_cons_succ]
        refine wpAnyH_take (i := 8) (v := undef) rfl (by kernel_rfl) (by kernel_rfl) (by kernel_rfl) (fun _ _ _ h => h) (Or.inr ⟨by kernel_rfl, rfl⟩) (by assumption) ?_
        simp only [Act.put, List.getElem_toArray, List.getElem_cons_succ, List.getElem_cons_zero, List.setIfInBounds_toArray, List.set_cons_zero, List.set_cons_succ]
        refine wpAnyH_take (i := 9) (v := undef) rfl (by kernel_rfl) (by kernel_rfl) (by kernel_rfl) (fun _ _ _ h => h) (Or.inr ⟨by kernel_rfl, rfl⟩) (by assumption) ?_
        simp only [Act.put, List.getElem_toArray, List.getElem_cons_succ, List.getElem_cons_zero, List.setIfInBounds_toArray, List.set_cons_zero, List.set_cons_succ]
        refine wpAnyH_take (i := 10) (v := undef) rfl (by kernel_rfl) (by kernel_rfl) (by kernel_rfl) (fun _ _ _ h => h) (Or.inr ⟨by kernel_rfl, rfl⟩) (by assumption) ?_
        simp only [Act.put, List.getElem_toArray, List.getElem_cons_succ, List.getElem_cons_zero, List.setIfInBounds_toArray, List.set_cons_zero, List.set_cons_succ]
        refine wpAnyH_take (i := 11) (v := undef) rfl (by kernel_rfl) (by kernel_rfl) (by kernel_rfl) (fun _ _ _ h => h) (Or.inr ⟨by kernel_rfl, rfl⟩) (by assumption) ?_
        simp only [Act.put, List.getElem_toArray, List.getElem_cons_succ, List.getElem_cons_zero, List.setIfInBounds_toArray, List.set_cons_zero, List.set_cons_succ]
        refine wpAnyH_take (i := 12) (v := undef) rfl (by kernel_rfl) (by kernel_rfl) (by kernel_rfl) (fun _ _ _ h => h) (Or.inr ⟨by kernel_rfl, rfl⟩) (by assumption) ?_
        simp only [Act.put, List.getElem_toArray, List.getElem_cons_succ, List.getElem_cons_zero, List.setIfInBounds_toArray, List.set_cons_zero, List.set_cons_succ]
        refine wpAnyH_take (i := 13) (v := undef) rfl (by kernel_rfl) (by kernel_rfl) (by kernel_rfl) (fun _ _ _ h => h) (Or.inr ⟨by kernel_rfl, rfl⟩) (by assumption) ?_
        simp only [Act.put, List.getElem_toArray, List.getElem_cons_succ, List.getElem_cons_zero, List.setIfInBounds_toArray, List.set_cons_zero, List.set_cons_succ]
        refine wpAnyH_take (i := 14) (v := undef) rfl (by kernel_rfl) (by kernel_rfl) (by kernel_rfl) (fun _ _ _ h => h) (Or.inr ⟨by kernel_rfl, rfl⟩) (by assumption) ?_
        simp only [Act.put, List.getElem_toArray, List.getElem_cons_succ, List.getElem_cons_zero, List.setIfInBounds_toArray, List.set_cons_zero, List.set_cons_succ]
        refine wpAnyH_take (i := 15) (v := undef) rfl (by kernel_rfl) (by kernel_rfl) (by kernel_rfl) (fun _ _ _ h => h) (Or.inr ⟨by kernel_rfl, rfl⟩) (by assumption) ?_
        simp only [Act.put, List.getElem_toArray, List.getElem_cons_succ, List.getElem_cons_zero, List.setIfInBounds_toArray, List.set_cons_zero, List.set_cons_succ]
        refine wpAnyH_take (i := 16) (v := undef) rfl (by kernel_rfl) (by kernel_rfl) (by kernel_rfl) (fun _ _ _ h => h) (Or.inr ⟨by kernel_rfl, rfl⟩) (by assumption) ?_
        simp only [Act.put, List.getElem_toArray, List.getElem_cons_succ, List.getElem_cons_zero, List.setIfInBounds_toArray, List.set_cons_zero, List.set_cons_succ]
        refine wpAnyH_take (i := 17) (v := undef) rfl (by kernel_rfl) (by kernel_rfl) (by kernel_rfl) (fun _ _ _ h => h) (Or.inr ⟨by kernel_rfl, rfl⟩) (by assumption) ?_
        simp only [Act.put, List.getElem_toArray, List.getElem_cons_succ, List.getElem_cons_zero, List.setIfInBounds_toArray, List.set_cons_zero, List.set_cons_succ]
        refine wpAnyH_take (i := 18) (v := .bool true) rfl (by kernel_rfl) (by kernel_rfl) (by kernel_rfl) (fun _ _ _ h => h) (Or.inl ⟨by kernel_rfl, ?_⟩) (by assumption) ?_
        · intro w9 hSw; (try dsimp only at hSw); go_simp
        simp only [Act.put, List.getElem_toArray, List.getElem_cons_succ, List.getElem_cons_zero, List.setIfInBounds_toArray, List.set_cons_zero, List.set_cons_succ]
        refine wpAnyH_done (by kernel_rfl) ?_ _
        have bE := bW0.trans (d1.mono bW0.size)
        go_wp2
        go_ret
        exact ⟨by rw [EE.out]; rfl, bE⟩
      | true =>
        have qE : Hid (∀ w', Calls Tryz.prog 53 #[.agg #[.int .i64 y0, .string y1]] w' fun e w'' => e = .returned (.bool true) ∧ Below w'.heap.size w' w'') := fun w' => by rw [← hB]; exact specEnt_any _ _ w' ls
        have hyb := (entB_iff _ _).1 hB
        by_cases hk0 : k = 0
        · have EE := hNx.out _ (by rw [hst, hB, show prevN d k = none by rw [hk0]; rfl]; simp [linkB] : V = entsFrom (prevN d (k + 1)) (d.drop (k + 1))) hB
          have hk1 : decide ((0 : Int) < (k : Int)) = false := by simp; omega
          have hk2 : decide (0 < k) = false := by simp; omega
          clear hst hB hNx HE HP hk0
          go_wp2_with fail
          rw [← HW0.out]
          refine wp_region_held_drew (S := fun w' => w'.cell? ⟨wr.heap.size, 0, none⟩ = some (.int .i64 y0) ∧ w'.cell? ⟨wr.heap.size, 1, none⟩ = some (.string y1)) (by kernel_rfl) ⟨v0, v1⟩ (fun hHeld => ?_)
          refine wpAnyH_take (i := 0) (v := .agg #[.int .i64 y0, .string y1]) rfl (by kernel_rfl) (by kernel_rfl) (by kernel_rfl) (fun _ _ _ h => h) (Or.inl ⟨by kernel_rfl, ?_⟩) (by assumption) ?_
          · intro w9 hSw; (try dsimp only at hSw); go_simp
          simp only [Act.put, List.getElem_toArray, List.getElem_cons_succ, List.getElem_cons_zero, List.setIfInBounds_toArray, List.set_cons_zero, List.set_cons_succ]
          refine wpAnyH_ready (rs := [1]) (by kernel_rfl) (by simp) ?_
          refine AllReadyH.cons rfl (fun K hK => ?_) AllReadyH.nil
          go_simp
          refine (qE.out _).mono ?_
          rintro e w1 ⟨rfl, hb1⟩
          have d1 : Below W0.heap.size W0 w1 := bD0.trans (hb1.mono bD0.size)
          clear hb1
          go_wp2_with fail
          refine hK.out _ _ (BX.out w1 d1) (fun hHeld1 => ?_)
          clear hK
          refine wpAnyH_take (i := 2) (v := .bool false) rfl (by kernel_rfl) (by kernel_rfl) (by kernel_rfl) (fun _ _ _ h => h) (Or.inl ⟨by kernel_rfl, ?_⟩) (by assumption) ?_
          · intro w9 hSw; (try dsimp only at hSw); go_simp
          simp only [Act.put, List.getElem_toArray, List.getElem_cons_succ, List.getElem_cons_zero, List.setIfInBounds_toArray, List.set_cons_zero, List.set_cons_succ]
          refine wpAnyH_take (i := 3) (v := .bool false) rfl (by kernel_rfl) (by kernel_rfl) (by kernel_rfl) (fun _ _ _ h => h) (Or.inl ⟨by kernel_rfl, ?_⟩) (by assumption) ?_
          · intro w9 hSw; (try dsimp only at hSw); go_simp
          simp only [Act.put, List.getElem_toArray, List.getElem_cons_succ, List.getElem_cons_zero, List.setIfInBounds_toArray, List.set_cons_zero, List.set_cons_succ]
          refine wpAnyH_take (i := 4) (v := .int .i64 k) rfl (by kernel_rfl) (by kernel_rfl) (by kernel_rfl) (fun _ _ _ h => h) (Or.inl ⟨by kernel_rfl, ?_⟩) (by assumption) ?_
          · intro w9 hSw; (try dsimp only at hSw); go_simp
          simp only [Act.put, List.getElem_toArray, List.getElem_cons_succ, List.getElem_cons_zero, List.setIfInBounds_toArray, List.set_cons_zero, List.set_cons_succ]
          refine wpAnyH_take (i := 5) (v := .bool false) rfl (by kernel_rfl) (by kernel_rfl) (by kernel_rfl) (fun _ _ _ h => h) (Or.inl ⟨by kernel_rfl, ?_⟩) (by assumption) ?_
          · intro w9 hSw; (try dsimp only at hSw); go_simp
          simp only [Act.put, List.getElem_toArray, List.getElem_cons_succ, List.getElem_cons_zero, List.setIfInBounds_toArray, List.set_cons_zero, List.set_cons_succ]
          refine wpAnyH_take (i := 6) (v := .bool false) rfl (by kernel_rfl) (by kernel_rfl) (by kernel_rfl) (fun _ _ _ h => h) (Or.inl ⟨by kernel_rfl, ?_⟩) (by assumption) ?_
          · intro w9 hSw; (try dsimp only at hSw); go_simp
          simp only [Act.put, List.getElem_toArray, List.getElem_cons_succ, List.getElem_cons_zero, List.setIfInBounds_toArray, List.set_cons_zero, List.set_cons_succ]
          refine wpAnyH_take (i := 7) (v := undef) rfl (by kernel_rfl) (by kernel_rfl) (by kernel_rfl) (fun _ _ _ h => h) (Or.inr ⟨by kernel_rfl, rfl⟩) (by assumption) ?_
          simp only [Act.put, List.getElem_toArray, List.getElem_cons_succ, List.getElem_cons_zero, List.setIfInBounds_toArray, List.set_cons_zero, List.set_cons_succ]
          refine wpAnyH_take (i := 8) (v := undef) rfl (by kernel_rfl) (by kernel_rfl) (by kernel_rfl) (fun _ _ _ h => h) (Or.inr ⟨by kernel_rfl, rfl⟩) (by assumption) ?_
          simp only [Act.put, List.getElem_toArray, List.getElem_cons_succ, List.getElem_cons_zero, List.setIfInBounds_toArray, List.set_cons_zero, List.set_cons_succ]
          refine wpAnyH_take (i := 9) (v := undef) rfl (by kernel_rfl) (by kernel_rfl) (by kernel_rfl) (fun _ _ _ h => h) (Or.inr ⟨by kernel_rfl, rfl⟩) (by assumption) ?_
          simp only [Act.put, List.getElem_toArray, List.getElem_cons_succ, List.getElem_cons_zero, List.setIfInBounds_toArray, List.set_cons_zero, List.set_cons_succ]
          refine wpAnyH_take (i := 10) (v := undef) rfl (by kernel_rfl) (by kernel_rfl) (by kernel_rfl) (fun _ _ _ h => h) (Or.inr ⟨by kernel_rfl, rfl⟩) (by assumption) ?_
          simp only [Act.put, List.getElem_toArray, List.getElem_cons_succ, List.getElem_cons_zero, List.setIfInBounds_toArray, List.set_cons_zero, List.set_cons_succ]
          refine wpAnyH_take (i := 11) (v := undef) rfl (by kernel_rfl) (by kernel_rfl) (by kernel_rfl) (fun _ _ _ h => h) (Or.inr ⟨by kernel_rfl, rfl⟩) (by assumption) ?_
          simp only [Act.put, List.getElem_toArray, List.getElem_cons_succ, List.getElem_cons_zero, List.setIfInBounds_toArray, List.set_cons_zero, List.set_cons_succ]
          refine wpAnyH_take (i := 12) (v := undef) rfl (by kernel_rfl) (by kernel_rfl) (by kernel_rfl) (fun _ _ _ h => h) (Or.inr ⟨by kernel_rfl, rfl⟩) (by assumption) ?_
          simp only [Act.put, List.getElem_toArray, List.getElem_cons_succ, List.getElem_cons_zero, List.setIfInBounds_toArray, List.set_cons_zero, List.set_cons_succ]
          refine wpAnyH_take (i := 13) (v := undef) rfl (by kernel_rfl) (by kernel_rfl) (by kernel_rfl) (fun _ _ _ h => h) (Or.inr ⟨by kernel_rfl, rfl⟩) (by assumption) ?_
          simp only [Act.put, List.getElem_toArray, List.getElem_cons_succ, List.getElem_cons_zero, List.setIfInBounds_toArray, List.set_cons_zero, List.set_cons_succ]
          refine wpAnyH_take (i := 14) (v := undef) rfl (by kernel_rfl) (by kernel_rfl) (by kernel_rfl) (fun _ _ _ h => h) (Or.inr ⟨by kernel_rfl, rfl⟩) (by assumption) ?_
          simp only [Act.put, List.getElem_toArray, List.getElem_cons_succ, List.getElem_cons_zero, List.setIfInBounds_toArray, List.set_cons_zero, List.set_cons_succ]
          refine wpAnyH_take (i := 15) (v := undef) rfl (by kernel_rfl) (by kernel_rfl) (by kernel_rfl) (fun _ _ _ h => h) (Or.inr ⟨by kernel_rfl, rfl⟩) (by assumption) ?_
          simp only [Act.put, List.getElem_toArray, List.getElem_cons_succ, List.getElem_cons_zero, List.setIfInBounds_toArray, List.set_cons_zero, List.set_cons_succ]
          refine wpAnyH_take (i := 16) (v := undef) rfl (by kernel_rfl) (by kernel_rfl) (by kernel_rfl) (fun _ _ _ h => h) (Or.inr ⟨by kernel_rfl, rfl⟩) (by assumption) ?_
          simp only [Act.put, List.getElem_toArray, List.getElem_cons_succ, List.getElem_cons_zero, List.setIfInBounds_toArray, List.set_cons_zero, List.set_cons_succ]
          refine wpAnyH_take (i := 17) (v := .bool false) rfl (by kernel_rfl) (by kernel_rfl) (by kernel_rfl) (fun _ _ _ h => h) (Or.inl ⟨by kernel_rfl, ?_⟩) (by assumption) ?_
          · intro w9 hSw; (try dsimp only at hSw); go_simp
          simp only [Act.put, List.getElem_toArray, List.getElem_cons_succ, List.getElem_cons_zero, List.setIfInBounds_toArray, List.set_cons_zero, List.set_cons_succ]
          refine wpAnyH_take (i := 18) (v := .bool false) rfl (by kernel_rfl) (by kernel_rfl) (by kernel_rfl) (fun _ _ _ h => h) (Or.inl ⟨by kernel_rfl, ?_⟩) (by assumption) ?_
          · intro w9 hSw; (try dsimp only at hSw); go_simp
          simp only [Act.put, List.getElem_toArray, List.getElem_cons_succ, List.getElem_cons_zero, List.setIfInBounds_toArray, List.set_cons_zero, List.set_cons_succ]
          refine wpAnyH_done (by kernel_rfl) ?_ _
          have bE := bW0.trans (d1.mono bW0.size)
          go_wp2
          go_roundw
          case rel => exact ⟨k + 1, by omega, by go_num, EE.1, EE.2, bE⟩
          case measure => simp [intOf]; omega
        · obtain ⟨j, hj⟩ : ∃ j, k = j + 1 := ⟨k - 1, by omega⟩
          obtain ⟨b', off', c2, z, he, hb2, hz, hrz, hcell2⟩ := reads_elem HR.out j (by omega)
          simp only [Option.some.injEq, Addr.mk.injEq, and_true] at he
          obtain ⟨rfl, rfl⟩ := he
          obtain ⟨rfl, ls2⟩ := open_Entry hrz
          obtain ⟨z0, ez0⟩ : ∃ y : Int, y = z.1 := ⟨_, rfl⟩
          have p0 : W0.cell? ⟨b, off + j * 2, none⟩ = some (.int .i64 z0) := by rw [ez0]; exact (bW0.cell (p := ⟨b, off + (j * 2 + 0), none⟩) hb).trans (hcell2 0 (by decide))
          have hzb : 1 ≤ z0 ∧ z0 ≤ 1000000000 := by rw [ez0]; exact HP.out j z hj hz
          have hpr : prevN d k = some z0 := by rw [hj, ez0]; exact prevN_succ d j z hz
          have BY : Hid (∀ w', Below W0.heap.size W0 w' → w'.cell? ⟨wr.heap.size, 0, none⟩ = some (.int .i64 y0) ∧ w'.cell? ⟨wr.heap.size, 1, none⟩ = some (.string y1) ∧ w'.cell? ⟨b, off + j * 2, none⟩ = some (.int .i64 z0)) := fun w' h' => ⟨(BX.out w' h').1, (BX.out w' h').2, (h'.cell (p := ⟨b, off + j * 2, none⟩) (Nat.lt_of_lt_of_le hb (Nat.le_trans hbs (Nat.le_of_lt zlt0)))).trans p0⟩
          have hkj : (k : Int) - 1 = (j : Int) := by omega
          have hkw : IntKind.i64.wrap (j : Int) = (j : Int) := wrap_i64_in _ (by omega) (by omega)
          have hyw : IntKind.i64.wrap (y0 - 1) = y0 - 1 := wrap_i64_in _ (by omega) (by omega)
          have hzw : IntKind.i64.wrap z0 = z0 := wrap_i64_in _ (by omega) (by omega)
          have hk1 : decide ((0 : Int) < (k : Int)) = true := by simp; omega
          have hk2 : decide (0 < k) = true := by simp; omega
          have hbW : b < W0.heap.size := Nat.lt_of_lt_of_le hb (Nat.le_trans hbs (Nat.le_of_lt zlt0))
          have hj1 : (0 : Int) ≤ (j : Int) := by omega
          have hj2 : (j : Int) < (n : Int) := by omega
          clear hcell2 hrz hz ez0
          by_cases hE : y0 - 1 = z0
          · have EE := hNx.out _ (by rw [hst, hB, hpr]; simp [linkB]; omega : V = entsFrom (prevN d (k + 1)) (d.drop (k + 1))) hB
            clear hst hB hNx HE HP hpr hj
            have hq : (y0 - 1 == z0) = true := by simp; omega
            go_wp2_with fail
            rw [← HW0.out]
            refine wp_region_held_drew (S := fun w' => w'.cell? ⟨wr.heap.size, 0, none⟩ = some (.int .i64 y0) ∧ w'.cell? ⟨wr.heap.size, 1, none⟩ = some (.string y1) ∧ w'.cell? ⟨b, off + j * 2, none⟩ = some (.int .i64 z0)) (by kernel_rfl) ⟨v0, v1, p0⟩ (fun hHeld => ?_)
            refine wpAnyH_take (i := 0) (v := .agg #[.int .i64 y0, .string y1]) rfl (by kernel_rfl) (by kernel_rfl) (by kernel_rfl) (fun _ _ _ h => h) (Or.inl ⟨by kernel_rfl, ?_⟩) (by assumption) ?_
            · intro w9 hSw; (try dsimp only at hSw); go_simp
            simp only [Act.put, List.getElem_toArray, List.getElem_cons_succ, List.getElem_cons_zero, List.setIfInBounds_toArray, List.set_cons_zero, List.set_cons_succ]
            refine wpAnyH_ready (rs := [1]) (by kernel_rfl) (by simp) ?_
            refine AllReadyH.cons rfl (fun K hK => ?_) AllReadyH.nil
            go_simp
            refine (qE.out _).mono ?_
            rintro e w1 ⟨rfl, hb1⟩
            have d1 : Below W0.heap.size W0 w1 := bD0.trans (hb1.mono bD0.size)
            clear hb1
            go_wp2_with fail
            refine hK.out _ _ (BY.out w1 d1) (fun hHeld1 => ?_)
            clear hK
            refine wpAnyH_take (i := 2) (v := .bool false) rfl (by kernel_rfl) (by kernel_rfl) (by kernel_rfl) (fun _ _ _ h => h) (Or.inl ⟨by kernel_rfl, ?_⟩) (by assumption) ?_
            · intro w9 hSw; (try dsimp only at hSw); go_simp
            simp only [Act.put, List.getElem_toArray, List.getElem_cons_succ, List.getElem_cons_zero, List.setIfInBounds_toArray, List.set_cons_zero, List.set_cons_succ]
            refine wpAnyH_take (i := 3) (v := .bool false) rfl (by kernel_rfl) (by kernel_rfl) (by kernel_rfl) (fun _ _ _ h => h) (Or.inl ⟨by kernel_rfl, ?_⟩) (by assumption) ?_
            · intro w9 hSw; (try dsimp only at hSw); go_simp
            simp only [Act.put, List.getElem_toArray, List.getElem_cons_succ, List.getElem_cons_zero, List.setIfInBounds_toArray, List.set_cons_zero, List.set_cons_succ]
            refine wpAnyH_take (i := 4) (v := .int .i64 k) rfl (by kernel_rfl) (by kernel_rfl) (by kernel_rfl) (fun _ _ _ h => h) (Or.inl ⟨by kernel_rfl, ?_⟩) (by assumption) ?_
            · intro w9 hSw; (try dsimp only at hSw); go_simp
            simp only [Act.put, List.getElem_toArray, List.getElem_cons_succ, List.getElem_cons_zero, List.setIfInBounds_toArray, List.set_cons_zero, List.set_cons_succ]
            refine wpAnyH_take (i := 5) (v := .bool true) rfl (by kernel_rfl) (by kernel_rfl) (by kernel_rfl) (fun _ _ _ h => h) (Or.inl ⟨by kernel_rfl, ?_⟩) (by assumption) ?_
            · intro w9 hSw; (try dsimp only at hSw); go_simp
            simp only [Act.put, List.getElem_toArray, List.getElem_cons_succ, List.getElem_cons_zero, List.setIfInBounds_toArray, List.set_cons_zero, List.set_cons_succ]
            refine wpAnyH_take (i := 6) (v := .bool true) rfl (by kernel_rfl) (by kernel_rfl) (by kernel_rfl) (fun _ _ _ h => h) (Or.inl ⟨by kernel_rfl, ?_⟩) (by assumption) ?_
            · intro w9 hSw; (try dsimp only at hSw); go_simp
            simp only [Act.put, List.getElem_toArray, List.getElem_cons_succ, List.getElem_cons_zero, List.setIfInBounds_toArray, List.set_cons_zero, List.set_cons_succ]
            refine wpAnyH_take (i := 7) (v := .pointer (some ⟨wr.heap.size, 0, none⟩)) rfl (by kernel_rfl) (by kernel_rfl) (by kernel_rfl) (fun _ _ _ h => h) (Or.inl ⟨by kernel_rfl, ?_⟩) (by assumption) ?_
            · intro w9 hSw; (try dsimp only at hSw); go_simp
            simp only [Act.put, List.getElem_toArray, List.getElem_cons_succ, List.getElem_cons_zero, List.setIfInBounds_toArray, List.set_cons_zero, List.set_cons_succ]
            refine wpAnyH_take (i := 8) (v := .int .i64 y0) rfl (by kernel_rfl) (by kernel_rfl) (by kernel_rfl) (fun _ _ _ h => h) (Or.inl ⟨by kernel_rfl, ?_⟩) (by assumption) ?_
            · intro w9 hSw; (try dsimp only at hSw); go_simp
            simp only [Act.put, List.getElem_toArray, List.getElem_cons_succ, List.getElem_cons_zero, List.setIfInBounds_toArray, List.set_cons_zero, List.set_cons_succ]
            refine wpAnyH_take (i := 9) (v := .int .i64 (y0 - 1)) rfl (by kernel_rfl) (by kernel_rfl) (by kernel_rfl) (fun _ _ _ h => h) (Or.inl ⟨by kernel_rfl, ?_⟩) (by assumption) ?_
            · intro w9 hSw; (try dsimp only at hSw); go_simp
            simp only [Act.put, List.getElem_toArray, List.getElem_cons_succ, List.getElem_cons_zero, List.setIfInBounds_toArray, List.set_cons_zero, List.set_cons_succ]
            refine wpAnyH_take (i := 10) (v := .slice (some ⟨b, off, none⟩) n c) rfl (by kernel_rfl) (by kernel_rfl) (by kernel_rfl) (fun _ _ _ h => h) (Or.inl ⟨by kernel_rfl, ?_⟩) (by assumption) ?_
            · intro w9 hSw; (try dsimp only at hSw); go_simp
            simp only [Act.put, List.getElem_toArray, List.getElem_cons_succ, List.getElem_cons_zero, List.setIfInBounds_toArray, List.set_cons_zero, List.set_cons_succ]
            refine wpAnyH_take (i := 11) (v := .int .i64 k) rfl (by kernel_rfl) (by kernel_rfl) (by kernel_rfl) (fun _ _ _ h => h) (Or.inl ⟨by kernel_rfl, ?_⟩) (by assumption) ?_
            · intro w9 hSw; (try dsimp only at hSw); go_simp
            simp only [Act.put, List.getElem_toArray, List.getElem_cons_succ, List.getElem_cons_zero, List.setIfInBounds_toArray, List.set_cons_zero, List.set_cons_succ]
            refine wpAnyH_take (i := 12) (v := .int .i64 j) rfl (by kernel_rfl) (by kernel_rfl) (by kernel_rfl) (fun _ _ _ h => h) (Or.inl ⟨by kernel_rfl, ?_⟩) (by assumption) ?_
            · intro w9 hSw; (try dsimp only at hSw); go_simp
            simp only [Act.put, List.getElem_toArray, List.getElem_cons_succ, List.getElem_cons_zero, List.setIfInBounds_toArray, List.set_cons_zero, List.set_cons_succ]
            refine wpAnyH_take (i := 13) (v := .pointer (some ⟨b, off + j * 2, none⟩)) rfl (by kernel_rfl) (by kernel_rfl) (by kernel_rfl) (fun _ _ _ h => h) (Or.inl ⟨by kernel_rfl, ?_⟩) (by assumption) ?_
            · intro w9 hSw; (try dsimp only at hSw); go_simp
            simp only [Act.put, List.getElem_toArray, List.getElem_cons_succ, List.getElem_cons_zero, List.setIfInBounds_toArray, List.set_cons_zero, List.set_cons_succ]
            refine wpAnyH_take (i := 14) (v := .pointer (some ⟨b, off + j * 2, none⟩)) rfl (by kernel_rfl) (by kernel_rfl) (by kernel_rfl) (fun _ _ _ h => h) (Or.inl ⟨by kernel_rfl, ?_⟩) (by assumption) ?_
            · intro w9 hSw; (try dsimp only at hSw); go_simp
            simp only [Act.put, List.getElem_toArray, List.getElem_cons_succ, List.getElem_cons_zero, List.setIfInBounds_toArray, List.set_cons_zero, List.set_cons_succ]
            refine wpAnyH_take (i := 15) (v := .int .i64 z0) rfl (by kernel_rfl) (by kernel_rfl) (by kernel_rfl) (fun _ _ _ h => h) (Or.inl ⟨by kernel_rfl, ?_⟩) (by assumption) ?_
            · intro w9 hSw; (try dsimp only at hSw); go_simp
            simp only [Act.put, List.getElem_toArray, List.getElem_cons_succ, List.getElem_cons_zero, List.setIfInBounds_toArray, List.set_cons_zero, List.set_cons_succ]
            refine wpAnyH_take (i := 16) (v := .bool false) rfl (by kernel_rfl) (by kernel_rfl) (by kernel_rfl) (fun _ _ _ h => h) (Or.inl ⟨by kernel_rfl, ?_⟩) (by assumption) ?_
            · intro w9 hSw; (try dsimp only at hSw); go_simp
            simp only [Act.put, List.getElem_toArray, List.getElem_cons_succ, List.getElem_cons_zero, List.setIfInBounds_toArray, List.set_cons_zero, List.set_cons_succ]
            refine wpAnyH_take (i := 17) (v := .bool false) rfl (by kernel_rfl) (by kernel_rfl) (by kernel_rfl) (fun _ _ _ h => h) (Or.inl ⟨by kernel_rfl, ?_⟩) (by assumption) ?_
            · intro w9 hSw; (try dsimp only at hSw); go_simp
            simp only [Act.put, List.getElem_toArray, List.getElem_cons_succ, List.getElem_cons_zero, List.setIfInBounds_toArray, List.set_cons_zero, List.set_cons_succ]
            refine wpAnyH_take (i := 18) (v := .bool false) rfl (by kernel_rfl) (by kernel_rfl) (by kernel_rfl) (fun _ _ _ h => h) (Or.inl ⟨by kernel_rfl, ?_⟩) (by assumption) ?_
            · intro w9 hSw; (try dsimp only at hSw); go_simp
            simp only [Act.put, List.getElem_toArray, List.getElem_cons_succ, List.getElem_cons_zero, List.setIfInBounds_toArray, List.set_cons_zero, List.set_cons_succ]
            refine wpAnyH_done (by kernel_rfl) ?_ _
            have bE := bW0.trans (d1.mono bW0.size)
            go_wp2
            go_roundw
            case rel => exact ⟨k + 1, by omega, by go_num, EE.1, EE.2, bE⟩
            case measure => simp [intOf]; omega
          · have EE : Hid (V = false) := by show _ = _; rw [hst, hB, hpr]; simp [linkB]; omega
            clear hst hB hNx HE HP hpr hj
            have hq : (y0 - 1 == z0) = false := by simp; omega
            go_wp2_with fail
            rw [← HW0.out]
            refine wp_region_held_drew (S := fun w' => w'.cell? ⟨wr.heap.size, 0, none⟩ = some (.int .i64 y0) ∧ w'.cell? ⟨wr.heap.size, 1, none⟩ = some (.string y1) ∧ w'.cell? ⟨b, off + j * 2, none⟩ = some (.int .i64 z0)) (by kernel_rfl) ⟨v0, v1, p0⟩ (fun hHeld => ?_)
            refine wpAnyH_take (i := 0) (v := .agg #[.int .i64 y0, .string y1]) rfl (by kernel_rfl) (by kernel_rfl) (by kernel_rfl) (fun _ _ _ h => h) (Or.inl ⟨by kernel_rfl, ?_⟩) (by assumption) ?_
            · intro w9 hSw; (try dsimp only at hSw); go_simp
            simp only [Act.put, List.getElem_toArray, List.getElem_cons_succ, List.getElem_cons_zero, List.setIfInBounds_toArray, List.set_cons_zero, List.set_cons_succ]
            refine wpAnyH_ready (rs := [1]) (by kernel_rfl) (by simp) ?_
            refine AllReadyH.cons rfl (fun K hK => ?_) AllReadyH.nil
            go_simp
            refine (qE.out _).mono ?_
            rintro e w1 ⟨rfl, hb1⟩
            have d1 : Below W0.heap.size W0 w1 := bD0.trans (hb1.mono bD0.size)
            clear hb1
            go_wp2_with fail
            refine hK.out _ _ (BY.out w1 d1) (fun hHeld1 => ?_)
            clear hK
            refine wpAnyH_take (i := 2) (v := .bool false) rfl (by kernel_rfl) (by kernel_rfl) (by kernel_rfl) (fun _ _ _ h => h) (Or.inl ⟨by kernel_rfl, ?_⟩) (by assumption) ?_
            · intro w9 hSw; (try dsimp only at hSw); go_simp
            simp only [Act.put, List.getElem_toArray, List.getElem_cons_succ, List.getElem_cons_zero, List.setIfInBounds_toArray, List.set_cons_zero, List.set_cons_succ]
            refine wpAnyH_take (i := 3) (v := .bool false) rfl (by kernel_rfl) (by kernel_rfl) (by kernel_rfl) (fun _ _ _ h => h) (Or.inl ⟨by kernel_rfl, ?_⟩) (by assumption) ?_
            · intro w9 hSw; (try dsimp only at hSw); go_simp
            simp only [Act.put, List.getElem_toArray, List.getElem_cons_succ, List.getElem_cons_zero, List.setIfInBounds_toArray, List.set_cons_zero, List.set_cons_succ]
            refine wpAnyH_take (i := 4) (v := .int .i64 k) rfl (by kernel_rfl) (by kernel_rfl) (by kernel_rfl) (fun _ _ _ h => h) (Or.inl ⟨by kernel_rfl, ?_⟩) (by assumption) ?_
            · intro w9 hSw; (try dsimp only at hSw); go_simp
            simp only [Act.put, List.getElem_toArray, List.getElem_cons_succ, List.getElem_cons_zero, List.setIfInBounds_toArray, List.set_cons_zero, List.set_cons_succ]
            refine wpAnyH_take (i := 5) (v := .bool true) rfl (by kernel_rfl) (by kernel_rfl) (by kernel_rfl) (fun _ _ _ h => h) (Or.inl ⟨by kernel_rfl, ?_⟩) (by assumption) ?_
            · intro w9 hSw; (try dsimp only at hSw); go_simp
            simp only [Act.put, List.getElem_toArray, List.getElem_cons_succ, List.getElem_cons_zero, List.setIfInBounds_toArray, List.set_cons_zero, List.set_cons_succ]
            refine wpAnyH_take (i := 6) (v := .bool true) rfl (by kernel_rfl) (by kernel_rfl) (by kernel_rfl) (fun _ _ _ h => h) (Or.inl ⟨by kernel_rfl, ?_⟩) (by assumption) ?_
            · intro w9 hSw; (try dsimp only at hSw); go_simp
            simp only [Act.put, List.getElem_toArray, List.getElem_cons_succ, List.getElem_cons_zero, List.setIfInBounds_toArray, List.set_cons_zero, List.set_cons_succ]
            refine wpAnyH_take (i := 7) (v := .pointer (some ⟨wr.heap.size, 0, none⟩)) rfl (by kernel_rfl) (by kernel_rfl) (by kernel_rfl) (fun _ _ _ h => h) (Or.inl ⟨by kernel_rfl, ?_⟩) (by assumption) ?_
            · intro w9 hSw; (try dsimp only at hSw); go_simp
            simp only [Act.put, List.getElem_toArray, List.getElem_cons_succ, List.getElem_cons_zero, List.setIfInBounds_toArray, List.set_cons_zero, List.set_cons_succ]
            refine wpAnyH_take (i := 8) (v := .int .i64 y0) rfl (by kernel_rfl) (by kernel_rfl) (by kernel_rfl) (fun _ _ _ h => h) (Or.inl ⟨by kernel_rfl, ?_⟩) (by assumption) ?_
            · intro w9 hSw; (try dsimp only at hSw); go_simp
            simp only [Act.put, List.getElem_toArray, List.getElem_cons_succ, List.getElem_cons_zero, List.setIfInBounds_toArray, List.set_cons_zero, List.set_cons_succ]
            refine wpAnyH_take (i := 9) (v := .int .i64 (y0 - 1)) rfl (by kernel_rfl) (by kernel_rfl) (by kernel_rfl) (fun _ _ _ h => h) (Or.inl ⟨by kernel_rfl, ?_⟩) (by assumption) ?_
            · intro w9 hSw; (try dsimp only at hSw); go_simp
            simp only [Act.put, List.getElem_toArray, List.getElem_cons_succ, List.getElem_cons_zero, List.setIfInBounds_toArray, List.set_cons_zero, List.set_cons_succ]
            refine wpAnyH_take (i := 10) (v := .slice (some ⟨b, off, none⟩) n c) rfl (by kernel_rfl) (by kernel_rfl) (by kernel_rfl) (fun _ _ _ h => h) (Or.inl ⟨by kernel_rfl, ?_⟩) (by assumption) ?_
            · intro w9 hSw; (try dsimp only at hSw); go_simp
            simp only [Act.put, List.getElem_toArray, List.getElem_cons_succ, List.getElem_cons_zero, List.setIfInBounds_toArray, List.set_cons_zero, List.set_cons_succ]
            refine wpAnyH_take (i := 11) (v := .int .i64 k) rfl (by kernel_rfl) (by kernel_rfl) (by kernel_rfl) (fun _ _ _ h => h) (Or.inl ⟨by kernel_rfl, ?_⟩) (by assumption) ?_
            · intro w9 hSw; (try dsimp only at hSw); go_simp
            simp only [Act.put, List.getElem_toArray, List.getElem_cons_succ, List.getElem_cons_zero, List.setIfInBounds_toArray, List.set_cons_zero, List.set_cons_succ]
            refine wpAnyH_take (i := 12) (v := .int .i64 j) rfl (by kernel_rfl) (by kernel_rfl) (by kernel_rfl) (fun _ _ _ h => h) (Or.inl ⟨by kernel_rfl, ?_⟩) (by assumption) ?_
            · intro w9 hSw; (try dsimp only at hSw); go_simp
            simp only [Act.put, List.getElem_toArray, List.getElem_cons_succ, List.getElem_cons_zero, List.setIfInBounds_toArray, List.set_cons_zero, List.set_cons_succ]
            refine wpAnyH_take (i := 13) (v := .pointer (some ⟨b, off + j * 2, none⟩)) rfl (by kernel_rfl) (by kernel_rfl) (by kernel_rfl) (fun _ _ _ h => h) (Or.inl ⟨by kernel_rfl, ?_⟩) (by assumption) ?_
            · intro w9 hSw; (try dsimp only at hSw); go_simp
            simp only [Act.put, List.getElem_toArray, List.getElem_cons_succ, List.getElem_cons_zero, List.setIfInBounds_toArray, List.set_cons_zero, List.set_cons_succ]
            refine wpAnyH_take (i := 14) (v := .pointer (some ⟨b, off + j * 2, none⟩)) rfl (by kernel_rfl) (by kernel_rfl) (by kernel_rfl) (fun _ _ _ h => h) (Or.inl ⟨by kernel_rfl, ?_⟩) (by assumption) ?_
            · intro w9 hSw; (try dsimp only at hSw); go_simp
            simp only [Act.put, List.getElem_toArray, List.getElem_cons_succ, List.getElem_cons_zero, List.setIfInBounds_toArray, List.set_cons_zero, List.set_cons_succ]
            refine wpAnyH_take (i := 15) (v := .int .i64 z0) rfl (by kernel_rfl) (by kernel_rfl) (by kernel_rfl) (fun _ _ _ h => h) (Or.inl ⟨by kernel_rfl, ?_⟩) (by assumption) ?_
            · intro w9 hSw; (try dsimp only at hSw); go_simp
            simp only [Act.put, List.getElem_toArray, List.getElem_cons_succ, List.getElem_cons_zero, List.setIfInBounds_toArray, List.set_cons_zero, List.set_cons_succ]
            refine wpAnyH_take (i := 16) (v := .bool true) rfl (by kernel_rfl) (by kernel_rfl) (by kernel_rfl) (fun _ _ _ h => h) (Or.inl ⟨by kernel_rfl, ?_⟩) (by assumption) ?_
            · intro w9 hSw; (try dsimp only at hSw); go_simp
            simp only [Act.put, List.getElem_toArray, List.getElem_cons_succ, List.getElem_cons_zero, List.setIfInBounds_toArray, List.set_cons_zero, List.set_cons_succ]
            refine wpAnyH_take (i := 17) (v := .bool true) rfl (by kernel_rfl) (by kernel_rfl) (by kernel_rfl) (fun _ _ _ h => h) (Or.inl ⟨by kernel_rfl, ?_⟩) (by assumption) ?_
            · intro w9 hSw; (try dsimp only at hSw); go_simp
            simp only [Act.put, List.getElem_toArray, List.getElem_cons_succ, List.getElem_cons_zero, List.setIfInBounds_toArray, List.set_cons_zero, List.set_cons_succ]
            refine wpAnyH_take (i := 18) (v := .bool true) rfl (by kernel_rfl) (by kernel_rfl) (by kernel_rfl) (fun _ _ _ h => h) (Or.inl ⟨by kernel_rfl, ?_⟩) (by assumption) ?_
            · intro w9 hSw; (try dsimp only at hSw); go_simp
            simp only [Act.put, List.getElem_toArray, List.getElem_cons_succ, List.getElem_cons_zero, List.setIfInBounds_toArray, List.set_cons_zero, List.set_cons_succ]
            refine wpAnyH_done (by kernel_rfl) ?_ _
            have bE := bW0.trans (d1.mono bW0.size)
            go_wp2
            go_ret
            exact ⟨by rw [EE.out]; rfl, bE⟩
    · have e : k = n := by omega
      subst e
      have EE : Hid (V = true) := by show _ = _; rw [HE.out]; exact ents_end d k (Nat.le_of_eq HL.out) _
      go_wp2
      go_ret
      exact ⟨by rw [EE.out]; rfl, hbel⟩

end Go.Proofs.YtkfmpfbhhmmllaaGreat

/- LogS: LogBytes of the model. By program (loggen.py). -/
namespace Go.Proofs.YtkfmpfbhhmmllaaGreat
open Go.RowKit
set_option linter.unusedVariables false
set_option maxRecDepth 100000

set_option maxRecDepth 100000 in
set_option maxHeartbeats 2000000 in
theorem specLog_bad (a : Option Addr) (n c : Nat) (d : List EntD) (w : World) (hr : Reads (.sl shEntry) w [.slice a n c] d) (hE : entsB d = false) :
    Calls Tryz.prog 24 #[.slice a n c] w fun e w' => e = .returned (.tuple #[.slice none 0 0, .bool false]) ∧ Below w.heap.size w w' := by
  have qE : Hid (Calls Tryz.prog 22 #[.slice a n c] w fun e w' => e = .returned (.bool false) ∧ Below w.heap.size w w') := by show Calls _ _ _ _ _; rw [← hE]; exact specEnts_any a n c d w hr
  clear hr hE
  go_enter Tryz.func24, Tryz.ntmps24
  go_wp2_with fail
  refine qE.out.mono ?_
  rintro e w1 ⟨rfl, b1⟩
  go_wp2
  go_ret2
  exact ⟨rfl, b1⟩

set_option maxRecDepth 100000 in
set_option maxHeartbeats 4000000 in
theorem specLog_good (a : Option Addr) (n c : Nat) (d : List EntD) (w : World) (hr : Reads (.sl shEntry) w [.slice a n c] d) (hE : entsB d = true) :
    Calls Tryz.prog 24 #[.slice a n c] w fun e w' => Below w.heap.size w w' ∧ (((logL d).length ≤ 65536 ∧ ∃ v, e = .returned (.tuple #[v, .bool true]) ∧ w'.ownsRow w.heap.size 5 1 v (logL d).length ((logL d).map (Value.int .u8))) ∨
      (65536 < (logL d).length ∧ e = .returned (.tuple #[.slice none 0 0, .bool false]))) := by
  obtain ⟨i0, hi, hz0, hz1, hz2⟩ := info_parts Tryz.infoB
  have qE : Hid (Calls Tryz.prog 22 #[.slice a n c] w fun e w' => e = .returned (.bool true) ∧ Below w.heap.size w w') := by show Calls _ _ _ _ _; rw [← hE]; exact specEnts_any a n c d w hr
  obtain ⟨hl, hc1, hc2⟩ := reads_len hr
  unfold maxLen at hc2
  have HR : Hid (Reads (.sl shEntry) w [.slice a n c] d) := hr
  have HL : Hid (List.length (α := EntD) d = n) := hl
  have HEE : Hid (entsB d = true) := hE
  clear hr hl hE
  go_enter Tryz.func24, Tryz.ntmps24
  go_wp2_with fail
  refine qE.out.mono ?_
  rintro e w1 ⟨rfl, b1⟩
  have b1s := b1.size
  have hown00 := World.ownsRow_lit (base := w.heap.size) (e := 5) (size := 1) w1 #[] 0 b1s (Nat.zero_le _) rfl
  have bA : Below w.heap.size w (w1.alloc (.cells #[] 5)) := b1.alloc b1s _
  have HO : Hid ((w1.alloc (.cells #[] 5)).ownsRow w.heap.size 5 1 (.slice (some ⟨w1.heap.size, 0, none⟩) 0 0) 0 []) := hown00
  clear hown00
  go_wp2
  go_loopw [4, 15] (fun v i wr => ∃ k m : Nat, k ≤ n ∧ i = .int .i64 k ∧ wr.ownsRow w.heap.size 5 1 v m ((logTo d k).map (Value.int .u8)) ∧ m ≤ 65536 ∧ Hid ((logTo d k).length = m) ∧ Below w.heap.size w wr) (fun _ i _ => n - (intOf i).toNat)
  case atStart => exact ⟨0, 0, Nat.zero_le _, rfl, by rw [logTo_zero]; exact HO.out, by omega, by show _ = _; rw [logTo_zero]; rfl, bA⟩
  case round =>
    obtain ⟨k, m, hk, rfl, hown, hm, HM, hbel⟩ := hrel
    obtain ⟨va, vc, rfl⟩ := own_slice hown
    by_cases hlt : k < n
    · obtain ⟨b, off, cc, x, rfl, hb, hx, hrx, hcell⟩ := reads_elem HR.out k hlt
      obtain ⟨rfl, ls⟩ := open_Entry hrx
      obtain ⟨y0, ey0⟩ : ∃ y : Int, y = x.1 := ⟨_, rfl⟩
      obtain ⟨y1, ey1⟩ : ∃ y : ByteArray, y = x.2.1 := ⟨_, rfl⟩
      have hB : entB y0 y1.size = true := by rw [ey0, ey1]; exact ents_at d HEE.out k x hx
      have hbd := (entB_iff _ _).1 hB
      have hy1 : y1.size ≤ 1000 := hbd.2.2.2
      have g0 : wr.cell? ⟨b, off + k * 2, none⟩ = some (.int .i64 y0) := by rw [ey0]; exact (hbel.cell (p := ⟨b, off + (k * 2 + 0), none⟩) hb).trans (hcell 0 (by decide))
      have g1 : wr.cell? ⟨b, off + k * 2 + 1, none⟩ = some (.string y1) := by rw [ey1]; exact (hbel.cell (p := ⟨b, off + (k * 2 + 1), none⟩) hb).trans (hcell 1 (by decide))
      have hsu : logTo d (k + 1) = logTo d k ++ frameL y0 (sB y1) := by rw [ey0, ey1]; exact logTo_succ d k x hx
      have hfl : (frameL y0 (sB y1)).length = 10 + y1.size := by rw [frameL_len, sB_len]
      have HS : Hid (logTo d (k + 1) = logTo d k ++ frameL y0 (sB y1) ∧ (logTo d (k + 1)).length = m + (10 + y1.size)) := ⟨hsu, by rw [hsu, List.length_append, HM.out, hfl]⟩
      have qF : Hid (∀ w', Calls Tryz.prog 57 #[.agg #[.int .i64 y0, .string y1]] w' fun e w'' => ∃ v, e = .returned (.tuple #[v, .bool true]) ∧ w''.ownsRow w'.heap.size 5 1 v (10 + y1.size) ((frameL y0 (sB y1)).map (Value.int .u8)) ∧ Below w'.heap.size w' w'') := fun w' => specFrame_yes y0 y1 w' hB
      obtain ⟨T, hT⟩ : ∃ T, T = (frameL y0 (sB y1)).map (Value.int .u8) := ⟨_, rfl⟩
      have hT1 : ∀ u ∈ T, u.oneCell' = true := by rw [hT]; exact ints_oneCell _ _
      have hTl : T.length = 10 + y1.size := by rw [hT, List.length_map, hfl]
      rw [← hT] at qF
      have HT : Hid (T = (frameL y0 (sB y1)).map (Value.int .u8)) := hT
      have hbs := hbel.size
      obtain ⟨W0, hW0⟩ : ∃ W0, W0 = wr.alloc (.cells #[.int .i64 y0, .string y1] 71) := ⟨_, rfl⟩
      have bw0 : Below wr.heap.size wr W0 := by rw [hW0]; exact (Below.refl _ _).alloc (Nat.le_refl _) _
      have bW0 : Below w.heap.size w W0 := hbel.trans (bw0.mono hbs)
      have HW0 : Hid (W0 = wr.alloc (.cells #[.int .i64 y0, .string y1] 71)) := hW0
      clear hcell hrx hx ey0 ey1 hW0 hsu hfl hT hB hbd
      go_wp2_with fail
      rw [← HW0.out]
      refine (qF.out _).mono ?_
      rintro e w2 ⟨v2, rfl, o2, hb2⟩
      obtain ⟨g2, c2, rfl, hg2, hl2⟩ := own_form o2 (by omega)
      have b2 := bW0.trans (hb2.mono bW0.size)
      have bR2 : Below wr.heap.size wr w2 := bw0.trans (hb2.mono bw0.size)
      have ho2 := own_later hown bR2
      have so := src_own o2
      clear g0 g1 hown o2 hg2 hl2 hb2
      by_cases hM : m + (10 + y1.size) ≤ 65536
      · have hM1 : ¬ ((65536 : Int) - ((10 : Int) + (y1.size : Int)) < (m : Int)) := by omega
        have hM2 : ¬ ((65536 : Int) < (m : Int) + ((10 : Int) + (y1.size : Int))) := by omega
        have SO : Hid (Src w2 (.slice (some ⟨g2, 0, none⟩) (10 + y1.size) c2) (10 + y1.size) T) := so
        have HO2 : Hid (w2.ownsRow w.heap.size 5 1 (.slice va m vc) m ((logTo d k).map (Value.int .u8))) := ho2
        clear so ho2
        go_wp2_with (at_builtin; refine wpList_append_src rfl _ _ 55 rfl w.heap.size 5 i0 (.int .u8 0) 1 1 Tryz.underlying55 hi hz0 hz1 hz2 rfl (by decide) (.slice va m vc) m ((logTo d k).map (Value.int .u8)) rfl HO2.out (.slice (some ⟨g2, 0, none⟩) (10 + y1.size) c2) (10 + y1.size) T rfl ?c0 ?c1 ?c2 ?c3 ?c4 ?c5 ?_)
        case c0 => omega
        case c1 => exact SO.out
        case c2 => exact hT1
        case c3 => unfold maxLen; omega
        case c4 => omega
        case c5 => exact b2.size
        intro v3 w3 o3 gr3
        have b3 : Below w.heap.size w w3 := b2.grown gr3 b2.size (fun k h => (HO2.out.lt k h).1)
        have o4 : w3.ownsRow w.heap.size 5 1 v3 (m + (10 + y1.size)) ((logTo d (k + 1)).map (Value.int .u8)) := by
          rw [HS.out.1, List.map_append, ← HT.out]; exact o3
        clear o3 gr3 SO HO2
        go_wp2
        go_roundw
        case rel => exact ⟨k + 1, m + (10 + y1.size), by omega, by go_num, o4, hM, HS.out.2, b3⟩
        case measure => simp [intOf]; omega
      · have hM1 : ((65536 : Int) - ((10 : Int) + (y1.size : Int)) < (m : Int)) := by omega
        have hM2 : ((65536 : Int) < (m : Int) + ((10 : Int) + (y1.size : Int))) := by omega
        have hE2 : 65536 < (logL d).length := by
          have h1 := logTo_le d (k + 1)
          have h2 := HS.out.2
          omega
        have HE2 : Hid (65536 < (logL d).length) := hE2
        clear hE2 so ho2
        go_wp2
        go_ret2
        exact ⟨b2, .inr ⟨HE2.out, rfl⟩⟩
    · have e : k = n := by omega
      subst e
      have ha : logTo d k = logL d := logTo_all d k (Nat.le_of_eq HL.out)
      have HA : Hid ((logL d).length = m ∧ wr.ownsRow w.heap.size 5 1 (.slice va m vc) (logL d).length ((logL d).map (Value.int .u8))) := by
        have h1 : (logL d).length = m := by rw [← ha]; exact HM.out
        refine ⟨h1, ?_⟩
        rw [h1, ← ha]; exact hown
      clear ha hown
      go_wp2
      go_ret2
      exact ⟨hbel, .inl ⟨by rw [HA.out.1]; exact hm, _, rfl, HA.out.2⟩⟩

end Go.Proofs.YtkfmpfbhhmmllaaGreat

/- LogI: LogBytes of the program. By program (loggen.py). -/
namespace Go.Proofs.YtkfmpfbhhmmllaaGreat
open Go.RowKit
set_option linter.unusedVariables false
set_option maxRecDepth 100000

set_option maxRecDepth 100000 in
set_option maxHeartbeats 2000000 in
theorem implLog_bad (a : Option Addr) (n c : Nat) (d : List EntD) (w : World) (hr : Reads (.sl shEntry) w [.slice a n c] d) (hE : entsB d = false) :
    Calls Tryz.prog 68 #[.slice a n c] w fun e w' => e = .returned (.tuple #[.slice none 0 0, .bool false]) ∧ Below w.heap.size w w' := by
  have qE : Hid (Calls Tryz.prog 28 #[.slice a n c] w fun e w' => e = .returned (.bool false) ∧ Below w.heap.size w w') := by show Calls _ _ _ _ _; rw [← hE]; exact implEnts_any a n c d w hr
  clear hr hE
  go_enter Tryz.func68, Tryz.ntmps68
  go_wp2_with fail
  refine qE.out.mono ?_
  rintro e w1 ⟨rfl, b1⟩
  go_wp2
  go_ret2
  exact ⟨rfl, b1⟩

set_option maxRecDepth 100000 in
set_option maxHeartbeats 4000000 in
theorem implLog_good (a : Option Addr) (n c : Nat) (d : List EntD) (w : World) (hr : Reads (.sl shEntry) w [.slice a n c] d) (hE : entsB d = true) :
    Calls Tryz.prog 68 #[.slice a n c] w fun e w' => Below w.heap.size w w' ∧ (((logL d).length ≤ 65536 ∧ ∃ v, e = .returned (.tuple #[v, .bool true]) ∧ w'.ownsRow w.heap.size 5 1 v (logL d).length ((logL d).map (Value.int .u8))) ∨
      (65536 < (logL d).length ∧ e = .returned (.tuple #[.slice none 0 0, .bool false]))) := by
  obtain ⟨i0, hi, hz0, hz1, hz2⟩ := info_parts Tryz.infoB
  have qE : Hid (Calls Tryz.prog 28 #[.slice a n c] w fun e w' => e = .returned (.bool true) ∧ Below w.heap.size w w') := by show Calls _ _ _ _ _; rw [← hE]; exact implEnts_any a n c d w hr
  obtain ⟨hl, hc1, hc2⟩ := reads_len hr
  unfold maxLen at hc2
  have HR : Hid (Reads (.sl shEntry) w [.slice a n c] d) := hr
  have HL : Hid (List.length (α := EntD) d = n) := hl
  have HEE : Hid (entsB d = true) := hE
  clear hr hl hE
  go_enter Tryz.func68, Tryz.ntmps68
  go_wp2_with fail
  refine qE.out.mono ?_
  rintro e w1 ⟨rfl, b1⟩
  have b1s := b1.size
  have hown00 : w1.ownsRow w.heap.size 5 1 (.slice none 0 0) 0 [] := ⟨rfl, .inl ⟨rfl, rfl⟩⟩
  have bA := b1
  have HO : Hid (w1.ownsRow w.heap.size 5 1 (.slice none 0 0) 0 []) := hown00
  clear hown00
  go_wp2
  go_loopw [4, 14] (fun v i wr => ∃ k m : Nat, k ≤ n ∧ i = .int .i64 k ∧ wr.ownsRow w.heap.size 5 1 v m ((logTo d k).map (Value.int .u8)) ∧ m ≤ 65536 ∧ Hid ((logTo d k).length = m) ∧ Below w.heap.size w wr) (fun _ i _ => n - (intOf i).toNat)
  case atStart => exact ⟨0, 0, Nat.zero_le _, rfl, by rw [logTo_zero]; exact HO.out, by omega, by show _ = _; rw [logTo_zero]; rfl, bA⟩
  case round =>
    obtain ⟨k, m, hk, rfl, hown, hm, HM, hbel⟩ := hrel
    obtain ⟨va, vc, rfl⟩ := own_slice hown
    by_cases hlt : k < n
    · obtain ⟨b, off, cc, x, rfl, hb, hx, hrx, hcell⟩ := reads_elem HR.out k hlt
      obtain ⟨rfl, ls⟩ := open_Entry hrx
      obtain ⟨y0, ey0⟩ : ∃ y : Int, y = x.1 := ⟨_, rfl⟩
      obtain ⟨y1, ey1⟩ : ∃ y : ByteArray, y = x.2.1 := ⟨_, rfl⟩
      have hB : entB y0 y1.size = true := by rw [ey0, ey1]; exact ents_at d HEE.out k x hx
      have hbd := (entB_iff _ _).1 hB
      have hy1 : y1.size ≤ 1000 := hbd.2.2.2
      have g0 : wr.cell? ⟨b, off + k * 2, none⟩ = some (.int .i64 y0) := by rw [ey0]; exact (hbel.cell (p := ⟨b, off + (k * 2 + 0), none⟩) hb).trans (hcell 0 (by decide))
      have g1 : wr.cell? ⟨b, off + k * 2 + 1, none⟩ = some (.string y1) := by rw [ey1]; exact (hbel.cell (p := ⟨b, off + (k * 2 + 1), none⟩) hb).trans (hcell 1 (by decide))
      have hsu : logTo d (k + 1) = logTo d k ++ frameL y0 (sB y1) := by rw [ey0, ey1]; exact logTo_succ d k x hx
      have hfl : (frameL y0 (sB y1)).length = 10 + y1.size := by rw [frameL_len, sB_len]
      have HS : Hid (logTo d (k + 1) = logTo d k ++ frameL y0 (sB y1) ∧ (logTo d (k + 1)).length = m + (10 + y1.size)) := ⟨hsu, by rw [hsu, List.length_append, HM.out, hfl]⟩
      have qF : Hid (∀ w', Calls Tryz.prog 103 #[.agg #[.int .i64 y0, .string y1]] w' fun e w'' => ∃ v, e = .returned (.tuple #[v, .bool true]) ∧ w''.ownsRow w'.heap.size 5 1 v (10 + y1.size) ((frameL y0 (sB y1)).map (Value.int .u8)) ∧ Below w'.heap.size w' w'') := fun w' => implFrame_yes y0 y1 w' hB
      obtain ⟨T, hT⟩ : ∃ T, T = (frameL y0 (sB y1)).map (Value.int .u8) := ⟨_, rfl⟩
      have hT1 : ∀ u ∈ T, u.oneCell' = true := by rw [hT]; exact ints_oneCell _ _
      have hTl : T.length = 10 + y1.size := by rw [hT, List.length_map, hfl]
      rw [← hT] at qF
      have HT : Hid (T = (frameL y0 (sB y1)).map (Value.int .u8)) := hT
      have hbs := hbel.size
      obtain ⟨W0, hW0⟩ : ∃ W0, W0 = wr.alloc (.cells #[.int .i64 y0, .string y1] 71) := ⟨_, rfl⟩
      have bw0 : Below wr.heap.size wr W0 := by rw [hW0]; exact (Below.refl _ _).alloc (Nat.le_refl _) _
      have bW0 : Below w.heap.size w W0 := hbel.trans (bw0.mono hbs)
      have HW0 : Hid (W0 = wr.alloc (.cells #[.int .i64 y0, .string y1] 71)) := hW0
      clear hcell hrx hx ey0 ey1 hW0 hsu hfl hT hB hbd
      go_wp2_with fail
      rw [← HW0.out]
      refine (qF.out _).mono ?_
      rintro e w2 ⟨v2, rfl, o2, hb2⟩
      obtain ⟨g2, c2, rfl, hg2, hl2⟩ := own_form o2 (by omega)
      have b2 := bW0.trans (hb2.mono bW0.size)
      have bR2 : Below wr.heap.size wr w2 := bw0.trans (hb2.mono bw0.size)
      have ho2 := own_later hown bR2
      have so := src_own o2
      clear g0 g1 hown o2 hg2 hl2 hb2
      by_cases hM : m + (10 + y1.size) ≤ 65536
      · have hM1 : ¬ ((65536 : Int) - ((10 : Int) + (y1.size : Int)) < (m : Int)) := by omega
        have hM2 : ¬ ((65536 : Int) < (m : Int) + ((10 : Int) + (y1.size : Int))) := by omega
        have SO : Hid (Src w2 (.slice (some ⟨g2, 0, none⟩) (10 + y1.size) c2) (10 + y1.size) T) := so
        have HO2 : Hid (w2.ownsRow w.heap.size 5 1 (.slice va m vc) m ((logTo d k).map (Value.int .u8))) := ho2
        clear so ho2
        go_wp2_with (at_builtin; refine wpList_append_src rfl _ _ 55 rfl w.heap.size 5 i0 (.int .u8 0) 1 1 Tryz.underlying55 hi hz0 hz1 hz2 rfl (by decide) (.slice va m vc) m ((logTo d k).map (Value.int .u8)) rfl HO2.out (.slice (some ⟨g2, 0, none⟩) (10 + y1.size) c2) (10 + y1.size) T rfl ?c0 ?c1 ?c2 ?c3 ?c4 ?c5 ?_)
        case c0 => omega
        case c1 => exact SO.out
        case c2 => exact hT1
        case c3 => unfold maxLen; omega
        case c4 => omega
        case c5 => exact b2.size
        intro v3 w3 o3 gr3
        have b3 : Below w.heap.size w w3 := b2.grown gr3 b2.size (fun k h => (HO2.out.lt k h).1)
        have o4 : w3.ownsRow w.heap.size 5 1 v3 (m + (10 + y1.size)) ((logTo d (k + 1)).map (Value.int .u8)) := by
          rw [HS.out.1, List.map_append, ← HT.out]; exact o3
        clear o3 gr3 SO HO2
        go_wp2
        go_roundw
        case rel => exact ⟨k + 1, m + (10 + y1.size), by omega, by go_num, o4, hM, HS.out.2, b3⟩
        case measure => simp [intOf]; omega
      · have hM1 : ((65536 : Int) - ((10 : Int) + (y1.size : Int)) < (m : Int)) := by omega
        have hM2 : ((65536 : Int) < (m : Int) + ((10 : Int) + (y1.size : Int))) := by omega
        have hE2 : 65536 < (logL d).length := by
          have h1 := logTo_le d (k + 1)
          have h2 := HS.out.2
          omega
        have HE2 : Hid (65536 < (logL d).length) := hE2
        clear hE2 so ho2
        go_wp2
        go_ret2
        exact ⟨b2, .inr ⟨HE2.out, rfl⟩⟩
    · have e : k = n := by omega
      subst e
      have ha : logTo d k = logL d := logTo_all d k (Nat.le_of_eq HL.out)
      have HA : Hid ((logL d).length = m ∧ wr.ownsRow w.heap.size 5 1 (.slice va m vc) (logL d).length ((logL d).map (Value.int .u8))) := by
        have h1 : (logL d).length = m := by rw [← ha]; exact HM.out
        refine ⟨h1, ?_⟩
        rw [h1, ← ha]; exact hown
      clear ha hown
      go_wp2
      go_ret2
      exact ⟨hbel, .inl ⟨by rw [HA.out.1]; exact hm, _, rfl, HA.out.2⟩⟩

end Go.Proofs.YtkfmpfbhhmmllaaGreat
