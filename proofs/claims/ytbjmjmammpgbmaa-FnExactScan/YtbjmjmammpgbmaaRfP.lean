/-
  Reading a record: what it answers (plain facts).
-/
import Derived.Test.YtbjmjmammpgbmaaFrP
import Derived.Test.YtbjmjmammpgbmaaGet
import Derived.Laws.BytesArg
namespace Go.Proofs.Ytbjmjmammpgbmaa
open Go.RowKit
set_option linter.unusedVariables false

/-- The bytes from p on, n of them. -/
def cutL (zs : List Int) (p n : Nat) : List Int := (zs.drop p).take n

theorem cutL_len (zs : List Int) (p n : Nat) (h : p + n ≤ zs.length) : (cutL zs p n).length = n := by
  unfold cutL; rw [List.length_take, List.length_drop]; omega

theorem byt_cutL (zs : List Int) (h : Byt zs) (p n : Nat) : Byt (cutL zs p n) := by
  rw [byt_iff] at *
  intro x hx
  exact h x (List.mem_of_mem_drop (List.mem_of_mem_take hx))

theorem cutL_at (zs : List Int) (p n i : Nat) (h : i < n) : (cutL zs p n)[i]? = zs[p + i]? := by
  unfold cutL; rw [List.getElem?_take_of_lt h, List.getElem?_drop]

theorem cutL_split (zs : List Int) (p m n : Nat) : cutL zs p (m + n) = cutL zs p m ++ cutL zs (p + m) n := by
  unfold cutL
  rw [List.take_add, List.drop_drop]

theorem get_some (zs : List Int) (i : Nat) (h : i < zs.length) : zs[i]? = some (zs[i]?.getD 0) := by
  rw [List.getElem?_eq_getElem h]; rfl

theorem pdig2 (X : Int) : pdig X 2 2 = [X / 256 % 256, X / 1 % 256] := by
  have : List.range 2 = [0, 1] := by decide
  simp [pdig, this, pw]

theorem pdig4 (X : Int) : pdig X 4 4 = [X / 16777216 % 256, X / 65536 % 256, X / 256 % 256, X / 1 % 256] := by
  have : List.range 4 = [0, 1, 2, 3] := by decide
  simp [pdig, this, pw]

theorem dig_get2 (zs : List Int) (h : Byt zs) (p : Nat) (hp : p + 2 ≤ zs.length) : pdig (gnum zs p 2) 2 2 = cutL zs p 2 := by
  have h0 := h p; have h1 := h (p + 1)
  refine List.ext_getElem? fun i => ?_
  by_cases hi : i < 2
  · rw [cutL_at _ _ _ _ hi, get_some zs _ (by omega), pdig2]
    match i, hi with
    | 0, _ => simp [gnum]; omega
    | 1, _ => simp [gnum]; omega
  · rw [List.getElem?_eq_none (by rw [pdig_len]; omega), List.getElem?_eq_none (by rw [cutL_len _ _ _ hp]; omega)]

theorem dig_get4 (zs : List Int) (h : Byt zs) (p : Nat) (hp : p + 4 ≤ zs.length) : pdig (gnum zs p 4) 4 4 = cutL zs p 4 := by
  have h0 := h p; have h1 := h (p + 1); have h2 := h (p + 2); have h3 := h (p + 3)
  refine List.ext_getElem? fun i => ?_
  by_cases hi : i < 4
  · rw [cutL_at _ _ _ _ hi, get_some zs _ (by omega), pdig4]
    match i, hi with
    | 0, _ => simp [gnum]; omega
    | 1, _ => simp [gnum]; omega
    | 2, _ => simp [gnum]; omega
    | 3, _ => simp [gnum]; omega
  · rw [List.getElem?_eq_none (by rw [pdig_len]; omega), List.getElem?_eq_none (by rw [cutL_len _ _ _ hp]; omega)]

theorem pdig4_inj (X Y : Int) (hx : 0 ≤ X ∧ X < 4294967296) (hy : 0 ≤ Y ∧ Y < 4294967296) (h : pdig X 4 4 = pdig Y 4 4) : X = Y := by
  rw [pdig4, pdig4] at h
  simp only [List.cons.injEq, and_true] at h
  omega

theorem gnum4_bd (zs : List Int) (h : Byt zs) (p : Nat) : 0 ≤ gnum zs p 4 ∧ gnum zs p 4 < 4294967296 := by
  have := gnum_bd zs h p 4 (by omega)
  omega

theorem gnum2_bd (zs : List Int) (h : Byt zs) (p : Nat) : 0 ≤ gnum zs p 2 ∧ gnum zs p 2 < 65536 := by
  have := gnum_bd zs h p 2 (by omega)
  omega

/-- A record stands at p just where its sum is right. -/
theorem frame_at (zs : List Int) (h : Byt zs) (p s : Nat) (hp : p + 10 + s ≤ zs.length) (hs : gnum zs p 2 = (s : Int)) :
    frameL (gnum zs (p + 2) 4) (cutL zs (p + 10) s) = cutL zs p (10 + s) ↔ gnum zs (p + 6) 4 = crcI (cutL zs p 6 ++ cutL zs (p + 10) s) := by
  have hl : (cutL zs (p + 10) s).length = s := cutL_len _ _ _ (by omega)
  have hh : headL (gnum zs (p + 2) 4) s = cutL zs p 6 := by
    unfold headL
    rw [← hs, dig_get2 zs h p (by omega), dig_get4 zs h (p + 2) (by omega)]
    exact (cutL_split zs p 2 4).symm
  have hY : cutL zs p (10 + s) = cutL zs p 6 ++ cutL zs (p + 6) 4 ++ cutL zs (p + 10) s := by
    rw [cutL_split zs p 10 s, cutL_split zs p 6 4]
  unfold frameL
  rw [hl, hh, hY, List.append_left_inj, List.append_right_inj, ← dig_get4 zs h (p + 6) (by omega)]
  have hb := crcI_bd (cutL zs p 6 ++ cutL zs (p + 10) s) (byt_append (byt_cutL zs h _ _) (byt_cutL zs h _ _))
  constructor
  · intro e; exact (pdig4_inj _ _ hb (gnum4_bd zs h _) e).symm
  · intro e; rw [← e]

/-- What reading answers: number, text, next place, code. -/
def frAns (zs : List Int) (p : Int) : Int × ByteArray × Int × Int :=
  if p < 0 ∨ (zs.length : Int) < p then (0, ByteArray.empty, 0, 1)
  else if (zs.length : Int) - p < 10 then (0, ByteArray.empty, 0, 2)
  else if gnum zs p.toNat 2 = 0 ∨ 1000 < gnum zs p.toNat 2 then (0, ByteArray.empty, 0, 3)
  else if (zs.length : Int) - p - 10 < gnum zs p.toNat 2 then (0, ByteArray.empty, 0, 4)
  else if gnum zs (p.toNat + 2) 4 = 0 ∨ 1000000000 < gnum zs (p.toNat + 2) 4 then (0, ByteArray.empty, 0, 5)
  else if gnum zs (p.toNat + 6) 4 = crcI (cutL zs p.toNat 6 ++ cutL zs (p.toNat + 10) (gnum zs p.toNat 2).toNat) then
    (gnum zs (p.toNat + 2) 4, strOfNums (cutL zs (p.toNat + 10) (gnum zs p.toNat 2).toNat), p + 10 + gnum zs p.toNat 2, 0)
  else (0, ByteArray.empty, 0, 6)

theorem strNums_inj : ∀ (xs ys : List Int), Byt xs → Byt ys → strOfNums xs = strOfNums ys → xs = ys := by
  intro xs ys hx hy h
  rw [byt_iff] at hx hy
  have h1 : (strOfNums xs).data.toList = (strOfNums ys).data.toList := by rw [h]
  rw [strOfNums_data, strOfNums_data] at h1
  have hinj : ∀ a b : Int, 0 ≤ a ∧ a ≤ 255 → 0 ≤ b ∧ b ≤ 255 → UInt8.ofNat a.toNat = UInt8.ofNat b.toNat → a = b := by
    intro a b ha hb e
    have e1 := congrArg UInt8.toNat e
    simp only [UInt8.toNat_ofNat'] at e1
    omega
  clear h
  induction xs generalizing ys with
  | nil => cases ys with
    | nil => rfl
    | cons b ys => simp at h1
  | cons a xs ih => cases ys with
    | nil => simp at h1
    | cons b ys =>
      simp only [List.map_cons, List.cons.injEq] at h1
      rw [hinj a b (hx a List.mem_cons_self) (hy b List.mem_cons_self) h1.1, ih ys (fun x hm => hx x (List.mem_cons_of_mem _ hm)) (fun x hm => hy x (List.mem_cons_of_mem _ hm)) h1.2]

theorem sB_nums (xs : List Int) (h : Byt xs) : sB (strOfNums xs) = xs := by
  rw [byt_iff] at h
  unfold sB
  rw [strOfNums_data, List.map_map]
  conv => rhs; rw [← List.map_id xs]
  refine List.map_congr_left fun x hx => ?_
  have := h x hx
  simp only [Function.comp, UInt8.toNat_ofNat', id]
  omega

end Go.Proofs.Ytbjmjmammpgbmaa
