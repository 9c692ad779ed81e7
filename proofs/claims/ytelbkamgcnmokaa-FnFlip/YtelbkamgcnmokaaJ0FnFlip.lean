/-
  Joined: Bytes, Marks, Open, Put, Plain, Crc, FrP, Get, RfP, Keep, Shp, OwnD, TyBase, OwnM, Mtx, Mk, MkB, VB, FlatG.
-/
import Derived.Test.YtelbkamgcnmokaaRows
import Derived.WalkKit
import Derived.WalkSpells
import Derived.WalkLawsBesides
import Derived.Deep.QuietTactic
import Derived.BigQuiet
import Derived.Maps.AppendAt
import Derived.Laws.BitsAllLaws
import Derived.Lib.AppendStr
import Derived.Laws.BytesArg
import Derived.ChangeArms
import Derived.Deep.Slices
import Derived.Deep.AppendLies
/- Bytes: What the helpers of the exact laws do to slices of bytes: toByteS copies, eqByteS compares. For slices of at most 1048576 bytes. -/
namespace Go.Proofs.Ytelbkamgcnmokaa
open Go.RowKit
set_option linter.unusedVariables false

theorem Try.infoB : (Try.prog.info? 5).map (fun i => (i.zero, i.size, i.bytes)) = some (some (.int .u8 0), 1, 1) := by kernel_rfl

/-- The address a leads to the bytes zs in w. -/
def Rd (w : World) (a : Option Addr) (zs : List Int) : Prop :=
  (∀ i : Nat, 0 ≤ zs[i]?.getD 0 ∧ zs[i]?.getD 0 ≤ 255) ∧ (zs = [] ∨ ∃ b off, a = some ⟨b, off, none⟩ ∧ b < w.heap.size ∧ ∀ i, i < zs.length → w.cell? ⟨b, off + i, none⟩ = some (.int .u8 (zs[i]?.getD 0)))

theorem Rd.later {w w' : World} {a : Option Addr} {zs : List Int} (h : Rd w a zs) (hb : Below w.heap.size w w') : Rd w' a zs := by
  obtain ⟨h1, h2⟩ := h
  refine ⟨h1, ?_⟩
  rcases h2 with h2 | ⟨b, off, ha, hlt, hc⟩
  · exact .inl h2
  · exact .inr ⟨b, off, ha, Nat.lt_of_lt_of_le hlt hb.size, fun i hi => (hb.cell (p := ⟨b, off + i, none⟩) hlt).trans (hc i hi)⟩

/-- What toByteS has laid behind k rounds. -/
def half (zs : List Int) (n k : Nat) : List Int := (List.range n).map fun i => if i < k then zs[i]?.getD 0 else 0

theorem half_zero (zs : List Int) (n : Nat) : (madeCells #[Value.int .u8 0] n).toList = (half zs n 0).map (Value.int .u8) := by
  rw [toList_madeCells_one]
  apply List.ext_getElem
  · simp [half]
  · intro i h1 h2
    simp [half]

theorem half_full (zs : List Int) (n : Nat) (h : zs.length = n) : half zs n n = zs := by
  apply List.ext_getElem
  · simp [half, h]
  · intro i h1 h2
    simp [half] at h1
    simp [half, h1, h2]

theorem half_set (zs : List Int) (n k : Nat) (hk : k < n) : ((half zs n k).map (Value.int .u8)).set k (.int .u8 (zs[k]?.getD 0)) = (half zs n (k + 1)).map (Value.int .u8) := by
  apply List.ext_getElem
  · simp [half]
  · intro i h1 h2
    simp [half] at h1 h2
    rw [List.getElem_set]
    by_cases e : k = i
    · subst e; simp [half]
    · by_cases h : i < k
      · simp [half, e, h, Nat.lt_succ_of_lt h]
      · have : ¬ i < k + 1 := by omega
        simp [half, e, h, this]

end Go.Proofs.Ytelbkamgcnmokaa

/- Marks: What the helpers of the exact laws do to slices of bytes, more: eqByteS over two readings of one list says true; markByteS writes 1, 2, 3 .. (as bytes) into a row of the call's own; heldByteS finds them again. -/
namespace Go.Proofs.Ytelbkamgcnmokaa
open Go.RowKit
set_option linter.unusedVariables false

theorem grownBy_trans {a b c : World} {row : Option Nat} (h : a.grownBy b row) (k : b.grownBy c row) : a.grownBy c row :=
  ⟨k.os.trans h.os, k.tape.trans h.tape, k.output.trans h.output, Nat.le_trans h.size k.size, fun i hi hr => (k.block i (Nat.lt_of_lt_of_le hi h.size) hr).trans (h.block i hi hr)⟩

/-- The marks 1 .. k laid over xs. -/
def marked (xs : List Int) (k : Nat) : List Int := (List.range xs.length).map fun i => if i < k then ((i : Int) + 1) % 256 else xs[i]?.getD 0

theorem marked_zero (xs : List Int) : marked xs 0 = xs := by
  apply List.ext_getElem
  · simp [marked]
  · intro i h1 h2
    simp [marked, h2]

theorem marked_set (xs : List Int) (k : Nat) : ((marked xs k).map (Value.int .u8)).set k (.int .u8 (((k : Int) + 1) % 256)) = (marked xs (k + 1)).map (Value.int .u8) := by
  apply List.ext_getElem
  · simp [marked]
  · intro i h1 h2
    simp [marked] at h1 h2
    rw [List.getElem_set]
    by_cases e : k = i
    · subst e; simp [marked]
    · by_cases h : i < k
      · simp [marked, e, h, Nat.lt_succ_of_lt h]
      · have : ¬ i < k + 1 := by omega
        simp [marked, e, h, this]

end Go.Proofs.Ytelbkamgcnmokaa

/- Open: From the reading of a slice of bytes that came in to 'Rd', and small facts on worlds and owned rows. -/
namespace Go.Proofs.Ytelbkamgcnmokaa
open Go.RowKit
set_option linter.unusedVariables false

theorem rd_of {w : World} {a : Option Addr} {len cap : Nat} {zs : List Int}
    (h : (a = none ∧ len = 0 ∧ cap = 0 ∧ zs = []) ∨
      ∃ x, a = some x ∧ len ≤ cap ∧ cap ≤ maxLen ∧ zs.length = cap ∧ (∀ i, i < zs.length → w.cell? (x.add i) = some (.int .u8 (zs.getD i 0))) ∧ ∀ n ∈ zs, (Lit.int .u8 n).wf = true) :
    Rd w a (zs.take len) ∧ (zs.take len).length = len ∧ len ≤ maxLen := by
  rcases h with ⟨rfl, rfl, rfl, rfl⟩ | ⟨x, rfl, hl, hm, hz, hc, hw⟩
  · exact ⟨⟨fun i => by simp, .inl rfl⟩, rfl, Nat.zero_le _⟩
  · refine ⟨⟨fun i => ?_, ?_⟩, by rw [List.length_take]; omega, by omega⟩
    · by_cases h : i < len
      · have hi : i < zs.length := by omega
        have := hw zs[i] (List.getElem_mem hi)
        simp [Lit.wf, IntKind.min, IntKind.max, IntKind.signed, IntKind.bits] at this
        simp [h, hi]
        exact this
      · simp [List.getElem?_take, h]
    · by_cases h0 : len = 0
      · left; subst h0; rfl
      · right
        obtain ⟨b, off, spot⟩ := x
        have h1 := hc 0 (by omega)
        have hspot : spot = none := by simpa [Addr.add] using World.cell?_spot h1
        subst hspot
        refine ⟨b, off, rfl, ?_, ?_⟩
        · exact World.block_lt_of_cell? w _ h1
        · intro i hi
          rw [List.length_take] at hi
          have h2 := hc i (by omega)
          have h3 : i < len := by omega
          have h4 : i < zs.length := by omega
          have e : (⟨b, off, none⟩ : Addr).add i = ⟨b, off + i, none⟩ := by cases i <;> simp [Addr.add]
          rw [e] at h2
          simpa [h3, h4] using h2

theorem wf64 {n : Int} (h : (Lit.int .i64 n).wf = true) : -9223372036854775808 ≤ n ∧ n ≤ 9223372036854775807 := by
  simpa [Lit.wf, IntKind.min, IntKind.max, IntKind.signed, IntKind.bits] using h

/-- A row that the call owns can be read. -/
theorem rd_own {w : World} {base g n cap : Nat} {zs : List Int} (hl : zs.length = n) (hz : ∀ i : Nat, 0 ≤ zs[i]?.getD 0 ∧ zs[i]?.getD 0 ≤ 255)
    (h : w.ownsRow base 5 1 (.slice (some ⟨g, 0, none⟩) n cap) n (zs.map (Value.int .u8))) : Rd w (some ⟨g, 0, none⟩) zs := by
  refine ⟨hz, .inr ⟨g, 0, rfl, (h.lt g rfl).2, fun i hi => ?_⟩⟩
  rw [Nat.zero_add, h.cellAt i (by omega)]
  simp [hi]

theorem rd_kept {w w' : World} {a : Option Addr} {zs : List Int} {row : Option Nat} (h : Rd w a zs) (hg : w.grownBy w' row) (hne : ∀ x, a = some x → some x.block ≠ row) : Rd w' a zs := by
  obtain ⟨h1, h2⟩ := h
  refine ⟨h1, ?_⟩
  rcases h2 with h2 | ⟨b, off, rfl, hlt, hc⟩
  · exact .inl h2
  · exact .inr ⟨b, off, rfl, Nat.lt_of_lt_of_le hlt hg.size, fun i hi => hg.cell (hc i hi) (hne ⟨b, off, none⟩ rfl)⟩

theorem rd_drewN {w : World} {a : Option Addr} {zs : List Int} (h : Rd w a zs) (q : Nat) : Rd (w.drewN q) a zs := h

end Go.Proofs.Ytelbkamgcnmokaa

/- Put: PutNum, the model's: what it hands back. For a slice of at most 2097152 bytes whose address is known, and any two integers. -/
namespace Go.Proofs.Ytelbkamgcnmokaa
open Go.RowKit
set_option linter.unusedVariables false

def pw : Nat → Int
  | 0 => 1
  | k + 1 => pw k * 256

theorem pw_pos : ∀ k, 1 ≤ pw k
  | 0 => by simp [pw]
  | k + 1 => by have := pw_pos k; simp [pw]; omega

theorem pw_le (k : Nat) (h : k ≤ 3) : pw k ≤ 16777216 := by
  match k, h with
  | 0, _ => simp [pw]
  | 1, _ => simp [pw]
  | 2, _ => simp [pw]
  | 3, _ => simp [pw]

def pdig (N : Int) (S k : Nat) : List Int := (List.range k).map fun i => N / pw (S - 1 - i) % 256

theorem pdig_succ (N : Int) (S k : Nat) : pdig N S (k + 1) = pdig N S k ++ [N / pw (S - 1 - k) % 256] := by
  simp [pdig, List.range_succ]

theorem pdig_len (N : Int) (S k : Nat) : (pdig N S k).length = k := by simp [pdig]

theorem put_bytes (zs : List Int) (hz : ∀ i : Nat, 0 ≤ zs[i]?.getD 0 ∧ zs[i]?.getD 0 ≤ 255) (N : Int) (S k : Nat) : ∀ i : Nat, 0 ≤ (zs ++ pdig N S k)[i]?.getD 0 ∧ (zs ++ pdig N S k)[i]?.getD 0 ≤ 255 := by
  intro i
  rw [List.getElem?_append]
  split
  · exact hz i
  · simp only [pdig, List.getElem?_map]
    cases (List.range k)[i - zs.length]? with
    | none => simp
    | some j => simp; omega

/-- The tests of PutNum. -/
def pok (n : Nat) (N s : Int) : Prop := 1 ≤ s ∧ s ≤ 4 ∧ 0 ≤ N ∧ N < pw s.toNat ∧ (n : Int) ≤ 65536 - s

end Go.Proofs.Ytelbkamgcnmokaa

/- Plain: Plain facts on bits of Go's int where both numbers are small and not negative. -/
namespace Go.Proofs.Ytelbkamgcnmokaa

theorem wrap_i64_in (n : Int) (h1 : 0 ≤ n) (h2 : n < 9223372036854775808) : IntKind.i64.wrap n = n := by
  simp [IntKind.wrap, IntKind.bits, IntKind.signed]; omega

theorem ofInt_i64 (a : Nat) (ha : a < 9223372036854775808) : (BitVec.ofInt 64 (a : Int)).toNat = a := by
  rw [BitVec.ofInt_natCast, BitVec.toNat_ofNat]; exact Nat.mod_eq_of_lt (by omega)

theorem i64_or_nat (a b : Nat) (ha : a < 9223372036854775808) (hb : b < 9223372036854775808) : bits .or .i64 (a : Int) (b : Int) = ((a ||| b : Nat) : Int) := by
  have hx : a ||| b < 2 ^ 63 := Nat.or_lt_two_pow (by omega) (by omega)
  show IntKind.i64.wrap ((BitVec.ofInt 64 (a : Int) ||| BitVec.ofInt 64 (b : Int)).toNat : Int) = _
  rw [BitVec.toNat_or, ofInt_i64 a ha, ofInt_i64 b hb, wrap_i64_in _ (by omega) (by omega)]

theorem i64_xor_nat (a b : Nat) (ha : a < 9223372036854775808) (hb : b < 9223372036854775808) : bits .xor .i64 (a : Int) (b : Int) = ((a ^^^ b : Nat) : Int) := by
  have hx : a ^^^ b < 2 ^ 63 := Nat.xor_lt_two_pow (by omega) (by omega)
  show IntKind.i64.wrap ((BitVec.ofInt 64 (a : Int) ^^^ BitVec.ofInt 64 (b : Int)).toNat : Int) = _
  rw [BitVec.toNat_xor, ofInt_i64 a ha, ofInt_i64 b hb, wrap_i64_in _ (by omega) (by omega)]

/-- A number of whole bytes and one byte more: 'or' is plus. -/
theorem i64_or_byte (x y : Int) (h1 : 0 ≤ x) (h2 : x ≤ 16777215) (h3 : 0 ≤ y) (h4 : y ≤ 255) : bits .or .i64 (x * 256) y = x * 256 + y := by
  obtain ⟨A, rfl⟩ := Int.eq_ofNat_of_zero_le h1
  obtain ⟨B, rfl⟩ := Int.eq_ofNat_of_zero_le h3
  have e : ((A : Int) * 256) = ((A * 256 : Nat) : Int) := by omega
  rw [e, i64_or_nat _ _ (by omega) (by omega), nat_join 8 (A * 256) B (by omega) (by omega)]
  omega

end Go.Proofs.Ytelbkamgcnmokaa

/- Crc: Crc32, the model's: the sum of a slice of bytes, bit by bit. -/
namespace Go.Proofs.Ytelbkamgcnmokaa
open Go.RowKit
set_option linter.unusedVariables false

def cstep (r : Nat) : Nat := if r % 2 = 1 then r / 2 ^^^ 3988292384 else r / 2
def cits : Nat → Nat → Nat
  | 0, r => r
  | j + 1, r => cstep (cits j r)
def csum (zs : List Int) : Nat → Nat
  | 0 => 4294967295
  | k + 1 => cits 8 (csum zs k ^^^ (zs[k]?.getD 0).toNat)

theorem cstep_lt (r : Nat) (h : r < 4294967296) : cstep r < 4294967296 := by
  unfold cstep
  split
  · have : r / 2 ^^^ 3988292384 < 2 ^ 32 := Nat.xor_lt_two_pow (by omega) (by omega)
    omega
  · omega
theorem cits_lt : ∀ (j r : Nat), r < 4294967296 → cits j r < 4294967296
  | 0, r, h => h
  | j + 1, r, h => cstep_lt _ (cits_lt j r h)
theorem cxor_lt (r c : Nat) (h : r < 4294967296) (hc : c < 256) : r ^^^ c < 4294967296 := by
  have : r ^^^ c < 2 ^ 32 := Nat.xor_lt_two_pow (by omega) (by omega)
  omega
theorem csum_lt (zs : List Int) (hz : ∀ i : Nat, 0 ≤ zs[i]?.getD 0 ∧ zs[i]?.getD 0 ≤ 255) : ∀ k, csum zs k < 4294967296
  | 0 => by simp [csum]
  | k + 1 => cits_lt 8 _ (cxor_lt _ _ (csum_lt zs hz k) (by have := hz k; omega))

theorem cstep_odd (r : Nat) (h : r % 2 = 1) : cstep r = r / 2 ^^^ 3988292384 := by simp [cstep, h]
theorem cstep_even (r : Nat) (h : ¬ r % 2 = 1) : cstep r = r / 2 := by simp [cstep, h]

theorem xor_half (r : Nat) (h : r < 4294967296) : bits .xor .i64 ((r : Int) / 2) 3988292384 = ((r / 2 ^^^ 3988292384 : Nat) : Int) := by
  have e : ((r : Int) / 2) = ((r / 2 : Nat) : Int) := by omega
  rw [e]
  exact i64_xor_nat (r / 2) 3988292384 (by omega) (by omega)

end Go.Proofs.Ytelbkamgcnmokaa

/- FrP: A record: its bytes (plain facts). -/
namespace Go.Proofs.Ytelbkamgcnmokaa
open Go.RowKit
set_option linter.unusedVariables false

/-- The bytes of a text. -/
def sB (s : ByteArray) : List Int := s.data.toList.map fun b => (b.toNat : Int)

theorem sB_cells (s : ByteArray) : Lib.strCells s = (sB s).map (Value.int .u8) := by simp [Lib.strCells, sB]
theorem sB_len (s : ByteArray) : (sB s).length = s.size := by rw [sB, List.length_map, Array.length_toList]; rfl

def Byt (l : List Int) : Prop := ∀ i : Nat, 0 ≤ l[i]?.getD 0 ∧ l[i]?.getD 0 ≤ 255

theorem byt_iff (l : List Int) : Byt l ↔ ∀ x ∈ l, 0 ≤ x ∧ x ≤ 255 := by
  constructor
  · intro h x hx
    obtain ⟨i, hi, rfl⟩ := List.getElem_of_mem hx
    have := h i
    rw [List.getElem?_eq_getElem hi] at this
    exact this
  · intro h i
    by_cases hi : i < l.length
    · rw [List.getElem?_eq_getElem hi]; exact h _ (List.getElem_mem hi)
    · rw [List.getElem?_eq_none (by omega)]; simp

theorem byt_append {a b : List Int} (ha : Byt a) (hb : Byt b) : Byt (a ++ b) := by
  rw [byt_iff] at *
  intro x hx
  rcases List.mem_append.1 hx with h | h
  · exact ha x h
  · exact hb x h

theorem byt_sB (s : ByteArray) : Byt (sB s) := by
  rw [byt_iff]
  intro x hx
  simp only [sB, List.mem_map] at hx
  obtain ⟨b, _, rfl⟩ := hx
  have := b.toNat_lt
  omega

theorem byt_pdig (N : Int) (S k : Nat) : Byt (pdig N S k) := by
  rw [byt_iff]
  intro x hx
  simp only [pdig, List.mem_map] at hx
  obtain ⟨i, _, rfl⟩ := hx
  have h1 := Int.emod_nonneg (N / pw (S - 1 - i)) (b := 256) (by omega)
  have h2 := Int.emod_lt_of_pos (N / pw (S - 1 - i)) (b := 256) (by omega)
  omega

/-- The sum of bytes. -/
def crcI (zs : List Int) : Int := ((csum zs zs.length ^^^ 4294967295 : Nat) : Int)

theorem crcI_bd (zs : List Int) (h : Byt zs) : 0 ≤ crcI zs ∧ crcI zs < 4294967296 := by
  have h1 := csum_lt zs h zs.length
  have h2 : csum zs zs.length ^^^ 4294967295 < 2 ^ 32 := Nat.xor_lt_two_pow (by omega) (by omega)
  unfold crcI
  omega

def headL (x : Int) (n : Nat) : List Int := pdig n 2 2 ++ pdig x 4 4

def frameL (x : Int) (t : List Int) : List Int := headL x t.length ++ pdig (crcI (headL x t.length ++ t)) 4 4 ++ t

theorem headL_len (x : Int) (n : Nat) : (headL x n).length = 6 := by simp [headL, pdig_len]
theorem byt_headL (x : Int) (n : Nat) : Byt (headL x n) := byt_append (byt_pdig _ _ _) (byt_pdig _ _ _)
theorem frameL_len (x : Int) (t : List Int) : (frameL x t).length = 10 + t.length := by simp [frameL, headL_len, pdig_len]; omega
theorem byt_frameL (x : Int) (t : List Int) (h : Byt t) : Byt (frameL x t) := byt_append (byt_append (byt_headL _ _) (byt_pdig _ _ _)) h

end Go.Proofs.Ytelbkamgcnmokaa

/- Get: GetNum, the model's and the program's: both read the same number, or say no at the same arguments. For slices of at most 1048576 + 1048576 bytes and any two integers. -/
namespace Go.Proofs.Ytelbkamgcnmokaa
open Go.RowKit
set_option linter.unusedVariables false

def gnum (zs : List Int) (p : Nat) : Nat → Int
  | 0 => 0
  | k + 1 => gnum zs p k * 256 + zs[p + k]?.getD 0

theorem gnum_bd (zs : List Int) (hz : ∀ i : Nat, 0 ≤ zs[i]?.getD 0 ∧ zs[i]?.getD 0 ≤ 255) (p : Nat) : ∀ k, k ≤ 4 → 0 ≤ gnum zs p k ∧ gnum zs p k ≤ 256 ^ k - 1
  | 0, _ => by simp [gnum]
  | 1, _ => by have := hz (p + 0); simp [gnum] at *; omega
  | 2, _ => by have := hz (p + 0); have := hz (p + 1); simp [gnum] at *; omega
  | 3, _ => by have := hz (p + 0); have := hz (p + 1); have := hz (p + 2); simp [gnum] at *; omega
  | 4, _ => by have := hz (p + 0); have := hz (p + 1); have := hz (p + 2); have := hz (p + 3); simp [gnum] at *; omega
  | k + 5, h => by omega

theorem gnum_lt (zs : List Int) (hz : ∀ i : Nat, 0 ≤ zs[i]?.getD 0 ∧ zs[i]?.getD 0 ≤ 255) (p k : Nat) (h : k < 4) : 0 ≤ gnum zs p k ∧ gnum zs p k ≤ 16777215 := by
  have := gnum_bd zs hz p k (by omega)
  match k, h with
  | 0, _ => omega
  | 1, _ => omega
  | 2, _ => omega
  | 3, _ => omega

/-- The tests of GetNum. -/
def gok (n : Nat) (p s : Int) : Prop := 1 ≤ s ∧ s ≤ 4 ∧ 0 ≤ p ∧ p ≤ (n : Int) - s

end Go.Proofs.Ytelbkamgcnmokaa

/- RfP: Reading a record: what it answers (plain facts). -/
namespace Go.Proofs.Ytelbkamgcnmokaa
open Go.RowKit
set_option linter.unusedVariables false

/-- The bytes from p on, n of them. -/
def cutL (zs : List Int) (p n : Nat) : List Int := (zs.drop p).take n

theorem cutL_len (zs : List Int) (p n : Nat) (h : p + n ≤ zs.length) : (cutL zs p n).length = n := by
  unfold cutL; rw [List.length_take, List.length_drop]; omega

theorem byt_cutL (zs : List Int) (h : Byt zs) (p n : Nat) : Byt (cutL zs p n) := by
  rw [byt_iff] at *
  intro x hx
  exact h x (List.mem_of_mem_drop (List.mem_of_mem_take hx))

theorem cutL_at (zs : List Int) (p n i : Nat) (h : i < n) : (cutL zs p n)[i]? = zs[p + i]? := by
  unfold cutL; rw [List.getElem?_take_of_lt h, List.getElem?_drop]

theorem cutL_split (zs : List Int) (p m n : Nat) : cutL zs p (m + n) = cutL zs p m ++ cutL zs (p + m) n := by
  unfold cutL
  rw [List.take_add, List.drop_drop]

theorem get_some (zs : List Int) (i : Nat) (h : i < zs.length) : zs[i]? = some (zs[i]?.getD 0) := by
  rw [List.getElem?_eq_getElem h]; rfl

theorem pdig2 (X : Int) : pdig X 2 2 = [X / 256 % 256, X / 1 % 256] := by
  have : List.range 2 = [0, 1] := by decide
  simp [pdig, this, pw]

theorem pdig4 (X : Int) : pdig X 4 4 = [X / 16777216 % 256, X / 65536 % 256, X / 256 % 256, X / 1 % 256] := by
  have : List.range 4 = [0, 1, 2, 3] := by decide
  simp [pdig, this, pw]

theorem dig_get2 (zs : List Int) (h : Byt zs) (p : Nat) (hp : p + 2 ≤ zs.length) : pdig (gnum zs p 2) 2 2 = cutL zs p 2 := by
  have h0 := h p; have h1 := h (p + 1)
  refine List.ext_getElem? fun i => ?_
  by_cases hi : i < 2
  · rw [cutL_at _ _ _ _ hi, get_some zs _ (by omega), pdig2]
    match i, hi with
    | 0, _ => simp [gnum]; omega
    | 1, _ => simp [gnum]; omega
  · rw [List.getElem?_eq_none (by rw [pdig_len]; omega), List.getElem?_eq_none (by rw [cutL_len _ _ _ hp]; omega)]

theorem dig_get4 (zs : List Int) (h : Byt zs) (p : Nat) (hp : p + 4 ≤ zs.length) : pdig (gnum zs p 4) 4 4 = cutL zs p 4 := by
  have h0 := h p; have h1 := h (p + 1); have h2 := h (p + 2); have h3 := h (p + 3)
  refine List.ext_getElem? fun i => ?_
  by_cases hi : i < 4
  · rw [cutL_at _ _ _ _ hi, get_some zs _ (by omega), pdig4]
    match i, hi with
    | 0, _ => simp [gnum]; omega
    | 1, _ => simp [gnum]; omega
    | 2, _ => simp [gnum]; omega
    | 3, _ => simp [gnum]; omega
  · rw [List.getElem?_eq_none (by rw [pdig_len]; omega), List.getElem?_eq_none (by rw [cutL_len _ _ _ hp]; omega)]

theorem pdig4_inj (X Y : Int) (hx : 0 ≤ X ∧ X < 4294967296) (hy : 0 ≤ Y ∧ Y < 4294967296) (h : pdig X 4 4 = pdig Y 4 4) : X = Y := by
  rw [pdig4, pdig4] at h
  simp only [List.cons.injEq, and_true] at h
  omega

theorem gnum4_bd (zs : List Int) (h : Byt zs) (p : Nat) : 0 ≤ gnum zs p 4 ∧ gnum zs p 4 < 4294967296 := by
  have := gnum_bd zs h p 4 (by omega)
  omega

theorem gnum2_bd (zs : List Int) (h : Byt zs) (p : Nat) : 0 ≤ gnum zs p 2 ∧ gnum zs p 2 < 65536 := by
  have := gnum_bd zs h p 2 (by omega)
  omega

/-- A record stands at p just where its sum is right. -/
theorem frame_at (zs : List Int) (h : Byt zs) (p s : Nat) (hp : p + 10 + s ≤ zs.length) (hs : gnum zs p 2 = (s : Int)) :
    frameL (gnum zs (p + 2) 4) (cutL zs (p + 10) s) = cutL zs p (10 + s) ↔ gnum zs (p + 6) 4 = crcI (cutL zs p 6 ++ cutL zs (p + 10) s) := by
  have hl : (cutL zs (p + 10) s).length = s := cutL_len _ _ _ (by omega)
  have hh : headL (gnum zs (p + 2) 4) s = cutL zs p 6 := by
    unfold headL
    rw [← hs, dig_get2 zs h p (by omega), dig_get4 zs h (p + 2) (by omega)]
    exact (cutL_split zs p 2 4).symm
  have hY : cutL zs p (10 + s) = cutL zs p 6 ++ cutL zs (p + 6) 4 ++ cutL zs (p + 10) s := by
    rw [cutL_split zs p 10 s, cutL_split zs p 6 4]
  unfold frameL
  rw [hl, hh, hY, List.append_left_inj, List.append_right_inj, ← dig_get4 zs h (p + 6) (by omega)]
  have hb := crcI_bd (cutL zs p 6 ++ cutL zs (p + 10) s) (byt_append (byt_cutL zs h _ _) (byt_cutL zs h _ _))
  constructor
  · intro e; exact (pdig4_inj _ _ hb (gnum4_bd zs h _) e).symm
  · intro e; rw [← e]

/-- What reading answers: number, text, next place, code. -/
def frAns (zs : List Int) (p : Int) : Int × ByteArray × Int × Int :=
  if p < 0 ∨ (zs.length : Int) < p then (0, ByteArray.empty, 0, 1)
  else if (zs.length : Int) - p < 10 then (0, ByteArray.empty, 0, 2)
  else if gnum zs p.toNat 2 = 0 ∨ 1000 < gnum zs p.toNat 2 then (0, ByteArray.empty, 0, 3)
  else if (zs.length : Int) - p - 10 < gnum zs p.toNat 2 then (0, ByteArray.empty, 0, 4)
  else if gnum zs (p.toNat + 2) 4 = 0 ∨ 1000000000 < gnum zs (p.toNat + 2) 4 then (0, ByteArray.empty, 0, 5)
  else if gnum zs (p.toNat + 6) 4 = crcI (cutL zs p.toNat 6 ++ cutL zs (p.toNat + 10) (gnum zs p.toNat 2).toNat) then
    (gnum zs (p.toNat + 2) 4, strOfNums (cutL zs (p.toNat + 10) (gnum zs p.toNat 2).toNat), p + 10 + gnum zs p.toNat 2, 0)
  else (0, ByteArray.empty, 0, 6)

theorem strNums_inj : ∀ (xs ys : List Int), Byt xs → Byt ys → strOfNums xs = strOfNums ys → xs = ys := by
  intro xs ys hx hy h
  rw [byt_iff] at hx hy
  have h1 : (strOfNums xs).data.toList = (strOfNums ys).data.toList := by rw [h]
  rw [strOfNums_data, strOfNums_data] at h1
  have hinj : ∀ a b : Int, 0 ≤ a ∧ a ≤ 255 → 0 ≤ b ∧ b ≤ 255 → UInt8.ofNat a.toNat = UInt8.ofNat b.toNat → a = b := by
    intro a b ha hb e
    have e1 := congrArg UInt8.toNat e
    simp only [UInt8.toNat_ofNat'] at e1
    omega
  clear h
  induction xs generalizing ys with
  | nil => cases ys with
    | nil => rfl
    | cons b ys => simp at h1
  | cons a xs ih => cases ys with
    | nil => simp at h1
    | cons b ys =>
      simp only [List.map_cons, List.cons.injEq] at h1
      rw [hinj a b (hx a List.mem_cons_self) (hy b List.mem_cons_self) h1.1, ih ys (fun x hm => hx x (List.mem_cons_of_mem _ hm)) (fun x hm => hy x (List.mem_cons_of_mem _ hm)) h1.2]

theorem sB_nums (xs : List Int) (h : Byt xs) : sB (strOfNums xs) = xs := by
  rw [byt_iff] at h
  unfold sB
  rw [strOfNums_data, List.map_map]
  conv => rhs; rw [← List.map_id xs]
  refine List.map_congr_left fun x hx => ?_
  have := h x hx
  simp only [Function.comp, UInt8.toNat_ofNat', id]
  omega

end Go.Proofs.Ytelbkamgcnmokaa

/- Keep: Owned rows that stay owned, in the forms that the exact laws' walks want. -/
namespace Go.Proofs.Ytelbkamgcnmokaa
open Go.RowKit
set_option linter.unusedVariables false

theorem below_grown {w w' : World} (h : Below w.heap.size w w') : w.grownBy w' none := ⟨h.os, h.tape, h.output, h.size, fun k hk _ => h.block k hk⟩

theorem own_later {w w' : World} {base : Nat} {e : TypeId} {size : Nat} {v : Value} {n : Nat} {xs : List Value} (h : w.ownsRow base e size v n xs) (hb : Below w.heap.size w w') : w'.ownsRow base e size v n xs := by
  refine h.kept (below_grown hb) ?_
  cases v.ownBlock with
  | none => exact .inl rfl
  | some x => exact .inr (by simp)

theorem own_form {w : World} {base : Nat} {e : TypeId} {size : Nat} {v : Value} {n : Nat} {xs : List Value} (h : w.ownsRow base e size v n xs) (hn : 0 < n) : ∃ g cap, v = .slice (some ⟨g, 0, none⟩) n cap ∧ base ≤ g ∧ g < w.heap.size := by
  rcases h.2 with ⟨_, h0⟩ | ⟨g, cap, cur, hv, hg, _⟩
  · omega
  · exact ⟨g, cap, hv, hg, (h.lt g (by rw [hv]; rfl)).2⟩

theorem own_base {w : World} {base base' : Nat} {e : TypeId} {size : Nat} {g : Nat} {n cap : Nat} {xs : List Value} (h : w.ownsRow base e size (.slice (some ⟨g, 0, none⟩) n cap) n xs) (hb : base' ≤ g) : w.ownsRow base' e size (.slice (some ⟨g, 0, none⟩) n cap) n xs := by
  refine ⟨h.1, ?_⟩
  rcases h.2 with ⟨h1, h2⟩ | ⟨g', cap', cur, hv, hg, r⟩
  · simp at h1
  · simp only [Value.slice.injEq, Option.some.injEq, Addr.mk.injEq, and_true, true_and] at hv
    obtain ⟨rfl, rfl⟩ := hv
    exact .inr ⟨g, cap, cur, rfl, hb, r⟩

end Go.Proofs.Ytelbkamgcnmokaa

/- Shp: Shapes of data (ints, bytes, bools, strings, fields one behind the other, slices) and what it is that cells hold such data: 'Reads'. One lemma for all shapes: what is read stays readable in later worlds; how much it holds ('sz'). -/
namespace Go.Proofs.Ytelbkamgcnmokaa
open Go.RowKit
open Go.ChangeShapes Go.WideShapes
set_option linter.unusedVariables false

def mgo : Nat → Nat → ByteArray → ByteArray
  | 0, _, o => o
  | f + 1, k, o => if k = 0 then o else mgo f (k / 10) (strOfNums [48 + (k : Int) % 10] ++ o)
def mtext (k : Nat) : ByteArray := ⟨#[109]⟩ ++ mgo 20 k ⟨#[]⟩

/-- One behind the other. -/
def mkRow {α : Type} (f : α → Nat → α) (c : α → Nat) : List α → Nat → List α
  | [], _ => []
  | x :: l, k => f x k :: mkRow f c l (k + c x)


theorem sum_le {α : Type} (f g : α → Nat) (l : List α) (h : ∀ x ∈ l, f x ≤ g x) : (l.map f).sum ≤ (l.map g).sum := by
  induction l with
  | nil => simp
  | cons a l ih =>
    have h1 := h a (by simp)
    have h2 := ih fun x hx => h x (by simp [hx])
    simp; omega

theorem sum_mul {α : Type} (f : α → Nat) (c : Nat) (l : List α) : (l.map fun x => c * (f x + 1)).sum = c * ((l.map f).sum + l.length) := by
  induction l with
  | nil => simp
  | cons a l ih =>
    have e : c * ((f a + (l.map f).sum) + (l.length + 1)) = c * (f a + 1) + c * ((l.map f).sum + l.length) := by rw [← Nat.mul_add]; congr 1; omega
    simp only [List.map_cons, List.sum_cons, List.length_cons]
    rw [ih, e]

theorem mem_flatten_get {l : List (List Nat)} {x : Nat} (h : x ∈ l.flatten) : ∃ (i : Nat) (f : List Nat), l[i]? = some f ∧ x ∈ f := by
  obtain ⟨f, hf, hx⟩ := List.mem_flatten.1 h
  obtain ⟨i, hi, rfl⟩ := List.mem_iff_getElem.1 hf
  exact ⟨i, l[i], List.getElem?_eq_getElem hi, hx⟩

theorem flatten_get {n : Nat} : ∀ {l : List (List Value)} {i j : Nat} {c : List Value}, (∀ (k : Nat) (d : List Value), l[k]? = some d → d.length = n) → l[i]? = some c → j < n → l.flatten[i * n + j]? = c[j]?
  | [], i, j, c, _, h, _ => by simp at h
  | d :: l, 0, j, c, hl, h, hj => by
    simp at h; subst h
    have := hl 0 d rfl
    rw [List.flatten_cons, List.getElem?_append_left (by omega)]
    simp
  | d :: l, i + 1, j, c, hl, h, hj => by
    have hd := hl 0 d rfl
    rw [List.flatten_cons, List.getElem?_append_right (by rw [hd, Nat.add_mul]; omega), hd]
    have e : (i + 1) * n + j - n = i * n + j := by rw [Nat.add_mul]; omega
    rw [e]
    exact flatten_get (fun k d hk => hl (k + 1) d (by simpa using hk)) (by simpa using h) hj

/-- A byte's number. -/
def isByte (z : Int) : Prop := 0 ≤ z ∧ z ≤ 255

/-- A shape of data: what it is, how many cells a value has, how much it holds, what cells hold it (and such of the call's own, with the blocks named), how marks are written into it; and the laws of these. -/
structure Sh where shape ::
  D : Type
  size : Nat
  sz : D → Nat
  Rd : World → List Value → D → Prop
  Ow : World → Nat → List Value → D → List Nat → Prop
  cnt : D → Nat
  mk : D → Nat → D
  cntV : D → Nat
  mkV : D → Nat → D
  wd : Nat
  rd_length : ∀ {w : World} {cs : List Value} {d : D}, Rd w cs d → cs.length = size
  rd_later : ∀ {w w' : World} {cs : List Value} {d : D}, Rd w cs d → Below w.heap.size w w' → Rd w' cs d
  ow_length : ∀ {w : World} {B : Nat} {cs : List Value} {d : D} {F : List Nat}, Ow w B cs d F → cs.length = size
  ow_lt : ∀ {w : World} {B : Nat} {cs : List Value} {d : D} {F : List Nat}, Ow w B cs d F → ∀ g ∈ F, B ≤ g ∧ g < w.heap.size
  ow_keep : ∀ {w w' : World} {B : Nat} {cs : List Value} {d : D} {F : List Nat}, Ow w B cs d F → (∀ g ∈ F, w'.heap[g]? = w.heap[g]?) → Ow w' B cs d F
  ow_base : ∀ {w : World} {B B' : Nat} {cs : List Value} {d : D} {F : List Nat}, Ow w B cs d F → B' ≤ B → Ow w B' cs d F
  ow_reads : ∀ {w : World} {B : Nat} {cs : List Value} {d : D} {F : List Nat}, Ow w B cs d F → Rd w cs d
  cnt_le : ∀ d : D, cnt d ≤ wd * (sz d + 1)
  cntV_le : ∀ d : D, cntV d ≤ cnt d

/-- A shape of one cell that leads to no block. -/
def Sh.leaf (D : Type) (z : D → Nat) (R : List Value → D → Prop) (m : D → Nat → D) (hl : ∀ cs d, R cs d → cs.length = 1) : Sh where
  D := D
  size := 1
  sz := z
  Rd := fun _ cs d => R cs d
  Ow := fun _ _ cs d F => R cs d ∧ F = []
  cnt := fun _ => 1
  mk := m
  cntV := fun _ => 0
  mkV := fun d _ => d
  wd := 1
  rd_length := fun h => hl _ _ h
  rd_later := fun h _ => h
  ow_length := fun h => hl _ _ h.1
  ow_lt := fun h g hg => by rw [h.2] at hg; cases hg
  ow_keep := fun h _ => h
  ow_base := fun h _ => h
  ow_reads := fun h => h.1
  cnt_le := fun _ => by omega
  cntV_le := fun _ => by omega

def Sh.int : Sh := Sh.leaf Int (fun _ => 0) (fun cs d => cs = [Value.int .i64 d]) (fun _ k => ((k : Nat) : Int)) (fun cs d h => by rw [h]; rfl)
def Sh.bool : Sh := Sh.leaf Bool (fun _ => 0) (fun cs d => cs = [Value.bool d]) (fun _ k => decide (k % 3 = 0)) (fun cs d h => by rw [h]; rfl)
def Sh.str : Sh := Sh.leaf ByteArray (fun d => ByteArray.size d) (fun cs d => cs = [Value.string d] ∧ ByteArray.size d ≤ maxLen) (fun _ k => mtext k) (fun cs d h => by rw [h.1]; rfl)
def Sh.u8 : Sh := Sh.leaf Int (fun _ => 0) (fun cs d => cs = [Value.int .u8 d] ∧ isByte d) (fun _ k => (((k % 256 : Nat)) : Int)) (fun cs d h => by rw [h.1]; rfl)

/-- No cell at all. -/
def Sh.none : Sh where
  D := Unit
  size := 0
  sz := fun _ => 0
  Rd := fun _ cs _ => cs = []
  Ow := fun _ _ cs _ F => cs = [] ∧ F = []
  cnt := fun _ => 0
  mk := fun d _ => d
  cntV := fun _ => 0
  mkV := fun d _ => d
  wd := 0
  rd_length := fun h => by rw [h]; rfl
  rd_later := fun h _ => h
  ow_length := fun h => by rw [h.1]; rfl
  ow_lt := fun h g hg => by rw [h.2] at hg; cases hg
  ow_keep := fun h _ => h
  ow_base := fun h _ => h
  ow_reads := fun h => h.1
  cnt_le := fun _ => by omega
  cntV_le := fun _ => by omega

/-- One behind the other. -/
def Sh.pair (a b : Sh) : Sh where
  D := a.D × b.D
  size := a.size + b.size
  sz := fun d => a.sz d.1 + b.sz d.2
  Rd := fun w cs d => ∃ c1 c2, cs = c1 ++ c2 ∧ a.Rd w c1 d.1 ∧ b.Rd w c2 d.2
  Ow := fun w B cs d F => ∃ c1 c2 F1 F2, cs = c1 ++ c2 ∧ F = F1 ++ F2 ∧ a.Ow w B c1 d.1 F1 ∧ b.Ow w B c2 d.2 F2
  cnt := fun d => a.cnt d.1 + b.cnt d.2
  mk := fun d k => (a.mk d.1 k, b.mk d.2 (k + a.cnt d.1))
  cntV := fun d => a.cntV d.1 + b.cntV d.2
  mkV := fun d k => (a.mkV d.1 k, b.mkV d.2 (k + a.cntV d.1))
  wd := a.wd + b.wd
  rd_length := fun ⟨c1, c2, e, h1, h2⟩ => by rw [e, List.length_append, a.rd_length h1, b.rd_length h2]
  rd_later := fun ⟨c1, c2, e, h1, h2⟩ hb => ⟨c1, c2, e, a.rd_later h1 hb, b.rd_later h2 hb⟩
  ow_length := fun ⟨c1, c2, F1, F2, e, _, h1, h2⟩ => by rw [e, List.length_append, a.ow_length h1, b.ow_length h2]
  ow_lt := fun ⟨c1, c2, F1, F2, _, e, h1, h2⟩ g hg => by
    rw [e] at hg
    rcases List.mem_append.1 hg with h | h
    · exact a.ow_lt h1 g h
    · exact b.ow_lt h2 g h
  ow_keep := fun ⟨c1, c2, F1, F2, e, eF, h1, h2⟩ hk => ⟨c1, c2, F1, F2, e, eF, a.ow_keep h1 fun g hg => hk g (by rw [eF]; exact List.mem_append_left _ hg), b.ow_keep h2 fun g hg => hk g (by rw [eF]; exact List.mem_append_right _ hg)⟩
  ow_base := fun ⟨c1, c2, F1, F2, e, eF, h1, h2⟩ hk => ⟨c1, c2, F1, F2, e, eF, a.ow_base h1 hk, b.ow_base h2 hk⟩
  ow_reads := fun ⟨c1, c2, F1, F2, e, _, h1, h2⟩ => ⟨c1, c2, e, a.ow_reads h1, b.ow_reads h2⟩
  cnt_le := fun d => by
    have h1 := a.cnt_le d.1
    have h2 := b.cnt_le d.2
    have h3 : a.wd * (a.sz d.1 + 1) ≤ a.wd * (a.sz d.1 + b.sz d.2 + 1) := Nat.mul_le_mul_left _ (by omega)
    have h4 : b.wd * (b.sz d.2 + 1) ≤ b.wd * (a.sz d.1 + b.sz d.2 + 1) := Nat.mul_le_mul_left _ (by omega)
    rw [Nat.add_mul]
    omega
  cntV_le := fun d => by
    have h1 := a.cntV_le d.1
    have h2 := b.cntV_le d.2
    omega

/-- A slice. -/
def Sh.sl (e : Sh) : Sh where
  D := List e.D
  size := 1
  sz := fun d => List.length d + (List.map e.sz d).sum
  Rd := fun w cs d => ∃ ad cap, cs = [Value.slice ad (List.length d) cap] ∧ List.length d ≤ cap ∧ cap ≤ maxLen ∧
      (List.length d = 0 ∨ ∃ b off, ad = some ⟨b, off, Option.none⟩ ∧ b < w.heap.size ∧
        ∀ (i : Nat) (x : e.D), d[i]? = some x → ∃ c : List Value, c.length = e.size ∧ (∀ j, j < e.size → w.cell? ⟨b, off + (i * e.size + j), Option.none⟩ = c[j]?) ∧ e.Rd w c x)
  Ow := fun w B cs d F => (cs = [Value.slice Option.none 0 0] ∧ List.length d = 0 ∧ F = []) ∨
      ∃ (g cap : Nat) (t : TypeId) (cur : Array Value) (Cs : List (List Value)) (Fs : List (List Nat)), cs = [Value.slice (some ⟨g, 0, Option.none⟩) (List.length d) cap] ∧ B ≤ g ∧ w.heap[g]? = some (.cells cur t (0, 0)) ∧
        List.length d ≤ cap ∧ cap ≤ maxLen ∧ cur.size = cap * e.size ∧ cur.toList.take (List.length d * e.size) = Cs.flatten ∧ Cs.length = List.length d ∧ Fs.length = List.length d ∧ F = g :: Fs.flatten ∧
        ∀ (i : Nat) (c : List Value) (x : e.D) (f : List Nat), Cs[i]? = some c → d[i]? = some x → Fs[i]? = some f → e.Ow w B c x f
  cnt := fun d => (List.map e.cnt d).sum
  mk := fun d k => mkRow e.mk e.cnt d k
  cntV := fun d => (List.map e.cnt d).sum
  mkV := fun d k => mkRow e.mk e.cnt d k
  wd := e.wd
  rd_length := fun ⟨ad, cap, h, _⟩ => by rw [h]; rfl
  rd_later := fun ⟨ad, cap, h, hl, hm, h0⟩ hb => ⟨ad, cap, h, hl, hm, h0.imp (fun h => h) fun ⟨b, off, ha, hlt, hx⟩ =>
      ⟨b, off, ha, Nat.lt_of_lt_of_le hlt hb.size, fun i x hi => by
        obtain ⟨c, hc, hcell, hr⟩ := hx i x hi
        exact ⟨c, hc, fun j hj => (hb.cell (p := ⟨b, off + (i * e.size + j), Option.none⟩) hlt).trans (hcell j hj), e.rd_later hr hb⟩⟩⟩
  ow_length := fun h => by
    rcases h with ⟨h, _⟩ | ⟨g, cap, t, cur, Cs, Fs, h, _⟩
    · rw [h]; rfl
    · rw [h]; rfl
  ow_lt := fun {w B cs d F} h x hx => by
    rcases h with ⟨_, _, h⟩ | ⟨g, cap, t, cur, Cs, Fs, _, hB, hh, _, _, _, _, hC, hF, hFF, he⟩
    · rw [h] at hx; cases hx
    · rw [hFF] at hx
      rcases List.mem_cons.1 hx with rfl | h
      · refine ⟨hB, ?_⟩
        rcases Nat.lt_or_ge x w.heap.size with h | h
        · exact h
        · rw [Array.getElem?_eq_none h] at hh; cases hh
      · obtain ⟨i, f, hi, hxf⟩ := mem_flatten_get h
        have hil : i < Fs.length := by
          rcases Nat.lt_or_ge i Fs.length with h | h
          · exact h
          · rw [List.getElem?_eq_none h] at hi; cases hi
        have hd : i < List.length d := by omega
        exact e.ow_lt (he i Cs[i] (List.get d ⟨i, hd⟩) f (List.getElem?_eq_getElem (by omega)) (List.getElem?_eq_getElem hd) hi) x hxf
  ow_keep := fun h hk => by
    rcases h with h | ⟨g, cap, t, cur, Cs, Fs, hcs, hB, hh, h1, h2, h3, h4, h5, h6, hFF, he⟩
    · exact .inl h
    · exact .inr ⟨g, cap, t, cur, Cs, Fs, hcs, hB, (hk g (by rw [hFF]; exact List.mem_cons_self)).trans hh, h1, h2, h3, h4, h5, h6, hFF, fun i c x f hc hx hf =>
        e.ow_keep (he i c x f hc hx hf) fun y hy => hk y (by rw [hFF]; exact List.mem_cons_of_mem _ (List.mem_flatten.2 ⟨f, List.mem_of_getElem? hf, hy⟩))⟩
  ow_base := fun h hk => by
    rcases h with h | ⟨g, cap, t, cur, Cs, Fs, hcs, hB, hh, h1, h2, h3, h4, h5, h6, hFF, he⟩
    · exact .inl h
    · exact .inr ⟨g, cap, t, cur, Cs, Fs, hcs, Nat.le_trans hk hB, hh, h1, h2, h3, h4, h5, h6, hFF, fun i c x f hc hx hf => e.ow_base (he i c x f hc hx hf) hk⟩
  ow_reads := fun {w B cs d F} h => by
    rcases h with ⟨h, h0, _⟩ | ⟨g, cap, t, cur, Cs, Fs, hcs, hB, hh, h1, h2, h3, h4, h5, h6, hFF, he⟩
    · exact ⟨Option.none, 0, by rw [h, h0], by omega, Nat.zero_le _, .inl h0⟩
    · refine ⟨some ⟨g, 0, Option.none⟩, cap, hcs, h1, h2, .inr ⟨g, 0, rfl, ?_, fun i x hx => ?_⟩⟩
      · rcases Nat.lt_or_ge g w.heap.size with h | h
        · exact h
        · rw [Array.getElem?_eq_none h] at hh; cases hh
      · have hi : i < List.length d := by
          rcases Nat.lt_or_ge i (List.length d) with h | h
          · exact h
          · rw [List.getElem?_eq_none h] at hx; cases hx
        have hC : Cs[i]? = some Cs[i] := List.getElem?_eq_getElem (by omega)
        have hF : Fs[i]? = some Fs[i] := List.getElem?_eq_getElem (by omega)
        have ho := he i _ x _ hC hx hF
        have hall : ∀ (k : Nat) (c : List Value), Cs[k]? = some c → c.length = e.size := by
          intro k c hk
          have hkl : k < Cs.length := by
            rcases Nat.lt_or_ge k Cs.length with h | h
            · exact h
            · rw [List.getElem?_eq_none h] at hk; cases hk
          have hkd : k < List.length d := by omega
          exact e.ow_length (he k c (List.get d ⟨k, hkd⟩) Fs[k] hk (List.getElem?_eq_getElem hkd) (List.getElem?_eq_getElem (by omega)))
        refine ⟨Cs[i], e.ow_length ho, fun j hj => ?_, e.ow_reads ho⟩
        have hf := flatten_get hall hC hj
        have hlt : i * e.size + j < List.length d * e.size := by
          have : (i + 1) * e.size ≤ List.length d * e.size := Nat.mul_le_mul_right _ hi
          rw [Nat.add_mul] at this; omega
        rw [← h4, List.getElem?_take_of_lt hlt] at hf
        rw [← hf, Nat.zero_add]
        simp [World.cell?, hh]
  cnt_le := fun d => by
    have h1 := sum_le e.cnt (fun x => e.wd * (e.sz x + 1)) d fun x _ => e.cnt_le x
    have h3 := sum_mul e.sz e.wd (show List e.D from d)
    have h1 : (List.map e.cnt d).sum ≤ e.wd * ((List.map e.sz d).sum + List.length d) := Nat.le_trans h1 (Nat.le_of_eq h3)
    have h2 : e.wd * ((List.map e.sz d).sum + List.length d) ≤ e.wd * (List.length d + (List.map e.sz d).sum + 1) := Nat.mul_le_mul_left _ (by omega)
    exact Nat.le_trans h1 h2
  cntV_le := fun d => Nat.le_refl _

theorem Sh.size_int : Sh.int.size = 1 := rfl
theorem Sh.size_bool : Sh.bool.size = 1 := rfl
theorem Sh.size_str : Sh.str.size = 1 := rfl
theorem Sh.size_u8 : Sh.u8.size = 1 := rfl
theorem Sh.size_pair (a b : Sh) : (Sh.pair a b).size = a.size + b.size := rfl

/-- The element at i. -/
def Sh.at (e : Sh) (d : List e.D) (i : Nat) : Option e.D := d[i]?
/-- In w the cells cs hold the data. -/
def Reads (s : Sh) (w : World) (cs : List Value) (d : s.D) : Prop := s.Rd w cs d
/-- In w the cells cs hold the data, in rows of the call's own: the blocks F, each from B on. -/
def Own (s : Sh) (w : World) (B : Nat) (cs : List Value) (d : s.D) (F : List Nat) : Prop := s.Ow w B cs d F

theorem Reads.length {s : Sh} {w : World} {cs : List Value} {d : s.D} (h : Reads s w cs d) : cs.length = s.size := s.rd_length h
theorem Reads.later {s : Sh} {w w' : World} {cs : List Value} {d : s.D} (h : Reads s w cs d) (hb : Below w.heap.size w w') : Reads s w' cs d := s.rd_later h hb
theorem Own.length {s : Sh} {w : World} {B : Nat} {cs : List Value} {d : s.D} {F : List Nat} (h : Own s w B cs d F) : cs.length = s.size := s.ow_length h
theorem Own.lt {s : Sh} {w : World} {B : Nat} {cs : List Value} {d : s.D} {F : List Nat} (h : Own s w B cs d F) : ∀ g ∈ F, B ≤ g ∧ g < w.heap.size := s.ow_lt h
theorem Own.keep {s : Sh} {w w' : World} {B : Nat} {cs : List Value} {d : s.D} {F : List Nat} (h : Own s w B cs d F) (hk : ∀ g ∈ F, w'.heap[g]? = w.heap[g]?) : Own s w' B cs d F := s.ow_keep h hk
theorem Own.base {s : Sh} {w : World} {B B' : Nat} {cs : List Value} {d : s.D} {F : List Nat} (h : Own s w B cs d F) (hk : B' ≤ B) : Own s w B' cs d F := s.ow_base h hk
theorem Own.reads {s : Sh} {w : World} {B : Nat} {cs : List Value} {d : s.D} {F : List Nat} (h : Own s w B cs d F) : Reads s w cs d := s.ow_reads h

/-- A slice of bytes, in the elder words. -/
theorem reads_bytes {w : World} {a : Option Addr} {n cap : Nat} {d : List Int} (h : Reads (.sl .u8) w [Value.slice a n cap] d) : List.length d = n ∧ Rd w a d ∧ n ≤ cap ∧ cap ≤ maxLen := by
  obtain ⟨ad, cp, e, hl, hm, h0⟩ := h
  simp only [List.cons.injEq, Value.slice.injEq, and_true] at e
  obtain ⟨rfl, hn, rfl⟩ := e
  have hbd : List.length d = 0 ∨ ∃ b off, a = some ⟨b, off, Option.none⟩ ∧ b < w.heap.size ∧ ∀ (i : Nat) (x : Int), d[i]? = some x → w.cell? ⟨b, off + i, Option.none⟩ = some (.int .u8 x) ∧ 0 ≤ x ∧ x ≤ 255 := by
    refine h0.imp id fun ⟨b, off, ha, hlt, hx⟩ => ⟨b, off, ha, hlt, fun i x hi => ?_⟩
    obtain ⟨c, hc, hcell, hr⟩ := hx i x hi
    have h1 := hcell 0 (by decide)
    obtain ⟨rfl, hx0, hx1⟩ := hr
    simp only [Sh.size_u8, Nat.mul_one, Nat.add_zero] at h1
    exact ⟨by simpa using h1, hx0, hx1⟩
  refine ⟨hn.symm, ⟨fun i => ?_, ?_⟩, by omega, hm⟩
  · rcases hbd with h | ⟨b, off, ha, hlt, hx⟩
    · have : d = [] := List.eq_nil_of_length_eq_zero h
      subst this; simp
    · by_cases hi : i < List.length d
      · have h1 := (hx i d[i] (List.getElem?_eq_getElem hi)).2
        simpa [hi] using h1
      · simp [hi]
  · rcases hbd with h | ⟨b, off, ha, hlt, hx⟩
    · exact .inl (List.eq_nil_of_length_eq_zero h)
    · exact .inr ⟨b, off, ha, hlt, fun i hi => by rw [(hx i d[i] (List.getElem?_eq_getElem hi)).1]; simp [hi]⟩

section
variable {H : Type} {enc : TypeId × Value → H} {P : Program} {w : World} {spare : Nat → Bool} {held : Bool}

/-- What a type's values are read as, in w. -/
def Opens (enc : TypeId × Value → H) (P : Program) (w : World) (spare : Nat → Bool) (held : Bool) (t : TypeId) (s : Sh) : Prop :=
  P.cellsOf t = s.size ∧ ∀ (fuel : Nat) (cs : List Value) (x : DataW H × List MemPlace), DataW.trod enc P w 0 spare held fuel t cs = some x → ∃ d : s.D, Reads s w cs d

theorem opens_int {t : TypeId} (ht : P.underlying t = some (.int .i64)) (hc : P.cellsOf t = 1) : Opens enc P w spare held t .int :=
  ⟨hc, fun fuel cs x h => by obtain ⟨n, e, _⟩ := DataW.trod_int ht h; exact ⟨n, e⟩⟩
theorem opens_u8 {t : TypeId} (ht : P.underlying t = some (.int .u8)) (hc : P.cellsOf t = 1) : Opens enc P w spare held t .u8 :=
  ⟨hc, fun fuel cs x h => by
    obtain ⟨n, e, _, hw⟩ := DataW.trod_int ht h
    simp [Lit.wf, IntKind.min, IntKind.max, IntKind.signed, IntKind.bits] at hw
    exact ⟨n, e, hw.1, hw.2⟩⟩
theorem opens_bool {t : TypeId} (ht : P.underlying t = some .bool) (hc : P.cellsOf t = 1) : Opens enc P w spare held t .bool :=
  ⟨hc, fun fuel cs x h => by obtain ⟨n, e, _⟩ := DataW.trod_bool ht h; exact ⟨n, e⟩⟩
theorem opens_str {t : TypeId} (ht : P.underlying t = some .string) (hc : P.cellsOf t = 1) : Opens enc P w spare held t .str :=
  ⟨hc, fun fuel cs x h => by obtain ⟨n, e, _, hs⟩ := DataW.trod_string ht h; exact ⟨n, e, hs⟩⟩

theorem opens_sl {t e : TypeId} {s : Sh} (ht : P.underlying t = some (.slice e)) (hc : P.cellsOf t = 1) (h0 : 0 < s.size) (he : Opens enc P w spare held e s) : Opens enc P w spare held t (.sl s) := by
  refine ⟨hc, fun fuel cs x h => ?_⟩
  rcases Go.Deep.open_slice ht h with ⟨rfl, _⟩ | ⟨a, len, cap, m, n, D, Pl, rfl, _, hl, hm, hme, _, hx⟩
  · exact ⟨([] : List s.D), Option.none, 0, rfl, Nat.le_refl _, Nat.zero_le _, .inl rfl⟩
  · have hlm : len ≤ m := by rw [hme]; split <;> omega
    have each : ∀ i, i < len → ∃ (c : List Value) (d : s.D), w.cells? 0 (a.add (i * P.cellsOf e)) (P.cellsOf e) = some c ∧ Reads s w c d := by
      intro i hi
      obtain ⟨c, h1, h2⟩ := hx i (by omega)
      obtain ⟨d, hd⟩ := he.2 _ _ _ h2
      exact ⟨c, d, h1, hd⟩
    -- a choice, place by place
    have pick : ∀ k, k ≤ len → ∃ d : List s.D, List.length d = k ∧ ∀ (i : Nat) (x : s.D), d[i]? = some x → ∃ c : List Value, w.cells? 0 (a.add (i * P.cellsOf e)) (P.cellsOf e) = some c ∧ Reads s w c x := by
      intro k
      induction k with
      | zero => exact fun _ => ⟨[], rfl, fun i x h => by simp at h⟩
      | succ k ih =>
        intro hk
        obtain ⟨d, hdl, hd⟩ := ih (by omega)
        obtain ⟨c, y, hc1, hy⟩ := each k (by omega)
        refine ⟨d ++ [y], by simp [hdl], fun i x h => ?_⟩
        rw [List.getElem?_append] at h
        split at h
        · exact hd i x h
        · have hi : i = k := by
            rcases Nat.lt_or_ge k i with h' | h'
            · rw [List.getElem?_eq_none (by simp; omega)] at h; cases h
            · omega
          subst hi
          have : i - d.length = 0 := by omega
          rw [this] at h
          simp at h
          subst h
          exact ⟨c, hc1, hy⟩
    obtain ⟨d, hdl, hd⟩ := pick len (Nat.le_refl _)
    refine ⟨d, some a, cap, by rw [hdl], by omega, hm, ?_⟩
    by_cases hz : len = 0
    · exact .inl (by omega)
    · right
      obtain ⟨b, off, spot⟩ := a
      have hsz : P.cellsOf e = s.size := he.1
      have h00 := each 0 (by omega)
      obtain ⟨c0, d0, hc0, hr0⟩ := h00
      have hlt : b < w.heap.size := by
        have := World.cells?_block hc0 (by omega)
        simpa [Addr.add] using this
      have hspot : spot = Option.none := by
        obtain ⟨_, h1, h2⟩ := World.cells?_some hc0
        have h3 := h2 0 (by omega)
        rw [List.getElem?_eq_getElem (by omega)] at h3
        have := World.cell?_spot h3
        simpa [Addr.add] using this
      subst hspot
      refine ⟨b, off, rfl, hlt, fun i x hi => ?_⟩
      obtain ⟨c, hc1, hr⟩ := hd i x hi
      refine ⟨c, hr.length, fun j hj => ?_, hr⟩
      obtain ⟨_, h1, h2⟩ := World.cells?_some hc1
      have h3 := h2 j (by omega)
      rw [hsz] at h3
      rw [← h3]
      congr 1
      cases hq : i * s.size <;> cases j <;> simp [Addr.add] <;> omega

/-- Fields one behind the other. -/
def Sh.ofL : List Sh → Sh
  | [] => .none
  | s :: l => .pair s (Sh.ofL l)

theorem Sh.ofL_size : ∀ l : List Sh, (Sh.ofL l).size = (l.map Sh.size).sum
  | [] => rfl
  | s :: l => by
    show s.size + (Sh.ofL l).size = _
    rw [Sh.ofL_size l]
    simp

theorem opens_fields {cs : List Value} {fs : Array Field} {n : Nat} {xs : List (DataW H × List MemPlace)}
    (hf : ∀ (i : Nat) (f : Field), fs[i]? = some f → DataW.trod enc P w 0 spare held n f.type ((cs.drop f.offset).take (P.cellsOf f.type)) = xs[i]?) (hx : xs.length = fs.size) :
    ∀ (l : List Sh) (k off : Nat), (∀ i s, l[i]? = some s → ∃ f, fs[k + i]? = some f ∧ Opens enc P w spare held f.type s ∧ f.offset = off + ((l.take i).map Sh.size).sum) →
      cs.length = off + (l.map Sh.size).sum → ∃ d : (Sh.ofL l).D, Reads (Sh.ofL l) w (cs.drop off) d
  | [], k, off, _, hlen => ⟨(), List.drop_eq_nil_of_le (by simp at hlen; omega)⟩
  | s :: l, k, off, hl, hlen => by
    obtain ⟨f, hfk, ho, hoff⟩ := hl 0 s rfl
    simp only [Nat.add_zero] at hfk
    simp at hoff
    have hk : k < fs.size := by
      rcases Nat.lt_or_ge k fs.size with h | h
      · exact h
      · rw [Array.getElem?_eq_none h] at hfk; cases hfk
    have h1 := hf k f hfk
    rw [List.getElem?_eq_getElem (by omega)] at h1
    obtain ⟨d1, hd1⟩ := ho.2 _ _ _ h1
    obtain ⟨d2, hd2⟩ := opens_fields hf hx l (k + 1) (off + s.size) (fun i s' hi => by
      obtain ⟨f', h2, h3, h4⟩ := hl (i + 1) s' (by simpa using hi)
      refine ⟨f', by rw [← h2]; congr 1; omega, h3, ?_⟩
      rw [h4]
      simp
      omega) (by simp at hlen; omega)
    refine ⟨(d1, d2), _, _, ?_, hd1, hd2⟩
    rw [hoff, ho.1]
    have e : cs.drop (off + s.size) = (cs.drop off).drop s.size := by rw [List.drop_drop]
    rw [e, List.take_append_drop]

theorem opens_struct {t : TypeId} {fs : Array Field} (l : List Sh) (ht : P.underlying t = some (.struct fs)) (hc : P.cellsOf t = (Sh.ofL l).size)
    (hl : ∀ i s, l[i]? = some s → ∃ f, fs[i]? = some f ∧ Opens enc P w spare held f.type s ∧ f.offset = ((l.take i).map Sh.size).sum) : Opens enc P w spare held t (Sh.ofL l) := by
  refine ⟨hc, fun fuel cs x h => ?_⟩
  obtain ⟨xs, n, _, _, hlen, hx, hf⟩ := DataW.trod_struct ht h
  have := opens_fields hf hx l 0 0 (fun i s hi => by
    obtain ⟨f, h1, h2, h3⟩ := hl i s hi
    exact ⟨f, by simpa using h1, h2, by simpa using h3⟩) (by rw [hlen, hc, Sh.ofL_size]; omega)
  simpa using this

end
end Go.Proofs.Ytelbkamgcnmokaa

/- OwnD: Data in memory of the call's own: 'Own' (each slice a row in a block of its own, not frozen), with the blocks named; and the slice that is being filled ('Fill'). -/
namespace Go.Proofs.Ytelbkamgcnmokaa
open Go.RowKit
set_option linter.unusedVariables false

theorem Own.later {s : Sh} {w w' : World} {B : Nat} {cs : List Value} {d : s.D} {F : List Nat} (h : Own s w B cs d F) (hb : Below w.heap.size w w') : Own s w' B cs d F :=
  h.keep fun g hg => hb.block g (h.lt g hg).2

theorem alloc3_heap (w : World) (o0 o1 o2 : Obj) : (((w.alloc o0).alloc o1).alloc o2).heap[w.heap.size]? = some o0 ∧ (((w.alloc o0).alloc o1).alloc o2).heap[w.heap.size + 1]? = some o1 ∧
    (((w.alloc o0).alloc o1).alloc o2).heap[w.heap.size + 1 + 1]? = some o2 ∧ (((w.alloc o0).alloc o1).alloc o2).heap.size = w.heap.size + 1 + 1 + 1 := by
  have e1 : (w.alloc o0).heap.size = w.heap.size + 1 := by simp
  have e2 : ((w.alloc o0).alloc o1).heap.size = w.heap.size + 1 + 1 := by simp
  refine ⟨?_, ?_, ?_, by simp⟩
  · rw [heap_alloc_old _ _ (by rw [e2]; omega), heap_alloc_old _ _ (by rw [e1]; omega)]; exact heap_alloc_new w o0
  · rw [heap_alloc_old _ _ (by rw [e2]; omega), ← e1]; exact heap_alloc_new (w.alloc o0) o1
  · rw [← e2]; exact heap_alloc_new ((w.alloc o0).alloc o1) o2

theorem box_cell {w : World} {b j : Nat} {cs : Array Value} {t : TypeId} {v : Value} (h : w.heap[b]? = some (.cells cs t (0, 0))) (hv : cs[j]? = some v) : w.cell? ⟨b, j, none⟩ = some v := by
  simp [World.cell?, h, hv]
theorem box_frozen {w : World} {b j : Nat} {cs : Array Value} {t : TypeId} (h : w.heap[b]? = some (.cells cs t (0, 0))) : w.frozen? ⟨b, j, none⟩ = false := by
  simp [World.frozen?, h]
theorem box_set {w : World} {b j : Nat} {cs : Array Value} {t : TypeId} (v : Value) (h : w.heap[b]? = some (.cells cs t (0, 0))) : (w.setCell ⟨b, j, none⟩ v).heap[b]? = some (.cells (cs.setIfInBounds j v) t (0, 0)) := by
  simp [World.setCell, Array.getElem?_modify, h]
theorem box_other {w : World} {b j : Nat} (v : Value) {k : Nat} (hk : k ≠ b) : (w.setCell ⟨b, j, none⟩ v).heap[k]? = w.heap[k]? := heap_setCell_other w ⟨b, j, none⟩ k v (fun e => hk e)

end Go.Proofs.Ytelbkamgcnmokaa

/- TyBase: The helpers of the exact laws over shapes of data: what sz.. answers; slices of bytes in these words; a slice that is being filled. -/
namespace Go.Proofs.Ytelbkamgcnmokaa
open Go.RowKit
set_option linter.unusedVariables false

/-- What a function sz.. answers of data that hold c, where 'left' is left. -/
def szAns (c : Nat) (left : Int) : Int := if (c : Int) ≤ left then left - c else -1

theorem szAns_yes {c : Nat} {left : Int} (h : (c : Int) ≤ left) : szAns c left = left - c := if_pos h
theorem szAns_no {c : Nat} {left : Int} (h : ¬ (c : Int) ≤ left) : szAns c left = -1 := if_neg h

theorem sum_zero {α : Type} (l : List α) : (l.map fun _ => 0).sum = 0 := by
  induction l with
  | nil => rfl
  | cons a l ih => simp [ih]

/-- What the first k elements hold. -/
def szTo (e : Sh) (d : List e.D) (k : Nat) : Nat := ((d.take k).map e.sz).sum

theorem szTo_zero (e : Sh) (d : List e.D) : szTo e d 0 = 0 := by simp [szTo]

theorem szTo_succ (e : Sh) (d : List e.D) (k : Nat) (x : e.D) (h : e.at d k = some x) : szTo e d (k + 1) = szTo e d k + e.sz x := by
  have hk : k < d.length := by
    rcases Nat.lt_or_ge k d.length with h' | h'
    · exact h'
    · rw [show e.at d k = none from List.getElem?_eq_none h'] at h; cases h
  have hx : d[k] = x := by
    have : d[k]? = some x := h
    rw [List.getElem?_eq_getElem hk] at this
    exact Option.some.inj this
  have e2 : d.take (k + 1) = d.take k ++ [x] := by rw [List.take_succ_eq_append_getElem hk, hx]
  unfold szTo
  rw [e2, List.map_append, List.sum_append]
  simp

theorem szTo_le (e : Sh) (d : List e.D) (k : Nat) : szTo e d k ≤ (d.map e.sz).sum := by
  unfold szTo
  conv => rhs; rw [← List.take_append_drop k d, List.map_append, List.sum_append]
  omega

theorem szTo_all (e : Sh) (d : List e.D) (k : Nat) (h : d.length ≤ k) : szTo e d k = (d.map e.sz).sum := by
  unfold szTo; rw [List.take_of_length_le h]

theorem sz_elem (e : Sh) (d : List e.D) (k : Nat) (x : e.D) (h : e.at d k = some x) : e.sz x ≤ (d.map e.sz).sum := by
  have := szTo_succ e d k x h
  have := szTo_le e d (k + 1)
  omega

/-- An element of a slice, in the walk's words. -/
theorem reads_elem {e : Sh} {w : World} {ad : Option Addr} {n cap : Nat} {d : List e.D} (h : Reads (.sl e) w [.slice ad n cap] d) (k : Nat) (hk : k < n) :
    ∃ b off c x, ad = some ⟨b, off, none⟩ ∧ b < w.heap.size ∧ e.at d k = some x ∧ Reads e w c x ∧ ∀ j, j < e.size → w.cell? ⟨b, off + (k * e.size + j), none⟩ = c[j]? := by
  obtain ⟨a, cp, e1, hl, hm, h0⟩ := h
  simp only [List.cons.injEq, Value.slice.injEq, and_true] at e1
  obtain ⟨rfl, hn, rfl⟩ := e1
  rcases h0 with h0 | ⟨b, off, rfl, hlt, hx⟩
  · omega
  · have hk' : k < d.length := by omega
    have hx1 : e.at d k = some d[k] := List.getElem?_eq_getElem hk'
    obtain ⟨c, hc, hcell, hr⟩ := hx k _ hx1
    exact ⟨b, off, c, d[k], rfl, hlt, hx1, hr, hcell⟩

theorem reads_len {e : Sh} {w : World} {ad : Option Addr} {n cap : Nat} {d : List e.D} (h : Reads (.sl e) w [.slice ad n cap] d) : d.length = n ∧ n ≤ cap ∧ cap ≤ maxLen := by
  obtain ⟨a, cp, e1, hl, hm, h0⟩ := h
  simp only [List.cons.injEq, Value.slice.injEq, and_true] at e1
  obtain ⟨rfl, hn, rfl⟩ := e1
  exact ⟨hn.symm, by omega, hm⟩

theorem flatten_single {α β : Type} (f : α → β) (l : List α) : (l.map fun x => [f x]).flatten = l.map f := by
  induction l with
  | nil => rfl
  | cons a l ih => simp [ih]

/-- A row of bytes of the call's own, in these words. -/
theorem own_bytes {w : World} {B g n cap : Nat} {d : List Int} (hl : d.length = n) (hb : ∀ i : Nat, 0 ≤ d[i]?.getD 0 ∧ d[i]?.getD 0 ≤ 255) (h : w.ownsRow B 5 1 (.slice (some ⟨g, 0, none⟩) n cap) n (d.map (Value.int .u8))) :
    Own (.sl .u8) w B [.slice (some ⟨g, 0, none⟩) n cap] d [g] := by
  rcases h.2 with ⟨h1, _⟩ | ⟨g', cap', cur, hv, hg, hh, h1, h2, h3, h4⟩
  · simp at h1
  · simp only [Value.slice.injEq, Option.some.injEq, Addr.mk.injEq, and_true, true_and] at hv
    obtain ⟨rfl, rfl⟩ := hv
    refine .inr ⟨g, cap, 5, cur, d.map (fun x => [Value.int .u8 x]), d.map (fun _ => []), ?_, hg, hh, ?_, h2, h3, ?_, ?_, ?_, ?_, ?_⟩
    · show _ = [Value.slice _ d.length cap]; rw [hl]
    · show d.length ≤ cap; omega
    · show cur.toList.take (d.length * 1) = _
      rw [hl, h4]
      exact (flatten_single (Value.int .u8) d).symm
    · show (d.map _).length = d.length; simp
    · show (d.map _).length = d.length; simp
    · have : ∀ l : List Int, (l.map fun _ => ([] : List Nat)).flatten = [] := by
        intro l; induction l with
        | nil => rfl
        | cons a l ih => simp [ih]
      rw [this]
    · intro i c x f hc hx hf
      have hx' : d[i]? = some x := hx
      rw [List.getElem?_map, hx'] at hc hf
      obtain rfl : [Value.int .u8 x] = c := Option.some.inj hc
      obtain rfl : [] = f := Option.some.inj hf
      have := hb i
      rw [hx'] at this
      exact ⟨⟨rfl, this⟩, rfl⟩

/-- The first k elements of a new row g of n elements are filled. -/
structure Fill (e : Sh) (t : TypeId) (w : World) (B g n k : Nat) (d : List e.D) : Prop where
  len : d.length = n
  le : k ≤ n
  row : ∃ (Cs : List (List Value)) (Fs : List (List Nat)) (zs : List Value), Cs.length = k ∧ Fs.length = k ∧ zs.length = (n - k) * e.size ∧ w.heap[g]? = some (.cells (Cs.flatten ++ zs).toArray t (0, 0)) ∧ (g :: Fs.flatten).Nodup ∧ (∀ x ∈ Fs.flatten, B ≤ x) ∧
    (∀ (i : Nat) (c : List Value) (x : e.D) (f : List Nat), Cs[i]? = some c → e.at d i = some x → Fs[i]? = some f → Own e w B c x f)
  bg : B ≤ g
  small : n ≤ maxLen

theorem Fill.full {e : Sh} {t : TypeId} {w : World} {B g n : Nat} {d : List e.D} (h : Fill e t w B g n n d) : ∃ F, Own (.sl e) w B [.slice (some ⟨g, 0, none⟩) n n] d F ∧ F.Nodup := by
  obtain ⟨Cs, Fs, zs, hC, hF, hz, hh, hnd, hB, ho⟩ := h.row
  have hl := h.len
  have hz0 : zs = [] := List.eq_nil_of_length_eq_zero (by rw [hz]; simp)
  subst hz0
  have hall : ∀ c ∈ Cs, c.length = e.size := by
    intro c hc
    obtain ⟨i, hi, rfl⟩ := List.mem_iff_getElem.1 hc
    have hid : i < d.length := by omega
    exact (ho i Cs[i] d[i] Fs[i] (List.getElem?_eq_getElem hi) (List.getElem?_eq_getElem hid) (List.getElem?_eq_getElem (by omega))).length
  have hfl : Cs.flatten.length = n * e.size := by
    rw [List.length_flatten]
    have : Cs.map List.length = Cs.map fun _ => e.size := List.map_congr_left hall
    rw [this]
    simp [List.map_const', hC]
  refine ⟨g :: Fs.flatten, .inr ⟨g, n, t, (Cs.flatten ++ []).toArray, Cs, Fs, ?_, h.bg, hh, ?_, h.small, ?_, ?_, ?_, ?_, rfl, ho⟩, hnd⟩
  · show _ = [Value.slice _ d.length n]; rw [hl]
  · show d.length ≤ n; omega
  · simp [hfl]
  · show ((Cs.flatten ++ []).toArray.toList).take (d.length * e.size) = Cs.flatten
    rw [hl, List.append_nil]
    exact List.take_of_length_le (by show Cs.flatten.length ≤ _; rw [hfl]; exact Nat.le_refl _)
  · show Cs.length = d.length; omega
  · show Fs.length = d.length; omega

/-- c laid from place p on. -/
def setRow (l : List Value) (p : Nat) : List Value → List Value
  | [] => l
  | v :: vs => setRow (l.set p v) (p + 1) vs

theorem setRow_at : ∀ (c A Z : List Value), c.length ≤ Z.length → setRow (A ++ Z) A.length c = A ++ (c ++ Z.drop c.length)
  | [], A, Z, _ => by simp [setRow]
  | v :: vs, A, [], h => by simp at h
  | v :: vs, A, z :: Z, h => by
    have e : (A ++ z :: Z).set A.length v = (A ++ [v]) ++ Z := by simp
    have := setRow_at vs (A ++ [v]) Z (by simpa using h)
    simp only [setRow]
    rw [e, show A.length + 1 = (A ++ [v]).length by simp, this]
    simp

theorem Fill.zero {e : Sh} {t : TypeId} {w : World} {B g n : Nat} {d : List e.D} {cur : Array Value} (hl : d.length = n) (hm : n ≤ maxLen) (hB : B ≤ g) (hh : w.heap[g]? = some (.cells cur t (0, 0))) (hc : cur.size = n * e.size) : Fill e t w B g n 0 d :=
  ⟨hl, Nat.zero_le _, ⟨[], [], cur.toList, rfl, rfl, by simp [hc], by simpa using hh, by simp, fun x hx => by simp at hx, fun i c x f hc => by simp at hc⟩, hB, hm⟩

theorem Fill.later {e : Sh} {t : TypeId} {w w' : World} {B g n k : Nat} {d : List e.D} (h : Fill e t w B g n k d) (hb : Below w.heap.size w w') : Fill e t w' B g n k d := by
  obtain ⟨Cs, Fs, zs, hC, hF, hz, hh, hnd, hBF, ho⟩ := h.row
  refine ⟨h.len, h.le, ⟨Cs, Fs, zs, hC, hF, hz, ?_, hnd, hBF, fun i c x f hc hx hf => (ho i c x f hc hx hf).later hb⟩, h.bg, h.small⟩
  have hg : g < w.heap.size := by
    rcases Nat.lt_or_ge g w.heap.size with h' | h'
    · exact h'
    · rw [Array.getElem?_eq_none h'] at hh; cases hh
  rw [hb.block g hg]; exact hh

theorem Fill.step {e : Sh} {t : TypeId} {w w1 w2 : World} {B g n k : Nat} {d : List e.D} {c : List Value} {x : e.D} {F : List Nat} (h : Fill e t w B g n k d) (hk : k < n) (hx : e.at d k = some x)
    (hb : Below w.heap.size w w1) (ho : Own e w1 w.heap.size c x F) (hF : F.Nodup) (hB : B ≤ w.heap.size)
    (hset : ∀ l : List Value, w1.heap[g]? = some (.cells l.toArray t (0, 0)) → w2.heap[g]? = some (.cells (setRow l (k * e.size) c).toArray t (0, 0))) (hoth : ∀ i, i ≠ g → w2.heap[i]? = w1.heap[i]?) :
    Fill e t w2 B g n (k + 1) d := by
  obtain ⟨Cs, Fs, zs, hC, hFs, hz, hh0, hnd, hBF, hown0⟩ := h.row
  have hg : g < w.heap.size := by
    rcases Nat.lt_or_ge g w.heap.size with h' | h'
    · exact h'
    · rw [Array.getElem?_eq_none h'] at hh0; cases hh0
  have hlow : ∀ y ∈ Fs.flatten, y < w.heap.size := by
    intro y hy
    obtain ⟨i, f, hi, hyf⟩ := mem_flatten_get hy
    have hil : i < Fs.length := by
      rcases Nat.lt_or_ge i Fs.length with h' | h'
      · exact h'
      · rw [List.getElem?_eq_none h'] at hi; cases hi
    have hid : i < d.length := by have := h.len; omega
    exact ((hown0 i Cs[i] d[i] f (List.getElem?_eq_getElem (by omega)) (List.getElem?_eq_getElem hid) hi).lt y hyf).2
  have hown : ∀ (i : Nat) (c : List Value) (x : e.D) (f : List Nat), Cs[i]? = some c → e.at d i = some x → Fs[i]? = some f → Own e w1 B c x f := fun i c x f h1 h2 h3 => (hown0 i c x f h1 h2 h3).later hb
  have hh : w1.heap[g]? = some (.cells (Cs.flatten ++ zs).toArray t (0, 0)) := (hb.block g hg).trans hh0
  have hcl := ho.length
  have hall : ∀ c ∈ Cs, c.length = e.size := by
    intro c hc
    obtain ⟨i, hi, rfl⟩ := List.mem_iff_getElem.1 hc
    have hid : i < d.length := by have := h.len; omega
    exact (hown i Cs[i] d[i] Fs[i] (List.getElem?_eq_getElem hi) (List.getElem?_eq_getElem hid) (List.getElem?_eq_getElem (by omega))).length
  have hfl : Cs.flatten.length = k * e.size := by
    rw [List.length_flatten]
    have : Cs.map List.length = Cs.map fun _ => e.size := List.map_congr_left hall
    rw [this]
    simp [List.map_const', hC]
  have hzl : c.length ≤ zs.length := by
    rw [hz, hcl]
    exact Nat.le_mul_of_pos_left _ (by omega)
  have hkeep : ∀ {c x f}, Own e w1 B c x f → g ∉ f → Own e w2 B c x f := fun ho' hgf => ho'.keep fun y hy => hoth y (fun e => hgf (e ▸ hy))
  have hgF : g ∉ F := fun hm => by have := (ho.lt g hm).1; omega
  refine ⟨h.len, by omega, ⟨Cs ++ [c], Fs ++ [F], zs.drop c.length, by simp [hC], by simp [hFs], ?_, ?_, ?_, ?_, ?_⟩, h.bg, h.small⟩
  · rw [List.length_drop, hz, hcl]
    have : n - k = (n - (k + 1)) + 1 := by omega
    rw [this, Nat.add_mul]; omega
  · have := hset _ hh
    rw [← hfl, setRow_at c _ zs hzl] at this
    rw [this]
    simp
  · rw [List.flatten_append]
    simp only [List.flatten_cons, List.flatten_nil, List.append_nil]
    rw [List.nodup_cons] at hnd ⊢
    refine ⟨?_, ?_⟩
    · intro hm
      rcases List.mem_append.1 hm with h' | h'
      · exact hnd.1 h'
      · exact hgF h'
    · rw [List.nodup_append]
      exact ⟨hnd.2, hF, fun a ha b hb e => by subst e; have h1 := hlow a ha; have h2 := (ho.lt a hb).1; omega⟩
  · intro y hy
    rw [List.flatten_append] at hy
    simp only [List.flatten_cons, List.flatten_nil, List.append_nil] at hy
    rcases List.mem_append.1 hy with h' | h'
    · exact hBF y h'
    · have := (ho.lt y h').1; omega
  · intro i c' x' f' hc' hx' hf'
    rw [List.getElem?_append] at hc' hf'
    by_cases hi : i < k
    · rw [if_pos (by omega)] at hc' hf'
      refine hkeep (hown i c' x' f' hc' hx' hf') (fun hm => ?_)
      rw [List.nodup_cons] at hnd
      exact hnd.1 (List.mem_flatten.2 ⟨f', List.mem_of_getElem? hf', hm⟩)
    · rw [if_neg (by omega)] at hc' hf'
      have hik : i = k := by
        rcases Nat.lt_or_ge k i with h' | h'
        · rw [List.getElem?_eq_none (by simp; omega)] at hc'; cases hc'
        · omega
      subst hik
      rw [hC, Nat.sub_self] at hc'
      rw [hFs, Nat.sub_self] at hf'
      obtain rfl : c = c' := by simpa using hc'
      obtain rfl : F = f' := by simpa using hf'
      obtain rfl : x = x' := Option.some.inj (hx.symm.trans hx')
      exact hkeep (ho.base hB) hgF

theorem Fill.flat {e : Sh} {t : TypeId} {w : World} {B g n k : Nat} {d : List e.D} (h : Fill e t w B g n k d) : ∃ l : List Value, l.length = n * e.size ∧ w.heap[g]? = some (.cells l.toArray t (0, 0)) := by
  obtain ⟨Cs, Fs, zs, hC, hFs, hz, hh, hnd, hBF, hown⟩ := h.row
  refine ⟨_, ?_, hh⟩
  have hall : ∀ c ∈ Cs, c.length = e.size := by
    intro c hc
    obtain ⟨i, hi, rfl⟩ := List.mem_iff_getElem.1 hc
    have hid : i < d.length := by have := h.len; have := h.le; omega
    exact (hown i Cs[i] d[i] Fs[i] (List.getElem?_eq_getElem hi) (List.getElem?_eq_getElem hid) (List.getElem?_eq_getElem (by omega))).length
  have hfl : Cs.flatten.length = k * e.size := by
    rw [List.length_flatten]
    have : Cs.map List.length = Cs.map fun _ => e.size := List.map_congr_left hall
    rw [this]
    simp [List.map_const', hC]
  have hk := h.le
  rw [List.length_append, hfl, hz, ← Nat.add_mul]
  congr 1; omega

theorem Fill.cell {e : Sh} {t : TypeId} {w : World} {B g n k : Nat} {d : List e.D} (h : Fill e t w B g n k d) (j : Nat) (hj : j < n * e.size) : (∃ u, w.cell? ⟨g, j, none⟩ = some u) ∧ w.frozen? ⟨g, j, none⟩ = false := by
  obtain ⟨l, hl, hh⟩ := h.flat
  exact ⟨⟨l[j], box_cell hh (by simp)⟩, box_frozen hh⟩

theorem Fill.lt {e : Sh} {t : TypeId} {w : World} {B g n k : Nat} {d : List e.D} (h : Fill e t w B g n k d) : g < w.heap.size := by
  obtain ⟨l, _, hh⟩ := h.flat
  rcases Nat.lt_or_ge g w.heap.size with h' | h'
  · exact h'
  · rw [Array.getElem?_eq_none h'] at hh; cases hh

end Go.Proofs.Ytelbkamgcnmokaa

/- OwnM: Data of the call's own that is written into: 'Touch' (only the blocks F turn), one element of a slice opened and shut again. -/
namespace Go.Proofs.Ytelbkamgcnmokaa
open Go.RowKit
set_option linter.unusedVariables false

/-- From w to w' only the blocks F of those that were there have turned. -/
structure Touch (w w' : World) (F : List Nat) : Prop where
  os : w'.os = w.os
  tape : w'.tape = w.tape
  output : w'.output = w.output
  size : w.heap.size ≤ w'.heap.size
  block : ∀ i, i < w.heap.size → i ∉ F → w'.heap[i]? = w.heap[i]?

theorem Touch.refl (w : World) (F : List Nat) : Touch w w F := ⟨rfl, rfl, rfl, Nat.le_refl _, fun _ _ _ => rfl⟩
theorem Touch.trans {a b c : World} {F : List Nat} (h : Touch a b F) (k : Touch b c F) : Touch a c F :=
  ⟨k.os.trans h.os, k.tape.trans h.tape, k.output.trans h.output, Nat.le_trans h.size k.size, fun i hi hf => (k.block i (Nat.lt_of_lt_of_le hi h.size) hf).trans (h.block i hi hf)⟩
theorem Touch.mono {a b : World} {F G : List Nat} (h : Touch a b F) (hs : ∀ x ∈ F, x ∈ G) : Touch a b G :=
  ⟨h.os, h.tape, h.output, h.size, fun i hi hf => h.block i hi fun hm => hf (hs i hm)⟩
theorem Touch.of_below {w w' : World} (h : Below w.heap.size w w') (F : List Nat) : Touch w w' F := ⟨h.os, h.tape, h.output, h.size, fun i hi _ => h.block i hi⟩
theorem Touch.of_grown {w w' : World} {g : Nat} (h : w.grownBy w' (some g)) {F : List Nat} (hg : g ∈ F) : Touch w w' F :=
  ⟨h.os, h.tape, h.output, h.size, fun i hi hf => h.block i hi fun e => hf (by cases e; exact hg)⟩
theorem Touch.set (w : World) (g j : Nat) (v : Value) {F : List Nat} (hg : g ∈ F) : Touch w (w.setCell ⟨g, j, none⟩ v) F :=
  ⟨rfl, rfl, rfl, by simp, fun i _ hf => box_other v fun e => hf (e ▸ hg)⟩
theorem Touch.below {B : Nat} {a w w' : World} {F : List Nat} (h : Touch w w' F) (hb : Below B a w) (hB : B ≤ w.heap.size) (hF : ∀ g ∈ F, B ≤ g) : Below B a w' :=
  ⟨h.os.trans hb.os, h.tape.trans hb.tape, h.output.trans hb.output, Nat.le_trans hb.size h.size, fun i hi => (h.block i (by omega) fun hm => by have := hF i hm; omega).trans (hb.block i hi)⟩
theorem Touch.own {s : Sh} {w w' : World} {B : Nat} {cs : List Value} {d : s.D} {F G : List Nat} (h : Touch w w' F) (ho : Own s w B cs d G) (hd : ∀ g ∈ G, g ∉ F) : Own s w' B cs d G :=
  ho.keep fun g hg => h.block g (ho.lt g hg).2 (hd g hg)

theorem disj_flatten : ∀ {L : List (List Nat)} {i k : Nat} {a b : List Nat}, L.flatten.Nodup → L[i]? = some a → L[k]? = some b → i ≠ k → ∀ x ∈ a, x ∉ b
  | [], i, k, a, b, _, h, _, _ => by simp at h
  | l :: L, 0, 0, a, b, _, _, _, hne => absurd rfl hne
  | l :: L, 0, k + 1, a, b, hn, ha, hb, _ => by
    intro x hx hxb
    simp at ha; subst ha
    rw [List.flatten_cons, List.nodup_append] at hn
    exact hn.2.2 x hx x (List.mem_flatten.2 ⟨b, List.mem_of_getElem? (by simpa using hb), hxb⟩) rfl
  | l :: L, i + 1, 0, a, b, hn, ha, hb, _ => by
    intro x hx hxb
    simp at hb; subst hb
    rw [List.flatten_cons, List.nodup_append] at hn
    exact hn.2.2 x hxb x (List.mem_flatten.2 ⟨a, List.mem_of_getElem? (by simpa using ha), hx⟩) rfl
  | l :: L, i + 1, k + 1, a, b, hn, ha, hb, hne => by
    rw [List.flatten_cons, List.nodup_append] at hn
    exact disj_flatten hn.2.1 (by simpa using ha) (by simpa using hb) (by omega)

theorem nodup_of_flatten : ∀ {L : List (List Nat)} {i : Nat} {a : List Nat}, L.flatten.Nodup → L[i]? = some a → a.Nodup
  | [], i, a, _, h => by simp at h
  | l :: L, 0, a, hn, h => by
    simp at h; subst h
    rw [List.flatten_cons, List.nodup_append] at hn
    exact hn.1
  | l :: L, i + 1, a, hn, h => by
    rw [List.flatten_cons, List.nodup_append] at hn
    exact nodup_of_flatten hn.2.1 (by simpa using h)

theorem take_mid (A c Z : List Value) (m : Nat) (h : A.length + c.length ≤ m) : (A ++ (c ++ Z)).take m = A ++ (c ++ Z.take (m - (A.length + c.length))) := by
  rw [← List.append_assoc, List.take_append, List.take_of_length_le (by simp; omega), List.length_append, List.append_assoc]

theorem flatten_take {n : Nat} : ∀ {l : List (List Value)} (i : Nat), (∀ d ∈ l, d.length = n) → l.flatten.take (i * n) = (l.take i).flatten
  | [], i, _ => by simp
  | d :: l, 0, _ => by simp
  | d :: l, i + 1, h => by
    have hd := h d (by simp)
    rw [List.flatten_cons, List.take_succ_cons, List.flatten_cons, Nat.add_mul, Nat.one_mul, Nat.add_comm, ← hd, List.take_length_add_append, hd, flatten_take i (fun x hx => h x (by simp [hx]))]

theorem flatten_drop {n : Nat} : ∀ {l : List (List Value)} (i : Nat), (∀ d ∈ l, d.length = n) → l.flatten.drop (i * n) = (l.drop i).flatten
  | [], i, _ => by simp
  | d :: l, 0, _ => by simp
  | d :: l, i + 1, h => by
    have hd := h d (by simp)
    rw [List.flatten_cons, List.drop_succ_cons, Nat.add_mul, Nat.one_mul, Nat.add_comm, ← hd, List.drop_length_add_append, hd, flatten_drop i (fun x hx => h x (by simp [hx]))]

theorem setRow_eq (l c : List Value) (p : Nat) (h : p + c.length ≤ l.length) : setRow l p c = l.take p ++ (c ++ l.drop (p + c.length)) := by
  have e : l = l.take p ++ l.drop p := (List.take_append_drop p l).symm
  have hl : (l.take p).length = p := by rw [List.length_take]; omega
  have := setRow_at c (l.take p) (l.drop p) (by rw [List.length_drop]; omega)
  rw [hl, ← e] at this
  rw [this, List.drop_drop]

theorem set_flatten {l : List (List Value)} {i : Nat} {c : List Value} (hi : i < l.length) : (l.set i c).flatten = (l.take i).flatten ++ (c ++ (l.drop (i + 1)).flatten) := by
  rw [List.set_eq_take_append_cons_drop, if_pos hi, List.flatten_append, List.flatten_cons]

/-- One element opened; and what shuts it again. -/
theorem own_elem {e : Sh} {w : World} {B g n cap : Nat} {d : List e.D} {F : List Nat} (h : Own (.sl e) w B [.slice (some ⟨g, 0, none⟩) n cap] d F) (hnd : F.Nodup) (i : Nat) (hi : i < n) :
    ∃ (t : TypeId) (cur : Array Value) (c : List Value) (x : e.D) (f : List Nat), w.heap[g]? = some (.cells cur t (0, 0)) ∧ e.at d i = some x ∧ Own e w B c x f ∧ f.Nodup ∧ g ∉ f ∧ (∀ y ∈ f, y ∈ F) ∧ g ∈ F ∧ B ≤ g ∧
      (∀ j, j < e.size → cur[i * e.size + j]? = c[j]?) ∧
      ∀ (w2 : World) (c' : List Value) (x' : e.D), Own e w2 B c' x' f → w2.heap[g]? = some (.cells (setRow cur.toList (i * e.size) c').toArray t (0, 0)) → (∀ y ∈ F, y ≠ g → y ∉ f → w2.heap[y]? = w.heap[y]?) →
        Own (.sl e) w2 B [.slice (some ⟨g, 0, none⟩) n cap] (List.set d i x') F := by
  rcases h with ⟨h1, _⟩ | ⟨g', cap', t, cur, Cs, Fs, hcs, hB, hh, h1, h2, h3, h4, h5, h6, hFF, he⟩
  · simp at h1
  · simp only [List.cons.injEq, Value.slice.injEq, Option.some.injEq, Addr.mk.injEq, and_true] at hcs
    obtain ⟨rfl, hn, rfl⟩ := hcs
    have h1 : d.length ≤ cap := h1
    have h4 : cur.toList.take (d.length * e.size) = Cs.flatten := h4
    have h5 : Cs.length = d.length := h5
    have h6 : Fs.length = d.length := h6
    have hid : i < d.length := by omega
    have hCi : Cs[i]? = some Cs[i] := List.getElem?_eq_getElem (by omega)
    have hFi : Fs[i]? = some Fs[i] := List.getElem?_eq_getElem (by omega)
    have hxi : e.at d i = some d[i] := List.getElem?_eq_getElem hid
    have ho := he i _ _ _ hCi hxi hFi
    have hall : ∀ c ∈ Cs, c.length = e.size := by
      intro c hc
      obtain ⟨k, hk, rfl⟩ := List.mem_iff_getElem.1 hc
      have hkd : k < d.length := by omega
      exact e.ow_length (he k Cs[k] d[k] Fs[k] (List.getElem?_eq_getElem hk) (List.getElem?_eq_getElem hkd) (List.getElem?_eq_getElem (by omega)))
    rw [hFF] at hnd
    have hnd2 := (List.nodup_cons.1 hnd)
    have hfl : Cs.flatten.length = d.length * e.size := by
      rw [List.length_flatten]
      have : Cs.map List.length = Cs.map fun _ => e.size := List.map_congr_left hall
      rw [this]
      simp [List.map_const', h5]
    have hmul : (i + 1) * e.size ≤ d.length * e.size := Nat.mul_le_mul_right _ hid
    rw [Nat.add_mul, Nat.one_mul] at hmul
    have hcap : d.length * e.size ≤ cap * e.size := Nat.mul_le_mul_right _ h1
    refine ⟨t, cur, Cs[i], d[i], Fs[i], hh, hxi, ho, nodup_of_flatten hnd2.2 hFi, fun hm => hnd2.1 (List.mem_flatten.2 ⟨_, List.mem_of_getElem? hFi, hm⟩), fun y hy => ?_, ?_, hB, fun j hj => ?_, ?_⟩
    · rw [hFF]; exact List.mem_cons_of_mem _ (List.mem_flatten.2 ⟨_, List.mem_of_getElem? hFi, hy⟩)
    · rw [hFF]; exact List.mem_cons_self
    · have := flatten_get (l := Cs) (n := e.size) (i := i) (j := j) (c := Cs[i]) (fun k d hk => hall d (List.mem_of_getElem? hk)) hCi hj
      rw [← h4, List.getElem?_take_of_lt (by omega)] at this
      rw [← this]; simp
    · intro w2 c' x' ho' hg' hoth
      have hcl := ho'.length
      have hlen : cur.toList.length = cap * e.size := by simpa using h3
      have hsr : setRow cur.toList (i * e.size) c' = cur.toList.take (i * e.size) ++ (c' ++ cur.toList.drop (i * e.size + e.size)) := by
        rw [setRow_eq _ _ _ (by rw [hlen, hcl]; omega), hcl]
      refine .inr ⟨g, cap, t, _, Cs.set i c', Fs, ?_, hB, hg', ?_, h2, ?_, ?_, ?_, ?_, hFF, ?_⟩
      · show _ = [Value.slice _ (List.length (List.set d i x')) cap]
        rw [List.length_set, hn]
      · show List.length (List.set d i x') ≤ cap
        rw [List.length_set]; exact h1
      · rw [hsr]
        simp only [List.size_toArray, List.length_append, List.length_take, List.length_drop, hlen, hcl]
        omega
      · show (setRow cur.toList (i * e.size) c').toArray.toList.take (List.length (List.set d i x') * e.size) = _
        rw [List.length_set, set_flatten (by omega)]
        show (setRow cur.toList (i * e.size) c').take (d.length * e.size) = _
        have e1 : (cur.toList.take (i * e.size)).length = i * e.size := by rw [List.length_take, hlen]; omega
        rw [hsr, take_mid _ _ _ _ (by rw [e1, hcl]; omega), e1, hcl, ← flatten_take i hall, ← flatten_drop (i + 1) hall, ← h4, List.take_take, List.drop_take, Nat.min_eq_left (by omega), Nat.add_mul, Nat.one_mul]
      · show (Cs.set i c').length = List.length (List.set d i x'); simp [h5]
      · show Fs.length = List.length (List.set d i x'); simp [h6]
      · intro k c2 x2 f2 hc2 hx2 hf2
        have hx2 : (List.set d i x')[k]? = some x2 := hx2
        rw [List.getElem?_set] at hc2 hx2
        by_cases hik : i = k
        · subst hik
          rw [if_pos rfl, if_pos (by omega)] at hc2 hx2
          obtain rfl := Option.some.inj hc2
          obtain rfl := Option.some.inj hx2
          obtain rfl : Fs[i] = f2 := Option.some.inj (hFi.symm.trans hf2)
          exact ho'
        · rw [if_neg hik] at hc2 hx2
          refine e.ow_keep (he k c2 x2 f2 hc2 hx2 hf2) fun y hy => hoth y ?_ ?_ ?_
          · rw [hFF]; exact List.mem_cons_of_mem _ (List.mem_flatten.2 ⟨f2, List.mem_of_getElem? hf2, hy⟩)
          · intro e; exact hnd2.1 (e ▸ List.mem_flatten.2 ⟨f2, List.mem_of_getElem? hf2, hy⟩)
          · exact disj_flatten hnd2.2 hf2 hFi (fun e => hik e.symm) y hy

end Go.Proofs.Ytelbkamgcnmokaa

/- Mtx: markText: the text that a mark is. -/
namespace Go.Proofs.Ytelbkamgcnmokaa
open Go.RowKit
set_option linter.unusedVariables false

theorem one_byteS (d : Int) (b : Nat) (W : World) (h : W.cell? ⟨b, 0, none⟩ = some (.int .u8 d)) :
    (convert 22 9 (.slice (some ⟨b, 0, none⟩) 1 1)).run Try.prog W = .ok (.string (strOfNums [d])) W := by
  refine run_convert_bytes_arg (P := Try.prog) W 22 5 Try.underlying22 Try.underlying5 b 0 1 1 [d] rfl ?_ 9 Try.underlying9
  intro i hi
  obtain rfl : i = 0 := by omega
  simpa using h

end Go.Proofs.Ytelbkamgcnmokaa

/- Mk: The marks that the laws write into data, by shapes: how many ('cnt'), what is there behind them ('mk'). -/
namespace Go.Proofs.Ytelbkamgcnmokaa
open Go.RowKit
set_option linter.unusedVariables false

theorem cnt_le (s : Sh) (d : s.D) : s.cnt d ≤ s.wd * (s.sz d + 1) := s.cnt_le d
theorem cntV_le (s : Sh) (d : s.D) : s.cntV d ≤ s.cnt d := s.cntV_le d

/-- The marks of the first i elements. -/
def cntTo (e : Sh) (d : List e.D) (i : Nat) : Nat := ((d.take i).map e.cnt).sum

theorem cntTo_zero (e : Sh) (d : List e.D) : cntTo e d 0 = 0 := by simp [cntTo]

theorem at_some {e : Sh} {d : List e.D} {i : Nat} {x : e.D} (h : e.at d i = some x) : ∃ hi : i < d.length, d[i] = x := by
  have hk : i < d.length := by
    rcases Nat.lt_or_ge i d.length with h' | h'
    · exact h'
    · rw [show e.at d i = none from List.getElem?_eq_none h'] at h; cases h
  refine ⟨hk, ?_⟩
  have : d[i]? = some x := h
  rw [List.getElem?_eq_getElem hk] at this
  exact Option.some.inj this

theorem cntTo_succ (e : Sh) (d : List e.D) (i : Nat) (x : e.D) (h : e.at d i = some x) : cntTo e d (i + 1) = cntTo e d i + e.cnt x := by
  obtain ⟨hk, hx⟩ := at_some h
  have e2 : d.take (i + 1) = d.take i ++ [x] := by rw [List.take_succ_eq_append_getElem hk, hx]
  unfold cntTo
  rw [e2, List.map_append, List.sum_append]
  simp

theorem cntTo_all (e : Sh) (d : List e.D) (i : Nat) (h : d.length ≤ i) : cntTo e d i = Sh.cnt (.sl e) d := by
  unfold cntTo; rw [List.take_of_length_le h]; rfl

theorem cntTo_le (e : Sh) (d : List e.D) (i : Nat) : cntTo e d i ≤ Sh.cnt (.sl e) d := by
  show cntTo e d i ≤ (d.map e.cnt).sum
  unfold cntTo
  conv => rhs; rw [← List.take_append_drop i d, List.map_append, List.sum_append]
  omega

/-- The first i elements marked. -/
def mkTo (e : Sh) (d : List e.D) (k i : Nat) : List e.D := mkRow e.mk e.cnt (d.take i) k ++ d.drop i

theorem mkRow_length {α : Type} (f : α → Nat → α) (c : α → Nat) : ∀ (l : List α) (k : Nat), (mkRow f c l k).length = l.length
  | [], _ => rfl
  | x :: l, k => by simp [mkRow, mkRow_length f c l]

theorem mkRow_snoc {α : Type} (f : α → Nat → α) (c : α → Nat) : ∀ (l : List α) (x : α) (k : Nat), mkRow f c (l ++ [x]) k = mkRow f c l k ++ [f x (k + (l.map c).sum)]
  | [], x, k => by simp [mkRow]
  | y :: l, x, k => by
    simp only [List.cons_append, mkRow, mkRow_snoc f c l x]
    simp [Nat.add_assoc]

theorem mkTo_zero (e : Sh) (d : List e.D) (k : Nat) : mkTo e d k 0 = d := by simp [mkTo, mkRow]

theorem mkTo_all (e : Sh) (d : List e.D) (k i : Nat) (h : d.length ≤ i) : mkTo e d k i = Sh.mk (.sl e) d k := by
  unfold mkTo; rw [List.take_of_length_le h, List.drop_eq_nil_of_le h, List.append_nil]; rfl

theorem mkTo_length (e : Sh) (d : List e.D) (k i : Nat) : (mkTo e d k i).length = d.length := by
  unfold mkTo; rw [List.length_append, mkRow_length, List.length_take, List.length_drop]; omega

theorem mkTo_at (e : Sh) (d : List e.D) (k i : Nat) (x : e.D) (h : e.at d i = some x) : e.at (mkTo e d k i) i = some x := by
  obtain ⟨hk, hx⟩ := at_some h
  show (mkTo e d k i)[i]? = some x
  unfold mkTo
  rw [List.getElem?_append_right (by rw [mkRow_length, List.length_take]; omega), mkRow_length, List.length_take, Nat.min_eq_left (by omega), Nat.sub_self, List.getElem?_drop, Nat.add_zero]
  exact h

theorem mkTo_set (e : Sh) (d : List e.D) (k i : Nat) (x : e.D) (h : e.at d i = some x) : List.set (mkTo e d k i) i (e.mk x (k + cntTo e d i)) = mkTo e d k (i + 1) := by
  obtain ⟨hk, hx⟩ := at_some h
  have e2 : d.take (i + 1) = d.take i ++ [x] := by rw [List.take_succ_eq_append_getElem hk, hx]
  have hl : (mkRow e.mk e.cnt (d.take i) k).length = i := by rw [mkRow_length, List.length_take]; omega
  unfold mkTo
  rw [e2, mkRow_snoc, List.set_append_right _ _ (by omega), hl, Nat.sub_self, List.append_assoc]
  congr 1
  rw [show d.drop i = x :: d.drop (i + 1) by rw [List.drop_eq_getElem_cons hk, hx]]
  rfl

theorem mk_at (e : Sh) (d : List e.D) (k i : Nat) (x : e.D) (h : e.at d i = some x) : e.at (Sh.mk (.sl e) d k) i = some (e.mk x (k + cntTo e d i)) := by
  obtain ⟨hk, hx⟩ := at_some h
  have h1 := mkTo_set e d k i x h
  have key : ∀ j, i + 1 ≤ j → j ≤ d.length → (mkTo e d k j)[i]? = some (e.mk x (k + cntTo e d i)) := by
    intro j hj
    induction j with
    | zero => omega
    | succ j ih =>
      intro hjl
      by_cases hji : j = i
      · subst hji
        rw [← h1]
        rw [List.getElem?_set, if_pos rfl, if_pos (by rw [mkTo_length]; omega)]
      · have hj' : e.at d j = some d[j] := List.getElem?_eq_getElem (by omega)
        rw [← mkTo_set e d k j _ hj', List.getElem?_set, if_neg hji]
        exact ih (by omega) (by omega)
  have := key d.length (by omega) (Nat.le_refl _)
  rw [mkTo_all _ _ _ _ (Nat.le_refl _)] at this
  exact this

theorem mgo_size : ∀ (f k : Nat) (o : ByteArray), (mgo f k o).size ≤ o.size + f
  | 0, _, o => by simp [mgo]
  | f + 1, k, o => by
    unfold mgo
    split
    · omega
    · have h := mgo_size f (k / 10) (strOfNums [48 + (k : Int) % 10] ++ o)
      rw [ByteArray.size_append, strOfNums_size] at h
      simp at h
      omega

theorem mtext_le (k : Nat) : (mtext k).size ≤ maxLen := by
  unfold mtext maxLen
  have h := mgo_size 20 k ⟨#[]⟩
  have h0 : (⟨#[]⟩ : ByteArray).size = 0 := rfl
  have h1 : (⟨#[109]⟩ : ByteArray).size = 1 := rfl
  rw [ByteArray.size_append, h1]
  omega

theorem lt_heap {w : World} {g : Nat} {o : Obj} (h : w.heap[g]? = some o) : g < w.heap.size := by
  rcases Nat.lt_or_ge g w.heap.size with h' | h'
  · exact h'
  · rw [Array.getElem?_eq_none h'] at h; cases h

/-- A cell that is as it is to be. -/
theorem setRow_skip {l : List Value} {p : Nat} {v : Value} {vs : List Value} (h : l[p]? = some v) : setRow l p (v :: vs) = setRow l (p + 1) vs := by
  have hp : p < l.length := by
    rcases Nat.lt_or_ge p l.length with h' | h'
    · exact h'
    · rw [List.getElem?_eq_none h'] at h; cases h
  have e : l.set p v = l := by
    apply List.ext_getElem?
    intro i
    rw [List.getElem?_set]
    split
    · rename_i hi
      subst hi
      first | rw [if_pos hp, h] | rw [h]
    · rfl
  show setRow (l.set p v) (p + 1) vs = _
  rw [e]

end Go.Proofs.Ytelbkamgcnmokaa

/- MkB: markByteS and heldByteS, from any number on, in the words of shapes. -/
namespace Go.Proofs.Ytelbkamgcnmokaa
open Go.RowKit
set_option linter.unusedVariables false

theorem set_toArray1 (cur : Array Value) (i : Nat) (v : Value) : cur.setIfInBounds i v = (setRow cur.toList (i * 1) [v]).toArray := by
  apply Array.ext'
  simp [setRow]

theorem cnt_bytes (d : List Int) : Sh.cnt (.sl .u8) d = d.length := by
  show (List.map (fun _ => 1) d).sum = d.length
  induction d with
  | nil => rfl
  | cons a l ih => simp [ih]; omega

theorem cntTo_bytes (d : List Int) (i : Nat) (h : i ≤ d.length) : cntTo .u8 d i = i := by
  have h1 : cntTo .u8 d i = Sh.cnt (.sl .u8) (List.take (α := Int) i d) := rfl
  exact h1.trans ((cnt_bytes (List.take (α := Int) i d)).trans (by rw [List.length_take]; omega))

theorem own_len {e : Sh} {w : World} {B : Nat} {a : Option Addr} {n cap : Nat} {d : List e.D} {F : List Nat} (h : Own (.sl e) w B [.slice a n cap] d F) : d.length = n ∧ n ≤ maxLen ∧ (n = 0 ∨ ∃ g, a = some ⟨g, 0, none⟩) := by
  rcases h with ⟨h1, h2, _⟩ | ⟨g, cp, t, cur, Cs, Fs, h1, _, _, h2, h3, _⟩
  · simp only [List.cons.injEq, Value.slice.injEq, and_true] at h1
    obtain ⟨_, rfl, _⟩ := h1
    exact ⟨h2, Nat.zero_le _, .inl rfl⟩
  · simp only [List.cons.injEq, Value.slice.injEq, and_true] at h1
    obtain ⟨rfl, rfl, rfl⟩ := h1
    exact ⟨rfl, Nat.le_trans h2 h3, .inr ⟨g, rfl⟩⟩

end Go.Proofs.Ytelbkamgcnmokaa

/- VB: Slices as one value: what a value is that holds a slice; the helpers of the exact laws for slices of bytes in these words. -/
namespace Go.Proofs.Ytelbkamgcnmokaa
open Go.RowKit
set_option linter.unusedVariables false

theorem own_val {e : Sh} {w : World} {B : Nat} {v : Value} {d : List e.D} {F : List Nat} (h : Own (.sl e) w B [v] d F) : ∃ a c, v = .slice a d.length c ∧ d.length ≤ c ∧ c ≤ maxLen ∧ (a = none → c = 0) := by
  rcases h with ⟨h1, h2, _⟩ | ⟨g, cp, t, cur, Cs, Fs, h1, _, _, h2, h3, _⟩
  · simp only [List.cons.injEq, and_true] at h1
    have h2' : d.length = 0 := h2
    exact ⟨none, 0, by rw [h2', h1], by omega, Nat.zero_le _, fun _ => rfl⟩
  · simp only [List.cons.injEq, and_true] at h1
    exact ⟨_, cp, h1, h2, h3, fun h => by cases h⟩

theorem reads_val {e : Sh} {w : World} {v : Value} {d : List e.D} (h : Reads (.sl e) w [v] d) : ∃ a c, v = .slice a d.length c ∧ d.length ≤ c ∧ c ≤ maxLen := by
  obtain ⟨ad, cp, h1, h2, h3, _⟩ := h
  simp only [List.cons.injEq, and_true] at h1
  exact ⟨ad, cp, h1, h2, h3⟩

theorem reads_mk {w : World} {a : Option Addr} {n cap : Nat} {zs : List Int} (h : Rd w a zs) (hl : zs.length = n) (hc : n ≤ cap) (hm : cap ≤ maxLen) : Reads (.sl .u8) w [.slice a n cap] zs := by
  refine ⟨a, cap, by subst hl; rfl, ?_, hm, ?_⟩
  · show zs.length ≤ cap; omega
  · rcases h.2 with h0 | ⟨b, off, h1, h2, h3⟩
    · left; show zs.length = 0; rw [h0]; rfl
    · right
      refine ⟨b, off, h1, h2, fun i x hx => ?_⟩
      have hx' : zs[i]? = some x := hx
      have hi : i < zs.length := (List.getElem?_eq_some_iff.1 hx').1
      refine ⟨[.int .u8 x], rfl, fun j hj => ?_, rfl, ?_⟩
      · have hj0 : j = 0 := by have : j < 1 := hj; omega
        subst hj0
        have h5 : w.cell? ⟨b, off + i, none⟩ = some (.int .u8 x) := by rw [h3 i hi, hx']; rfl
        simpa [Sh.size_u8] using h5
      · have := h.1 i
        rw [hx'] at this
        exact this

/-- A slice of bytes that came in. -/
theorem reads_row {w : World} {a : Option Addr} {len cap : Nat} {zs : List Int}
    (h : (a = none ∧ len = 0 ∧ cap = 0 ∧ zs = []) ∨
      ∃ x, a = some x ∧ len ≤ cap ∧ cap ≤ maxLen ∧ zs.length = cap ∧ (∀ i, i < zs.length → w.cell? (x.add i) = some (.int .u8 (zs.getD i 0))) ∧ ∀ n ∈ zs, (Lit.int .u8 n).wf = true) : Reads (.sl .u8) w [.slice a len cap] (zs.take len) := by
  have h1 := rd_of h
  rcases h with ⟨_, rfl, rfl, _⟩ | ⟨x, _, h2, h3, _⟩
  · exact reads_mk h1.1 h1.2.1 (Nat.le_refl _) (Nat.zero_le _)
  · exact reads_mk h1.1 h1.2.1 h2 h3

/-- A row of bytes that the call owns, in the words of shapes. -/
theorem own_row {w : World} {B n : Nat} {v : Value} {d : List Int} (hl : d.length = n) (hb : ∀ i : Nat, 0 ≤ d[i]?.getD 0 ∧ d[i]?.getD 0 ≤ 255) (h : w.ownsRow B 5 1 v n (d.map (Value.int .u8))) : ∃ F, Own (.sl .u8) w B [v] d F ∧ F.Nodup := by
  rcases h.2 with ⟨h1, h2⟩ | ⟨g, cap, cur, hv, _⟩
  · refine ⟨[], .inl ⟨by rw [h1], ?_, rfl⟩, by simp⟩
    show d.length = 0; omega
  · subst hv
    exact ⟨[g], own_bytes hl hb h, by simp⟩

theorem cnt_byteS (d : List Int) : Sh.cnt (.sl .u8) d = d.length := cnt_bytes d

end Go.Proofs.Ytelbkamgcnmokaa

/- FlatG: Rows of flat data of the call's own, in the words of 'Own'; cells of a new block; what is behind a slice of the call's own (for every shape). -/
namespace Go.Proofs.Ytelbkamgcnmokaa
open Go.RowKit
set_option linter.unusedVariables false

theorem flatMap_flatten {α : Type} (cf : α → List Value) (l : List α) : (l.map cf).flatten = l.flatMap cf := by
  rw [List.flatMap_def]

theorem nils_flatten {α : Type} (l : List α) : (l.map fun _ => ([] : List Nat)).flatten = [] := by
  induction l with
  | nil => rfl
  | cons a l ih => simp [ih]

/-- A row of flat data. -/
theorem own_flat (e : Sh) (cf : e.D → List Value) {w : World} {B g n cap : Nat} {t : TypeId} {l : List e.D} (hl : l.length = n) (hcf : ∀ x ∈ l, Own e w B (cf x) x [])
    (h : w.ownsRow B t e.size (.slice (some ⟨g, 0, none⟩) n cap) n (l.flatMap cf)) : Own (.sl e) w B [.slice (some ⟨g, 0, none⟩) n cap] l [g] := by
  rcases h.2 with ⟨h1, _⟩ | ⟨g', cap', cur, hv, hg, hh, h1, h2, h3, h4⟩
  · simp at h1
  · simp only [Value.slice.injEq, Option.some.injEq, Addr.mk.injEq, and_true, true_and] at hv
    obtain ⟨rfl, rfl⟩ := hv
    refine .inr ⟨g, cap, t, cur, l.map cf, l.map (fun _ => []), ?_, hg, hh, ?_, h2, h3, ?_, ?_, ?_, ?_, ?_⟩
    · show _ = [Value.slice _ l.length cap]; rw [hl]
    · show l.length ≤ cap; omega
    · show cur.toList.take (l.length * e.size) = _
      rw [hl, h4, flatMap_flatten]
    · show (l.map _).length = l.length; simp
    · show (l.map _).length = l.length; simp
    · rw [nils_flatten]
    · intro i c x f hc hx hf
      have hx' : l[i]? = some x := hx
      rw [List.getElem?_map, hx'] at hc hf
      obtain rfl : cf x = c := Option.some.inj hc
      obtain rfl : [] = f := Option.some.inj hf
      exact hcf x (List.mem_of_getElem? hx')

theorem cells_new (w : World) (cs : List Value) (t : TypeId) : ∀ j u, cs[j]? = some u → (w.alloc (.cells cs.toArray t)).cell? ((⟨w.heap.size, 0, none⟩ : Addr).add j) = some u := by
  intro j u h
  have e : (⟨w.heap.size, 0, none⟩ : Addr).add j = ⟨w.heap.size, j, none⟩ := by cases j <;> simp [Addr.add]
  rw [e]
  exact box_cell (heap_alloc_new w _) (by simpa using h)

theorem cells_new' (w : World) (cs : List Value) (t : TypeId) (b : Nat) (hb : w.heap.size = b) : ∀ j u, cs[j]? = some u → (w.alloc (.cells cs.toArray t)).cell? ((⟨b, 0, none⟩ : Addr).add j) = some u := by
  subst hb; exact cells_new w cs t

theorem own_nil {e : Sh} {w : World} {B : Nat} {n c : Nat} {d : List e.D} {F : List Nat} (h : Own (.sl e) w B [.slice none n c] d F) : n = 0 ∧ c = 0 ∧ d = [] := by
  rcases h with ⟨h1, h2, _⟩ | ⟨g, cp, t, cur, Cs, Fs, h1, _⟩
  · simp only [List.cons.injEq, Value.slice.injEq, and_true, true_and] at h1
    exact ⟨h1.1, h1.2, List.eq_nil_of_length_eq_zero h2⟩
  · simp at h1

theorem own_block {e : Sh} {w : World} {B : Nat} {ad : Addr} {n c : Nat} {d : List e.D} {F : List Nat} (h : Own (.sl e) w B [.slice (some ad) n c] d F) : ∃ g, ad = ⟨g, 0, none⟩ ∧ B ≤ g ∧ g < w.heap.size ∧ g ∈ F := by
  rcases h with ⟨h1, h2, _⟩ | ⟨g, cp, t, cur, Cs, Fs, h1, h2, h3, _, _, _, _, _, _, h4, _⟩
  · simp at h1
  · simp only [List.cons.injEq, Value.slice.injEq, Option.some.injEq, and_true] at h1
    exact ⟨g, h1.1, h2, lt_heap h3, by rw [h4]; exact List.mem_cons_self⟩

/-- An element of a slice of the call's own. -/
theorem own_get {e : Sh} {w : World} {B : Nat} {a : Option Addr} {n cap : Nat} {d : List e.D} {F : List Nat} (h : Own (.sl e) w B [.slice a n cap] d F) (k : Nat) (hk : k < n) :
    ∃ g c x f, a = some ⟨g, 0, none⟩ ∧ g < w.heap.size ∧ e.at d k = some x ∧ Own e w B c x f ∧ (∀ y ∈ f, y ∈ F) ∧ ∀ j, j < e.size → w.cell? ⟨g, k * e.size + j, none⟩ = c[j]? := by
  rcases h with ⟨h1, h2, _⟩ | ⟨g, cp, t, cur, Cs, Fs, h1, hB, hh, hl, hm, hcs, h4, h5, h6, hFF, he⟩
  · simp only [List.cons.injEq, Value.slice.injEq, and_true] at h1
    omega
  · simp only [List.cons.injEq, Value.slice.injEq, and_true] at h1
    obtain ⟨rfl, hn, rfl⟩ := h1
    have hi : k < List.length d := by omega
    have hC : Cs[k]? = some Cs[k] := List.getElem?_eq_getElem (by omega)
    have hF : Fs[k]? = some Fs[k] := List.getElem?_eq_getElem (by omega)
    have hx : d[k]? = some d[k] := List.getElem?_eq_getElem hi
    have ho := he k _ _ _ hC hx hF
    have hall : ∀ (i : Nat) (c : List Value), Cs[i]? = some c → c.length = e.size := by
      intro i c hc
      have hil : i < Cs.length := (List.getElem?_eq_some_iff.1 hc).1
      have hid : i < List.length d := by omega
      exact e.ow_length (he i c (List.get d ⟨i, hid⟩) Fs[i] hc (List.getElem?_eq_getElem hid) (List.getElem?_eq_getElem (by omega)))
    refine ⟨g, Cs[k], d[k], Fs[k], rfl, lt_heap hh, hx, ho, fun y hy => by rw [hFF]; exact List.mem_cons_of_mem _ (List.mem_flatten.2 ⟨Fs[k], List.getElem_mem _, hy⟩), fun j hj => ?_⟩
    have hf := flatten_get hall hC hj
    have hlt : k * e.size + j < List.length d * e.size := by
      have : (k + 1) * e.size ≤ List.length d * e.size := Nat.mul_le_mul_right _ hi
      rw [Nat.add_mul] at this; omega
    rw [← h4, List.getElem?_take_of_lt hlt] at hf
    rw [← hf]
    simp [World.cell?, hh]

/-- The cells of a flat row, one behind the other. -/
theorem reads_flat (e : Sh) (cf : e.D → List Value) (h0 : 0 < e.size) (hcf : ∀ (w : World) (c : List Value) (x : e.D), Reads e w c x → c = cf x) {w : World} {ad : Addr} {n cap : Nat} {l : List e.D} (h : Reads (.sl e) w [.slice (some ad) n cap] l) :
    ∀ (j : Nat) (u : Value), (l.flatMap cf)[j]? = some u → w.cell? (ad.add j) = some u := by
  intro j u hu
  obtain ⟨a, cp, e1, hl, hm, h1⟩ := h
  simp only [List.cons.injEq, Value.slice.injEq, and_true] at e1
  obtain ⟨rfl, hn, rfl⟩ := e1
  rcases h1 with h1 | ⟨b, off, ha, hlt, hx⟩
  · have : l = [] := List.eq_nil_of_length_eq_zero h1
    subst this; simp at hu
  · obtain rfl : ad = ⟨b, off, none⟩ := Option.some.inj ha
    have hlen : ∀ x ∈ l, (cf x).length = e.size := by
      intro x hxm
      obtain ⟨i, hi, rfl⟩ := List.mem_iff_getElem.1 hxm
      obtain ⟨c, hc, _, hr⟩ := hx i l[i] (List.getElem?_eq_getElem hi)
      rw [← hcf _ _ _ hr, hc]
    rw [← flatMap_flatten] at hu
    have hall : ∀ (k : Nat) (d : List Value), (l.map cf)[k]? = some d → d.length = e.size := by
      intro k d hk
      rw [List.getElem?_map] at hk
      cases hlk : l[k]? with
      | none => rw [hlk] at hk; cases hk
      | some x =>
        rw [hlk] at hk
        obtain rfl : cf x = d := Option.some.inj hk
        exact hlen x (List.mem_of_getElem? hlk)
    have hj : j < l.length * e.size := by
      have h2 := (List.getElem?_eq_some_iff.1 hu).1
      rw [List.length_flatten] at h2
      have h3 : (l.map cf).map List.length = (l.map cf).map fun _ => e.size := List.map_congr_left fun d hd => by
        obtain ⟨x, hxm, rfl⟩ := List.mem_map.1 hd
        exact hlen x hxm
      rw [h3] at h2
      have h4 : ((l.map cf).map fun _ => e.size).sum = l.length * e.size := by rw [List.map_map]; clear h2 h3; induction l with
        | nil => simp
        | cons a t _ => simp [Function.comp_def, List.map_const', Nat.add_mul, Nat.add_comm]
      rw [h4] at h2
      exact h2
    have hdiv : j / e.size < l.length := (Nat.div_lt_iff_lt_mul h0).2 hj
    have hmod : j % e.size < e.size := Nat.mod_lt _ h0
    obtain ⟨c, hc, hcell, hr⟩ := hx (j / e.size) l[j / e.size] (List.getElem?_eq_getElem hdiv)
    have h5 : (l.map cf)[j / e.size]? = some c := by rw [List.getElem?_map, List.getElem?_eq_getElem hdiv, hcf _ _ _ hr]; rfl
    have h6 := flatten_get hall h5 hmod
    have h7 : j / e.size * e.size + j % e.size = j := Nat.div_add_mod' j e.size
    rw [h7, hu] at h6
    have h8 := hcell _ hmod
    rw [h7] at h8
    have e2 : (⟨b, off, none⟩ : Addr).add j = ⟨b, off + j, none⟩ := by cases j <;> simp [Addr.add]
    rw [e2, h8, ← h6]

end Go.Proofs.Ytelbkamgcnmokaa
