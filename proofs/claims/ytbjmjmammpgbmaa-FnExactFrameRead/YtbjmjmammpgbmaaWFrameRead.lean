/-
  The law FnExactFrameRead over the contracts of its two functions.
-/
import Derived.Test.YtbjmjmammpgbmaaRfA
import Derived.Test.YtbjmjmammpgbmaaLFrameRead
namespace Go.Proofs.Ytbjmjmammpgbmaa
open Go.RowKit
set_option linter.unusedVariables false

theorem frAns_size (zs : List Int) (p : Int) : (frAns zs p).2.1.size ≤ zs.length := by
  unfold frAns
  have h0 : ByteArray.empty.size = 0 := rfl
  split
  · simp [h0]
  · split
    · simp [h0]
    · split
      · simp [h0]
      · split
        · simp [h0]
        · split
          · simp [h0]
          · split
            · rw [strOfNums_size]
              unfold cutL
              rw [List.length_take, List.length_drop]
              omega
            · simp [h0]

theorem cntV_EntryA (d : shEntry.D) (h : shEntry.sz d ≤ 1048576) : shEntry.cntV d ≤ 1000000000 := by
  have h1 := shEntry.cnt_le d
  have h2 := shEntry.cntV_le d
  have h3 : shEntry.wd = 2 := rfl
  rw [h3] at h1
  omega

theorem frameRead_law (v : Value) (zs : List Int) (p : Int) (w : World) (hr : Reads (.sl .u8) w [v] zs) (hp1 : -9223372036854775808 ≤ p) (hp2 : p ≤ 9223372036854775807) :
    Calls Try.prog 5 #[v, .int .i64 p] w fun e w' => e = .returned (.bool true) ∧ Below w.heap.size w w' := by
  by_cases hs : zs.length ≤ 1048576
  · have hsz := frAns_size zs p
    have hD : shEntry.sz ((frAns zs p).1, (frAns zs p).2.1, ()) ≤ 1048576 := Nat.le_trans (Nat.le_of_eq (sz_Entry _)) (Nat.le_trans hsz hs)
    have hml : (frAns zs p).2.1.size ≤ maxLen := by unfold maxLen; omega
    have hown : ∀ w B, Own shEntry w B [.int .i64 (frAns zs p).1, .string (frAns zs p).2.1] ((frAns zs p).1, (frAns zs p).2.1, ()) [] := fun w B => own_Entry (d := ((frAns zs p).1, (frAns zs p).2.1, ())) (hml : (frAns zs p).2.1.size ≤ maxLen)
    refine frameRead_over v zs p ((frAns zs p).1, (frAns zs p).2.1, ()) (frAns zs p).2.2.1 (frAns zs p).2.2.2 w hr hD (cntV_EntryA _ hD) (fun h => by rw [cnt_byteS]; omega) ?_ ?_
    · intro w' c G h _
      refine (rf_spec c zs p w' h.reads hs hp1 hp2).mono ?_
      rintro e w'' ⟨rfl, hb⟩
      exact ⟨_, rfl, (hown w'' 0).reads, hb⟩
    · intro w' c G h _
      refine (rf_impl c zs p w' h.reads hs hp1 hp2).mono ?_
      rintro e w'' ⟨rfl, hb⟩
      exact ⟨_, _, rfl, hown _ _, by simp, hb⟩
  · have h0 : shEntry.sz ((0 : Int), (⟨#[]⟩ : ByteArray), ()) ≤ 1048576 := Nat.le_trans (Nat.le_of_eq (sz_Entry _)) (Nat.zero_le _)
    exact frameRead_over v zs p ((0 : Int), (⟨#[]⟩ : ByteArray), ()) 0 0 w hr h0 (cntV_EntryA _ h0) (fun h => absurd h hs) (fun _ _ _ _ h => absurd h hs) (fun _ _ _ _ h => absurd h hs)

end Go.Proofs.Ytbjmjmammpgbmaa
