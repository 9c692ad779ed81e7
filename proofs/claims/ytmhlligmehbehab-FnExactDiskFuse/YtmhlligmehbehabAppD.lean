/-
  append of bytes to a new empty row ('append([]byte{}, b...)') as a step of a region that draws its order: what comes of it and where it lies.
-/
import Derived.Test.YtmhlligmehbehabGath
import Derived.Maps.AppendAt
namespace Go.Proofs.Ytmhlligmehbehab
open Go.RowKit
set_option linter.unusedVariables false

theorem wp_append_srcAt {P : Program} {w : World} {o : Oper} {a : Act} {K : Act → World → Prop} {Q : Exit → Act → World → Prop} (s x : Operand) (t : TypeId)
    (ho : o.op = .call { callee := .builtin .append, args := #[s, x], argTypes := #[t, t] })
    (base : Nat) (e : TypeId) (i : TypeInfo) (z : Value) (size bytes : Nat) (ht : P.underlying t = some (.slice e)) (hi : P.info? e = some i) (hz : i.zero = some z)
    (hsize : i.size = size) (hby : i.bytes = bytes) (hzs : z.cells.size = size) (hsz : 0 < size)
    (v : Value) (n : Nat) (xs : List Value) (hs : a.eval s = v) (hown : w.ownsRow base e size v n xs)
    (xv : Value) (m : Nat) (news : List Value) (hx : a.eval x = xv) (hl : news.length = m * size) (hsrc : Src w xv m news) (h1 : ∀ u ∈ news, u.oneCell' = true)
    (h63 : n + m ≤ maxLen) (hbytes : (n + m) * bytes ≤ 140737488355328) (hbase : base ≤ w.heap.size)
    (h : ∀ v' w', w'.ownsRow base e size v' (n + m) (xs ++ news) → w.grownBy w' v.ownBlock → (v'.ownBlock = v.ownBlock ∨ v'.ownBlock = some w.heap.size) → K (a.put o.dst v') w') : o.wp P a w K Q := by
  rcases hsrc with ⟨h2, rfl, rfl⟩ | ⟨ad, c, h2, h3⟩
  · have hrun := run_append_owned_none (P := P) (w := w) base t o.type e i size ht hi v n xs hown
    unfold Oper.wp execOp
    simp only [ho, resolve, invoke, builtin, Sem.run_bind, Sem.run_pure, Result.andThen_ok, List.map_toArray, List.map_cons, List.map_nil, hs, hx, h2, hrun]
    exact h v w (by simpa using hown) (World.grownBy.refl _ _) (.inl rfl)
  · obtain ⟨v', w', hr, k2, k3, _, k5⟩ := run_append_own_at (P := P) w base t o.type e i z size bytes ht hi hz hsize hby hzs hsz v n xs hown ad m c news hl h3 h1 h63 hbytes hbase
    unfold Oper.wp execOp
    simp only [ho, resolve, invoke, builtin, Sem.run_bind, Sem.run_pure, Result.andThen_ok, List.map_toArray, List.map_cons, List.map_nil, hs, hx, h2, hr]
    exact h v' w' k2 k3 k5

/-- 'append([]byte{}, b...)' where the empty row v lies in block g: the answer holds the bytes, in block g or in a new one. -/
theorem step_clone {w : World} {ops : Array Oper} {o : Oper} {a : Act} {K : Act → World → Prop} {Q : Exit → Act → World → Prop} {E : Prop} (hgd : o.guard = none) (s x : Operand)
    (ho : o.op = .call { callee := .builtin .append, args := #[s, x], argTypes := #[55, 55] })
    (base g : Nat) (hs : a.eval s = .slice (some ⟨g, 0, none⟩) 0 0) (hown : w.ownsRow base 5 1 (.slice (some ⟨g, 0, none⟩) 0 0) 0 [])
    (xv : Value) (zs : List Int) (hx : a.eval x = xv) (hsrc : Src w xv zs.length (zs.map (Value.int .u8))) (hz : ∀ i : Nat, 0 ≤ zs[i]?.getD 0 ∧ zs[i]?.getD 0 ≤ 255) (hlen : zs.length ≤ 1048576)
    (hbase : base ≤ w.heap.size)
    (h : ∀ v' w' F, Own (.sl .u8) w' base [v'] zs F → F.Nodup → (∀ y ∈ F, y = g ∨ y = w.heap.size) → w.grownBy w' (some g) → K (a.put o.dst v') w') :
    if Region.wanted o (yielded ops a.tmps) = true then Oper.wp Try.prog o a w K Q else E := by
  have hw : Region.wanted o (yielded ops a.tmps) = true := by simp [Region.wanted, hgd]
  rw [if_pos hw]
  obtain ⟨i0, hi, hz0, hz1, hz2⟩ := info_parts Try.infoB
  refine wp_append_srcAt s x 55 ho base 5 i0 (.int .u8 0) 1 1 Try.underlying55 hi hz0 hz1 hz2 rfl (by decide) _ 0 [] hs hown xv zs.length (zs.map (Value.int .u8)) hx (by simp) hsrc (bytes_one _) (by unfold maxLen; omega) (by omega) hbase ?_
  intro v' w' hown' hgr hat
  have hown2 : w'.ownsRow base 5 1 v' zs.length (zs.map (Value.int .u8)) := by simpa using hown'
  obtain ⟨F, hF, hnd⟩ := own_row rfl hz hown2
  have hFv : ∀ y ∈ F, v'.ownBlock = some y := by
    intro y hy
    rcases hown2.2 with ⟨hv, _⟩ | ⟨g', cap, cur, hv, _⟩
    · subst hv
      rcases hF with ⟨_, _, h3⟩ | ⟨g2, _, _, _, _, _, h3, _⟩
      · rw [h3] at hy; cases hy
      · simp at h3
    · subst hv
      rcases hF with ⟨h3, _⟩ | ⟨g2, cp, t, cur2, Cs, Fs, h3, _, _, _, _, _, _, _, h6, h7, he⟩
      · simp at h3
      · simp only [List.cons.injEq, Value.slice.injEq, Option.some.injEq, Addr.mk.injEq, and_true] at h3
        rw [h7] at hy
        rcases List.mem_cons.1 hy with rfl | hm
        · rw [h3.1]; rfl
        · obtain ⟨i, f, hi', hyf⟩ := mem_flatten_get hm
          exfalso
          have hil : i < Fs.length := (List.getElem?_eq_some_iff.1 hi').1
          have hil2 : i < zs.length := by have : Fs.length = zs.length := h6; omega
          have hC : ∃ c, Cs[i]? = some c := by
            rcases hc : Cs[i]? with _ | c
            · exfalso
              rename_i h5 _ _ _ _
              have : Cs.length ≤ i := by simpa using hc
              have h8 : Cs.length = zs.length := by assumption
              omega
            · exact ⟨c, rfl⟩
          obtain ⟨c, hc⟩ := hC
          have h9 : Own .u8 w' base c zs[i] f := he i c zs[i] f hc (List.getElem?_eq_getElem hil2) hi'
          have h10 : f = [] := h9.2
          rw [h10] at hyf; cases hyf
  refine h v' w' F hF hnd ?_ hgr
  intro y hy
  have h1 := hFv y hy
  rcases hat with h2 | h2
  · rw [h1] at h2; left; simpa [Value.ownBlock] using h2
  · rw [h1] at h2; right; simpa using h2

end Go.Proofs.Ytmhlligmehbehab
