/-
  Parts of the road to VB, joined: TmT, SvQ0, AppZ.
-/
import Derived.Test.YthodinpflcbklaaDoorM24VB
import Derived.Test.YthodinpflcbklaaDoorM22VB
import Derived.Test.YthodinpflcbklaaDoorM23VB
open Go.Value renaming int → I,slice → Sz
open Go.IntKind renaming i64 → O
open List renaming setIfInBounds_toArray → lA,getElem_toArray → lB,getElem_cons_succ → lC,getElem_cons_zero → lD,set_cons_zero → lE,set_cons_succ → lF
set_option linter.unusedVariables false
set_option linter.unusedSimpArgs false
set_option maxHeartbeats 40000000
namespace Go.Proofs.YthodinpflcbklaaDoor
open Go.RowKit
set_option maxRecDepth 100000
theorem src_rdI{w:World}{a:Option Addr}{n c:Nat}{l:List Int}(h:RdI w a l)(hl:l.length=n)(h0:a=none→n=0∧c=0):Src w (Sz a n c) n (l.map (Value.int .i64)):=by
 cases a with
 | none =>
   obtain⟨rfl,rfl⟩:=h0 rfl
   exact .inl ⟨rfl,rfl,by rw[List.eq_nil_of_length_eq_zero hl];rfl⟩
 | some ad =>
   refine .inr ⟨ad,c,rfl,fun j u hu=>?_⟩
   rw[List.getElem?_map,Option.map_eq_some_iff] at hu
   obtain⟨x,hx,rfl⟩:=hu
   have hj:=(List.getElem?_eq_some_iff.1 hx).1
   rcases h with h | ⟨b,off,h1,h2,h3⟩
   · rw[h] at hj;simp at hj
   · obtain rfl:=Option.some.inj h1
     have h4:=h3 j hj
     rw[hx] at h4
     rw[Go.WideShapes.add_plain]
     exact h4
theorem src_rd{w:World}{a:Option Addr}{n c:Nat}{l:List Int}(h:Rd w a l)(hl:l.length=n)(h0:a=none→n=0∧c=0):Src w (Sz a n c) n (l.map (Value.int .u8)):=by
 cases a with
 | none =>
   obtain⟨rfl,rfl⟩:=h0 rfl
   exact .inl ⟨rfl,rfl,by rw[List.eq_nil_of_length_eq_zero hl];rfl⟩
 | some ad =>
   refine .inr ⟨ad,c,rfl,fun j u hu=>?_⟩
   rw[List.getElem?_map,Option.map_eq_some_iff] at hu
   obtain⟨x,hx,rfl⟩:=hu
   have hj:=(List.getElem?_eq_some_iff.1 hx).1
   rcases h.2 with h | ⟨b,off,h1,h2,h3⟩
   · rw[h] at hj;simp at hj
   · obtain rfl:=Option.some.inj h1
     have h4:=h3 j hj
     rw[hx] at h4
     rw[Go.WideShapes.add_plain]
     exact h4
theorem termOf_any(W H X Y st be:Int)(wr:Bool)(a2 a7 a8:Option Addr)(n c2 n7 c7 n8 c8:Nat)(zs al pl:List Int)(w:World)(hg:Reads (.sl .int) w [Sz a2 n c2] zs)(ha:Reads (.sl .int) w [Sz a7 n7 c7] al)(hp:Reads (.sl .u8) w [Sz a8 n8 c8] pl)(h07:a7=none→n7=0∧c7=0)(h08:a8=none→n8=0∧c8=0)(hn:n≤1048576)(hn7:n7≤1000)(hn8:n8≤1000)(hz:∀ i,i < n→-1≤at0 zs i∧at0 zs i≤1114111):
   Calls Tryd.prog 38 #[.agg #[I O W,I O H,Sz a2 n c2,I O X,I O Y,.bool wr,I O st,Sz a7 n7 c7,Sz a8 n8 c8,I O be]] w fun e w'=>∃ t p g av pv,e=.returned (.pointer (some ⟨t,0,none⟩))∧TermAt w' w.heap.size t p g n W H X Y wr (up (-32) zs) st av al pv pl be (fvOf t st)∧Below w.heap.size w w':=by
 obtain⟨i0,hi,hz0,hz1,hz2⟩:=info_parts Tryd.infoB
 obtain⟨W1,hW1⟩:∃ W1,W1=w.alloc (.cells #[I O W,I O H,Sz a2 n c2,I O X,I O Y,.bool wr,I O st,Sz a7 n7 c7,Sz a8 n8 c8,I O be] 31):=⟨_,rfl⟩
 have bW1:Below w.heap.size w W1:=by rw[hW1];exact(Below.refl _ _).alloc (Nat.le_refl _) _
 have zW1:W1.heap.size=w.heap.size+1:=by rw[hW1];simp
 have hV1:W1.heap[w.heap.size]?=some (.cells #[I O W,I O H,Sz a2 n c2,I O X,I O Y,.bool wr,I O st,Sz a7 n7 c7,Sz a8 n8 c8,I O be] 31 (0,0)):=by rw[hW1];exact heap_alloc_new w _
 have qs:Hid (∀ w',Below W1.heap.size W1 w'→Calls Tryd.prog 56 #[.agg #[I O W,I O H,Sz a2 n c2,I O X,I O Y,.bool wr]] w' fun e w''=>∃ p g,e=.returned (.pointer (some ⟨p,0,none⟩))∧SheetAt w'' w'.heap.size p g n W H X Y wr (up (-32) zs)∧Below w'.heap.size w' w''):=fun w' hb=>sheetOf_any W H X Y a2 n c2 wr zs w' (hg.later (bW1.trans (hb.mono bW1.size))) hn hz
 obtain⟨hla,hra,_,_⟩:=reads_ints ha
 obtain⟨hlp,hrp,_,_⟩:=reads_bytes hp
 have HSA:Hid (Src w (Sz a7 n7 c7) n7 (al.map (Value.int .i64))∧Src w (Sz a8 n8 c8) n8 (pl.map (Value.int .u8))∧al.length=n7∧pl.length=n8):=⟨src_rdI hra hla h07,src_rd hrp hlp h08,hla,hlp⟩
 have HB1:Hid (Below w.heap.size w W1∧W1.heap.size=w.heap.size+1∧W1.heap[w.heap.size]?=some (.cells #[I O W,I O H,Sz a2 n c2,I O X,I O Y,.bool wr,I O st,Sz a7 n7 c7,Sz a8 n8 c8,I O be] 31 (0,0))):=⟨bW1,zW1,hV1⟩
 have HW:Hid (W1=_):=hW1
 have hV1d:W1.drew.heap[w.heap.size]?=some (.cells #[I O W,I O H,Sz a2 n c2,I O X,I O Y,.bool wr,I O st,Sz a7 n7 c7,Sz a8 n8 c8,I O be] 31 (0,0)):=hV1
 clear hg ha hp hW1 bW1 zW1 hra hrp hla hlp h07 h08 hz
 go_enter Tryd.func38,Tryd.ntmps38
 go_wp2_with fail
 rw[← HW.out]
 refine wp_region_held_drew (S:=fun w'=>w'.heap[w.heap.size]?=some (.cells #[I O W,I O H,Sz a2 n c2,I O X,I O Y,.bool wr,I O st,Sz a7 n7 c7,Sz a8 n8 c8,I O be] 31 (0,0))) (by kernel_rfl) hV1d (fun hHeld=>?_)
 refine wpAnyH_take (i:=0) (v:=.pointer (some ⟨w.heap.size,0,none⟩)) rfl (by kernel_rfl) (by kernel_rfl) (by kernel_rfl) (fun _ _ _ h=>h) (Or.inl ⟨by kernel_rfl,?_⟩) (by assumption) ?_
 · intro w9 hSw;(try dsimp only at hSw);go_simp
 simp only[Act.put,lB,lC,lD,lA,lE,lF]
 refine wpAnyH_take (i:=1) (v:=.agg #[I O W,I O H,Sz a2 n c2,I O X,I O Y,.bool wr]) rfl (by kernel_rfl) (by kernel_rfl) (by kernel_rfl) (fun _ _ _ h=>h) (Or.inl ⟨by kernel_rfl,?_⟩) (by assumption) ?_
 · intro w9 hSw;(try dsimp only at hSw);have q:=hSw;have q0:w9.cell? ⟨w.heap.size,0,none⟩=some (I O W):=bxc q rfl;have q1:w9.cell? ⟨w.heap.size,1,none⟩=some (I O H):=bxc q rfl;have q2:w9.cell? ⟨w.heap.size,2,none⟩=some (Sz a2 n c2):=bxc q rfl;have q3:w9.cell? ⟨w.heap.size,3,none⟩=some (I O X):=bxc q rfl;have q4:w9.cell? ⟨w.heap.size,4,none⟩=some (I O Y):=bxc q rfl;have q5:w9.cell? ⟨w.heap.size,5,none⟩=some (.bool wr):=bxc q rfl;have q6:w9.cell? ⟨w.heap.size,6,none⟩=some (I O st):=bxc q rfl;have q7:w9.cell? ⟨w.heap.size,7,none⟩=some (Sz a7 n7 c7):=bxc q rfl;have q8:w9.cell? ⟨w.heap.size,8,none⟩=some (Sz a8 n8 c8):=bxc q rfl;have q9:w9.cell? ⟨w.heap.size,9,none⟩=some (I O be):=bxc q rfl;clear q;go_simp
 simp only[Act.put,lB,lC,lD,lA,lE,lF]
 refine wpAnyH_take (i:=3) (v:=.pointer (some ⟨w.heap.size,9,none⟩)) rfl (by kernel_rfl) (by kernel_rfl) (by kernel_rfl) (fun _ _ _ h=>h) (Or.inl ⟨by kernel_rfl,?_⟩) (by assumption) ?_
 · intro w9 hSw;(try dsimp only at hSw);go_simp
 simp only[Act.put,lB,lC,lD,lA,lE,lF]
 refine wpAnyH_take (i:=4) (v:=I O be) rfl (by kernel_rfl) (by kernel_rfl) (by kernel_rfl) (fun _ _ _ h=>h) (Or.inl ⟨by kernel_rfl,?_⟩) (by assumption) ?_
 · intro w9 hSw;(try dsimp only at hSw);have q:=hSw;have q0:w9.cell? ⟨w.heap.size,0,none⟩=some (I O W):=bxc q rfl;have q1:w9.cell? ⟨w.heap.size,1,none⟩=some (I O H):=bxc q rfl;have q2:w9.cell? ⟨w.heap.size,2,none⟩=some (Sz a2 n c2):=bxc q rfl;have q3:w9.cell? ⟨w.heap.size,3,none⟩=some (I O X):=bxc q rfl;have q4:w9.cell? ⟨w.heap.size,4,none⟩=some (I O Y):=bxc q rfl;have q5:w9.cell? ⟨w.heap.size,5,none⟩=some (.bool wr):=bxc q rfl;have q6:w9.cell? ⟨w.heap.size,6,none⟩=some (I O st):=bxc q rfl;have q7:w9.cell? ⟨w.heap.size,7,none⟩=some (Sz a7 n7 c7):=bxc q rfl;have q8:w9.cell? ⟨w.heap.size,8,none⟩=some (Sz a8 n8 c8):=bxc q rfl;have q9:w9.cell? ⟨w.heap.size,9,none⟩=some (I O be):=bxc q rfl;clear q;go_simp
 simp only[Act.put,lB,lC,lD,lA,lE,lF]
 refine wpAnyH_ready (rs:=[2]) (by kernel_rfl) (by simp) ?_
 refine AllReadyH.cons rfl (fun K hK=>?_) AllReadyH.nil
 go_simp
 refine(qs.out _ (Below.refl _ W1).drew).mono ?_
 rintro e w2 ⟨p,g,rfl,hs,hb2⟩
 have hb2':Below W1.heap.size W1 w2:=(Below.refl _ W1).drew.trans hb2
 have hV2:w2.heap[w.heap.size]?=_:=(hb2'.block _ (by rw[HB1.out.2.1];exact Nat.lt_succ_self _)).trans HB1.out.2.2
 go_wp2_with fail
 refine hK.out _ _ hV2 (fun hHeld2=>?_)
 clear hK
 refine wpAnyH_take (i:=5) (v:=.agg #[.pointer (some ⟨p,0,none⟩),I O 0,Sz none 0 0,Sz none 0 0,I O be,Value.nilFunc]) rfl (by kernel_rfl) (by kernel_rfl) (by kernel_rfl) (fun _ _ _ h=>h) (Or.inl ⟨by kernel_rfl,?_⟩) (by assumption) ?_
 · intro w9 hSw;(try dsimp only at hSw);go_simp
 simp only[Act.put,lB,lC,lD,lA,lE,lF]
 refine wpAnyH_ready (rs:=[6]) (by kernel_rfl) (by simp) ?_
 refine AllReadyH.cons rfl (fun K hK=>?_) AllReadyH.nil
 go_simp
 have hV3:(w2.alloc (.cells #[.pointer (some ⟨p,0,none⟩),I O 0,Sz none 0 0,Sz none 0 0,I O be,Value.nilFunc] 59)).heap[w.heap.size]?=_:=(heap_alloc_old _ _ (box_lt hV2)).trans hV2
 refine hK.out _ _ hV3 (fun hHeld6=>?_)
 clear hK
 refine wpAnyH_take (i:=7) (v:=.pointer (some ⟨w2.heap.size,0,none⟩)) rfl (by kernel_rfl) (by kernel_rfl) (by kernel_rfl) (fun _ _ _ h=>h) (Or.inl ⟨by kernel_rfl,?_⟩) (by assumption) ?_
 · intro w9 hSw;(try dsimp only at hSw);go_simp
 simp only[Act.put,lB,lC,lD,lA,lE,lF]
 refine wpAnyH_done (by kernel_rfl) ?_ _
 have hzz:=hb2'.size
 have hB1:=HB1.out.1
 have hz1s:=HB1.out.2.1
 have hsd:W1.drew.heap.size=W1.heap.size:=rfl
 have hs0:SheetAt w2 w.heap.size p g n W H X Y wr (up (-32) zs):=⟨hs.box,own_low hs.row (by omega),hs.len,by have:=hs.lo;omega,hs.ne⟩
 have hpl:=box_lt hs.box
 have hgl:=(hs.row.lt g rfl).2
 obtain⟨WT,hWT⟩:∃ W,W=w2.alloc (.cells #[.pointer (some ⟨p,0,none⟩),I O 0,Sz none 0 0,Sz none 0 0,I O be,Value.nilFunc] 59):=⟨_,rfl⟩
 have blT:Below w2.heap.size w2 WT:=by rw[hWT];exact(Below.refl _ _).alloc (Nat.le_refl _) _
 obtain⟨t,ht⟩:∃ t,t=w2.heap.size:=⟨_,rfl⟩
 have hbx:WT.heap[t]?=some (.cells #[.pointer (some ⟨p,0,none⟩),I O 0,Sz none 0 0,Sz none 0 0,I O be,Value.nilFunc] 59 (0,0)):=by rw[hWT,ht];exact heap_alloc_new w2 _
 have T0:TermAt WT w.heap.size t p g n W H X Y wr (up (-32) zs) 0 (Sz none 0 0) [] (Sz none 0 0) [] be Value.nilFunc:=
   ⟨hbx,hs0.later blT,World.ownsRow_nil _ _ 3 1,World.ownsRow_nil _ _ 5 1,by omega,by omega,by omega,fun k e=>by simp[Value.ownBlock] at e,fun k e=>by simp[Value.ownBlock] at e,fun k e=>by simp[Value.ownBlock] at e⟩
 have hVT:WT.heap[w.heap.size]?=some (.cells #[I O W,I O H,Sz a2 n c2,I O X,I O Y,.bool wr,I O st,Sz a7 n7 c7,Sz a8 n8 c8,I O be] 31 (0,0)):=(blT.block _ (box_lt hV2)).trans hV2
 have bWT:Below w.heap.size w WT:=(hB1.trans (hb2'.mono hB1.size)).trans (blT.mono (by omega))
 have hwt:w.heap.size < t:=by omega
 rw[← hWT,← ht]
 have HT0:Hid (TermAt WT w.heap.size t p g n W H X Y wr (up (-32) zs) 0 (Sz none 0 0) [] (Sz none 0 0) [] be Value.nilFunc∧Below w.heap.size w WT∧w.heap.size < t):=⟨T0,bWT,hwt⟩
 have hVTd:WT.drew.heap[w.heap.size]?=some (.cells #[I O W,I O H,Sz a2 n c2,I O X,I O Y,.bool wr,I O st,Sz a7 n7 c7,Sz a8 n8 c8,I O be] 31 (0,0)):=hVT
 have y2:WT.drew.cell? ⟨t,2,none⟩=some (Sz none 0 0):=bxc (j:=2) hbx rfl
 have hne:t≠w.heap.size:=by omega
 obtain⟨i1,ji,jz0,jz1,jz2⟩:=info_parts Tryd.infoI
 clear hs hs0 hpl hgl hWT blT ht hbx T0 hVT bWT hzz hB1 hz1s hsd hwt hb2 hb2' hV2 hHeld hHeld2 hHeld6 hV3 hV1d qs
 go_wp2_with fail
 refine wp_region_held_drew (S:=fun w'=>w'.heap[w.heap.size]?=some (.cells #[I O W,I O H,Sz a2 n c2,I O X,I O Y,.bool wr,I O st,Sz a7 n7 c7,Sz a8 n8 c8,I O be] 31 (0,0))) (by kernel_rfl) hVTd (fun hHeld=>?_)
 refine wpAnyH_take (i:=0) (v:=.pointer (some ⟨t,0,none⟩)) rfl (by kernel_rfl) (by kernel_rfl) (by kernel_rfl) (fun _ _ _ h=>h) (Or.inl ⟨by kernel_rfl,?_⟩) (by assumption) ?_
 · intro w9 hSw;(try dsimp only at hSw);go_simp
 simp only[Act.put,lB,lC,lD,lA,lE,lF]
 refine wpAnyH_take (i:=1) (v:=.pointer (some ⟨t,0,none⟩)) rfl (by kernel_rfl) (by kernel_rfl) (by kernel_rfl) (fun _ _ _ h=>h) (Or.inl ⟨by kernel_rfl,?_⟩) (by assumption) ?_
 · intro w9 hSw;(try dsimp only at hSw);go_simp
 simp only[Act.put,lB,lC,lD,lA,lE,lF]
 refine wpAnyH_take (i:=2) (v:=.pointer (some ⟨t,0,none⟩)) rfl (by kernel_rfl) (by kernel_rfl) (by kernel_rfl) (fun _ _ _ h=>h) (Or.inl ⟨by kernel_rfl,?_⟩) (by assumption) ?_
 · intro w9 hSw;(try dsimp only at hSw);go_simp
 simp only[Act.put,lB,lC,lD,lA,lE,lF]
 refine wpAnyH_take (i:=3) (v:=.pointer (some ⟨t,2,none⟩)) rfl (by kernel_rfl) (by kernel_rfl) (by kernel_rfl) (fun _ _ _ h=>h) (Or.inl ⟨by kernel_rfl,?_⟩) (by assumption) ?_
 · intro w9 hSw;(try dsimp only at hSw);go_simp
 simp only[Act.put,lB,lC,lD,lA,lE,lF]
 refine wpAnyH_take (i:=5) (v:=.pointer (some ⟨w.heap.size,7,none⟩)) rfl (by kernel_rfl) (by kernel_rfl) (by kernel_rfl) (fun _ _ _ h=>h) (Or.inl ⟨by kernel_rfl,?_⟩) (by assumption) ?_
 · intro w9 hSw;(try dsimp only at hSw);go_simp
 simp only[Act.put,lB,lC,lD,lA,lE,lF]
 refine wpAnyH_take (i:=6) (v:=Sz a7 n7 c7) rfl (by kernel_rfl) (by kernel_rfl) (by kernel_rfl) (fun _ _ _ h=>h) (Or.inl ⟨by kernel_rfl,?_⟩) (by assumption) ?_
 · intro w9 hSw;(try dsimp only at hSw);have q:=hSw;have q0:w9.cell? ⟨w.heap.size,0,none⟩=some (I O W):=bxc q rfl;have q1:w9.cell? ⟨w.heap.size,1,none⟩=some (I O H):=bxc q rfl;have q2:w9.cell? ⟨w.heap.size,2,none⟩=some (Sz a2 n c2):=bxc q rfl;have q3:w9.cell? ⟨w.heap.size,3,none⟩=some (I O X):=bxc q rfl;have q4:w9.cell? ⟨w.heap.size,4,none⟩=some (I O Y):=bxc q rfl;have q5:w9.cell? ⟨w.heap.size,5,none⟩=some (.bool wr):=bxc q rfl;have q6:w9.cell? ⟨w.heap.size,6,none⟩=some (I O st):=bxc q rfl;have q7:w9.cell? ⟨w.heap.size,7,none⟩=some (Sz a7 n7 c7):=bxc q rfl;have q8:w9.cell? ⟨w.heap.size,8,none⟩=some (Sz a8 n8 c8):=bxc q rfl;have q9:w9.cell? ⟨w.heap.size,9,none⟩=some (I O be):=bxc q rfl;clear q;go_simp
 simp only[Act.put,lB,lC,lD,lA,lE,lF]
 refine wpAnyH_ready (rs:=[4]) (by kernel_rfl) (by simp) ?_
 refine AllReadyH.cons rfl (fun K hK=>?_) AllReadyH.nil
 go_simp
 refine hK.out _ _ hVTd (fun hHeld4=>?_)
 clear hK
 refine wpAnyH_ready (rs:=[7]) (by kernel_rfl) (by simp) ?_
 refine AllReadyH.cons rfl (fun K hK=>?_) AllReadyH.nil
 have hsrc:=src_later HSA.out.1 (HT0.out.2.1.trans ((Below.refl _ WT).drew.mono HT0.out.2.1.size))
 refine step_append_src (by rfl) _ _ 22 (by rfl) WT.heap.size 3 i1 (I O 0) 1 8 Tryd.underlying22 ji jz0 jz1 jz2 rfl (by decide) (Sz none 0 0) 0 [] (by rfl) (World.ownsRow_nil _ _ _ _) (Sz a7 n7 c7) n7 (al.map (Value.int .i64)) (by rfl) (by rw[List.length_map,HSA.out.2.2.1];omega) hsrc (by intro u hu;simp at hu;obtain⟨x,_,rfl⟩:=hu;rfl) (by unfold maxLen;omega) (by omega) (Nat.le_refl _) ?_
 intro v7 wA oA gA
 rw[Nat.zero_add,List.nil_append] at oA
 obtain⟨aA,cA,hvA⟩:=own_formV oA
 subst hvA
 have gAd:(WT.drewN 1).grownBy wA none:=gA
 have hTd:=HT0.out.1.drewN 1
 have oL:wA.ownsRow w.heap.size 3 1 (Sz aA n7 cA) al.length (al.map (Value.int .i64)):=by
   have h9:=own_lower oA HT0.out.2.1.size
   rw[HSA.out.2.2.1]
   exact h9
 have hfr:∀ k,(Value.slice aA n7 cA).ownBlock=some k→WT.heap.size≤k:=fun k e=>(oA.lt k e).1
 have lt_t:=box_lt HT0.out.1.box
 have lt_p:=box_lt HT0.out.1.sheet.box
 have lt_g:=(HT0.out.1.sheet.row.lt g rfl).2
 have lt_a:=HT0.out.1.args.lt
 have TU:=hTd.put_args gAd (fun k e=>by cases e) oL (fun k e=>by have h8:=hfr k e;exact⟨by omega,by omega,by omega,by simp[Value.ownBlock]⟩)
 have hVA:wA.heap[w.heap.size]?=some (.cells #[I O W,I O H,Sz a2 n c2,I O X,I O Y,.bool wr,I O st,Sz a7 n7 c7,Sz a8 n8 c8,I O be] 31 (0,0)):=(gAd.block w.heap.size (box_lt hVTd) (fun e=>by cases e)).trans hVTd
 have hbA:wA.heap[t]?=_:=(gAd.block t lt_t (fun e=>by cases e)).trans HT0.out.1.box
 have yA:wA.cell? ⟨t,2,none⟩=some (Sz none 0 0):=bxc (j:=2) hbA rfl
 have fA:wA.frozen? ⟨t,2,none⟩=false:=box_frozen hbA
 have bA:Below w.heap.size w (wA.setCell ⟨t,2,none⟩ (Sz aA n7 cA)):=((HT0.out.2.1.trans ((Below.refl _ WT).drew.mono HT0.out.2.1.size)).grown gA HT0.out.2.1.size (fun k e=>by cases e)).setCell (p:=⟨t,2,none⟩) (Nat.le_of_lt HT0.out.2.2) _
 have hVB:(wA.setCell ⟨t,2,none⟩ (Sz aA n7 cA)).heap[w.heap.size]?=some (.cells #[I O W,I O H,Sz a2 n c2,I O X,I O Y,.bool wr,I O st,Sz a7 n7 c7,Sz a8 n8 c8,I O be] 31 (0,0)):=(box_other _ (fun e=>hne e.symm)).trans hVA
 simp only[Act.put,lA,lE,lF]
 refine hK.out _ _ hVA (fun hHeld7=>?_)
 clear hK
 refine wpAnyH_take (i:=8) (v:=.pointer (some ⟨t,0,none⟩)) rfl (by kernel_rfl) (by kernel_rfl) (by kernel_rfl) (fun _ _ _ h=>h) (Or.inl ⟨by kernel_rfl,?_⟩) (by assumption) ?_
 · intro w9 hSw;(try dsimp only at hSw);go_simp
 simp only[Act.put,lB,lC,lD,lA,lE,lF]
 refine wpAnyH_take (i:=9) (v:=.pointer (some ⟨t,2,none⟩)) rfl (by kernel_rfl) (by kernel_rfl) (by kernel_rfl) (fun _ _ _ h=>h) (Or.inl ⟨by kernel_rfl,?_⟩) (by assumption) ?_
 · intro w9 hSw;(try dsimp only at hSw);go_simp
 simp only[Act.put,lB,lC,lD,lA,lE,lF]
 refine wpAnyH_ready (rs:=[10]) (by kernel_rfl) (by simp) ?_
 refine AllReadyH.cons rfl (fun K hK=>?_) AllReadyH.nil
 go_simp
 refine hK.out _ _ hVB (fun hHeld10=>?_)
 clear hK
 refine wpAnyH_done (by kernel_rfl) ?_ _
 obtain⟨WU,hWU⟩:∃ W,W=wA.setCell ⟨t,2,none⟩ (Sz aA n7 cA):=⟨_,rfl⟩
 rw[← hWU]
 rw[← hWU] at TU bA hVB
 have HU:Hid (TermAt WU w.heap.size t p g n W H X Y wr (up (-32) zs) 0 (Sz aA n7 cA) al (Sz none 0 0) [] be Value.nilFunc∧Below w.heap.size w WU∧w.heap.size < t):=⟨TU,bA,HT0.out.2.2⟩
 have hVUd:WU.drew.heap[w.heap.size]?=some (.cells #[I O W,I O H,Sz a2 n c2,I O X,I O Y,.bool wr,I O st,Sz a7 n7 c7,Sz a8 n8 c8,I O be] 31 (0,0)):=hVB
 have y3:WU.drew.cell? ⟨t,3,none⟩=some (Sz none 0 0):=bxc (j:=3) TU.box rfl
 clear hsrc oA gA gAd hTd oL hfr lt_t lt_p lt_g lt_a TU hVA hbA yA fA bA hVB hWU y2 hVTd hHeld hHeld4 hHeld7 hHeld10
 go_wp2_with fail
 refine wp_region_held_drew (S:=fun w'=>w'.heap[w.heap.size]?=some (.cells #[I O W,I O H,Sz a2 n c2,I O X,I O Y,.bool wr,I O st,Sz a7 n7 c7,Sz a8 n8 c8,I O be] 31 (0,0))) (by kernel_rfl) hVUd (fun hHeld=>?_)
 refine wpAnyH_take (i:=0) (v:=.pointer (some ⟨t,0,none⟩)) rfl (by kernel_rfl) (by kernel_rfl) (by kernel_rfl) (fun _ _ _ h=>h) (Or.inl ⟨by kernel_rfl,?_⟩) (by assumption) ?_
 · intro w9 hSw;(try dsimp only at hSw);go_simp
 simp only[Act.put,lB,lC,lD,lA,lE,lF]
 refine wpAnyH_take (i:=1) (v:=.pointer (some ⟨t,0,none⟩)) rfl (by kernel_rfl) (by kernel_rfl) (by kernel_rfl) (fun _ _ _ h=>h) (Or.inl ⟨by kernel_rfl,?_⟩) (by assumption) ?_
 · intro w9 hSw;(try dsimp only at hSw);go_simp
 simp only[Act.put,lB,lC,lD,lA,lE,lF]
 refine wpAnyH_take (i:=2) (v:=.pointer (some ⟨t,0,none⟩)) rfl (by kernel_rfl) (by kernel_rfl) (by kernel_rfl) (fun _ _ _ h=>h) (Or.inl ⟨by kernel_rfl,?_⟩) (by assumption) ?_
 · intro w9 hSw;(try dsimp only at hSw);go_simp
 simp only[Act.put,lB,lC,lD,lA,lE,lF]
 refine wpAnyH_take (i:=3) (v:=.pointer (some ⟨t,3,none⟩)) rfl (by kernel_rfl) (by kernel_rfl) (by kernel_rfl) (fun _ _ _ h=>h) (Or.inl ⟨by kernel_rfl,?_⟩) (by assumption) ?_
 · intro w9 hSw;(try dsimp only at hSw);go_simp
 simp only[Act.put,lB,lC,lD,lA,lE,lF]
 refine wpAnyH_take (i:=5) (v:=.pointer (some ⟨w.heap.size,8,none⟩)) rfl (by kernel_rfl) (by kernel_rfl) (by kernel_rfl) (fun _ _ _ h=>h) (Or.inl ⟨by kernel_rfl,?_⟩) (by assumption) ?_
 · intro w9 hSw;(try dsimp only at hSw);go_simp
 simp only[Act.put,lB,lC,lD,lA,lE,lF]
 refine wpAnyH_take (i:=6) (v:=Sz a8 n8 c8) rfl (by kernel_rfl) (by kernel_rfl) (by kernel_rfl) (fun _ _ _ h=>h) (Or.inl ⟨by kernel_rfl,?_⟩) (by assumption) ?_
 · intro w9 hSw;(try dsimp only at hSw);have q:=hSw;have q0:w9.cell? ⟨w.heap.size,0,none⟩=some (I O W):=bxc q rfl;have q1:w9.cell? ⟨w.heap.size,1,none⟩=some (I O H):=bxc q rfl;have q2:w9.cell? ⟨w.heap.size,2,none⟩=some (Sz a2 n c2):=bxc q rfl;have q3:w9.cell? ⟨w.heap.size,3,none⟩=some (I O X):=bxc q rfl;have q4:w9.cell? ⟨w.heap.size,4,none⟩=some (I O Y):=bxc q rfl;have q5:w9.cell? ⟨w.heap.size,5,none⟩=some (.bool wr):=bxc q rfl;have q6:w9.cell? ⟨w.heap.size,6,none⟩=some (I O st):=bxc q rfl;have q7:w9.cell? ⟨w.heap.size,7,none⟩=some (Sz a7 n7 c7):=bxc q rfl;have q8:w9.cell? ⟨w.heap.size,8,none⟩=some (Sz a8 n8 c8):=bxc q rfl;have q9:w9.cell? ⟨w.heap.size,9,none⟩=some (I O be):=bxc q rfl;clear q;go_simp
 simp only[Act.put,lB,lC,lD,lA,lE,lF]
 refine wpAnyH_ready (rs:=[4]) (by kernel_rfl) (by simp) ?_
 refine AllReadyH.cons rfl (fun K hK=>?_) AllReadyH.nil
 go_simp
 refine hK.out _ _ hVUd (fun hHeld4=>?_)
 clear hK
 refine wpAnyH_ready (rs:=[7]) (by kernel_rfl) (by simp) ?_
 refine AllReadyH.cons rfl (fun K hK=>?_) AllReadyH.nil
 have hsrc:=src_later HSA.out.2.1 (HU.out.2.1.trans ((Below.refl _ WU).drew.mono HU.out.2.1.size))
 refine step_append_src (by rfl) _ _ 25 (by rfl) WU.heap.size 5 i0 (I .u8 0) 1 1 Tryd.underlying25 hi hz0 hz1 hz2 rfl (by decide) (Sz none 0 0) 0 [] (by rfl) (World.ownsRow_nil _ _ _ _) (Sz a8 n8 c8) n8 (pl.map (Value.int .u8)) (by rfl) (by rw[List.length_map,HSA.out.2.2.2];omega) hsrc (by intro u hu;simp at hu;obtain⟨x,_,rfl⟩:=hu;rfl) (by unfold maxLen;omega) (by omega) (Nat.le_refl _) ?_
 intro v8 wB oA gA
 rw[Nat.zero_add,List.nil_append] at oA
 obtain⟨aB,cB,hvA⟩:=own_formV oA
 subst hvA
 have gAd:(WU.drewN 1).grownBy wB none:=gA
 have hTd:=HU.out.1.drewN 1
 have oL:wB.ownsRow w.heap.size 5 1 (Sz aB n8 cB) pl.length (pl.map (Value.int .u8)):=by
   have h9:=own_lower oA HU.out.2.1.size
   rw[HSA.out.2.2.2]
   exact h9
 have hfr:∀ k,(Value.slice aB n8 cB).ownBlock=some k→WU.heap.size≤k:=fun k e=>(oA.lt k e).1
 have lt_t:=box_lt HU.out.1.box
 have lt_p:=box_lt HU.out.1.sheet.box
 have lt_g:=(HU.out.1.sheet.row.lt g rfl).2
 have lt_a:=HU.out.1.args.lt
 have TU:=hTd.put_part gAd (fun k e=>by cases e) oL (fun k e=>by have h8:=hfr k e;exact⟨by omega,by omega,by omega,fun e9=>by have:=lt_a _ e9;omega⟩)
 have hVA:wB.heap[w.heap.size]?=some (.cells #[I O W,I O H,Sz a2 n c2,I O X,I O Y,.bool wr,I O st,Sz a7 n7 c7,Sz a8 n8 c8,I O be] 31 (0,0)):=(gAd.block w.heap.size (box_lt hVUd) (fun e=>by cases e)).trans hVUd
 have hbA:wB.heap[t]?=_:=(gAd.block t lt_t (fun e=>by cases e)).trans HU.out.1.box
 have yA:wB.cell? ⟨t,3,none⟩=some (Sz none 0 0):=bxc (j:=3) hbA rfl
 have fA:wB.frozen? ⟨t,3,none⟩=false:=box_frozen hbA
 have bA:Below w.heap.size w (wB.setCell ⟨t,3,none⟩ (Sz aB n8 cB)):=((HU.out.2.1.trans ((Below.refl _ WU).drew.mono HU.out.2.1.size)).grown gA HU.out.2.1.size (fun k e=>by cases e)).setCell (p:=⟨t,3,none⟩) (Nat.le_of_lt HU.out.2.2) _
 have hVB:(wB.setCell ⟨t,3,none⟩ (Sz aB n8 cB)).heap[w.heap.size]?=some (.cells #[I O W,I O H,Sz a2 n c2,I O X,I O Y,.bool wr,I O st,Sz a7 n7 c7,Sz a8 n8 c8,I O be] 31 (0,0)):=(box_other _ (fun e=>hne e.symm)).trans hVA
 simp only[Act.put,lA,lE,lF]
 refine hK.out _ _ hVA (fun hHeld7=>?_)
 clear hK
 refine wpAnyH_take (i:=8) (v:=.pointer (some ⟨t,0,none⟩)) rfl (by kernel_rfl) (by kernel_rfl) (by kernel_rfl) (fun _ _ _ h=>h) (Or.inl ⟨by kernel_rfl,?_⟩) (by assumption) ?_
 · intro w9 hSw;(try dsimp only at hSw);go_simp
 simp only[Act.put,lB,lC,lD,lA,lE,lF]
 refine wpAnyH_take (i:=9) (v:=.pointer (some ⟨t,3,none⟩)) rfl (by kernel_rfl) (by kernel_rfl) (by kernel_rfl) (fun _ _ _ h=>h) (Or.inl ⟨by kernel_rfl,?_⟩) (by assumption) ?_
 · intro w9 hSw;(try dsimp only at hSw);go_simp
 simp only[Act.put,lB,lC,lD,lA,lE,lF]
 refine wpAnyH_ready (rs:=[10]) (by kernel_rfl) (by simp) ?_
 refine AllReadyH.cons rfl (fun K hK=>?_) AllReadyH.nil
 go_simp
 refine hK.out _ _ hVB (fun hHeld10=>?_)
 clear hK
 refine wpAnyH_done (by kernel_rfl) ?_ _
 obtain⟨WV,hWV⟩:∃ W,W=wB.setCell ⟨t,3,none⟩ (Sz aB n8 cB):=⟨_,rfl⟩
 rw[← hWV]
 rw[← hWV] at TU bA hVB
 have QE:Hid (Calls Tryd.prog 57 #[.pointer (some ⟨t,0,none⟩),I O st] WV fun e w'=>e=.returned (.tuple #[])∧TermAt w' w.heap.size t p g n W H X Y wr (up (-32) zs) st (Sz aA n7 cA) al (Sz aB n8 cB) pl be (fvOf t st)∧Kp w.heap.size WV w'):=enter_any w.heap.size t p g n W H X Y wr (up (-32) zs) 0 _ al _ pl be _ st WV TU
 have y6:WV.cell? ⟨w.heap.size,6,none⟩=some (I O st):=bxc hVB rfl
 have HV:Hid (Below w.heap.size w WV):=bA
 clear hsrc oA gA gAd hTd oL hfr lt_t lt_p lt_g lt_a TU hVA hbA yA fA bA hVB hWV y3 hVUd hHeld hHeld4 hHeld7 hHeld10
 go_wp2_with fail
 refine QE.out.mono ?_
 rintro e w5 ⟨rfl,hT5,hk5⟩
 have HH:Hid (_∧_):=⟨hT5,hk5 w HV.out⟩
 clear hT5 hk5
 go_wp2
 go_ret
 exact⟨t,p,g,_,_,rfl,HH.out.1,HH.out.2⟩
end Go.Proofs.YthodinpflcbklaaDoor
namespace Go.Proofs.YthodinpflcbklaaDoor
open Go.RowKit
set_option maxRecDepth 100000
theorem rowI_ownS{w:World}{B n:Nat}{v:Value}{d:List Int}(hl:d.length=n)(h:w.ownsRow B 3 1 v n (d.map (Value.int .i64))):∃ F,Own (.sl .int) w B [v] d F:=by
 rcases h.2 with ⟨h1,h2⟩ | ⟨g,cap,cur,hv,_⟩
 · refine⟨[],.inl ⟨by rw[h1],?_,rfl⟩⟩
   show d.length=0;omega
 · subst hv
   exact⟨[g],own_ints hl h⟩
theorem sact_any(W H X Y st be:Int)(wrp:Bool)(a a7 a8:Option Addr)(n c n7 c7 n8 c8:Nat)(zs al pl:List Int)(b:Int)(w:World)(hg:gokB (W,H,zs,X,Y,wrp,())=true)(h2:Reads (.sl .int) w [Sz a n c] zs)(h7:Reads (.sl .int) w [Sz a7 n7 c7] al)(h8:Reads (.sl .u8) w [Sz a8 n8 c8] pl)(hal:∀ i,0≤at0 al i∧at0 al i≤9999):
   Calls Tryd.prog 72 #[.agg #[I O W,I O H,Sz a n c,I O X,I O Y,.bool wrp,I O st,Sz a7 n7 c7,Sz a8 n8 c8,I O be],I O b] w fun e w'=>∃ o,e=.returned (.agg o.toArray)∧RK w w' o (((doD (W,H,zs,X,Y,wrp,()) al b,(0:Int),[],pl,be,()):TD)) (Sz a n c) (Sz a7 n7 c7) (Sz a8 n8 c8) zs al pl∧Below w.heap.size w w':=by
 by_cases k65:b=65
 · subst k65;exact sact_A W H X Y st be wrp a a7 a8 n c n7 c7 n8 c8 zs al pl w hg h2 h7 h8 hal
 by_cases k66:b=66
 · subst k66;exact sact_B W H X Y st be wrp a a7 a8 n c n7 c7 n8 c8 zs al pl w hg h2 h7 h8 hal
 by_cases k67:b=67
 · subst k67;exact sact_C W H X Y st be wrp a a7 a8 n c n7 c7 n8 c8 zs al pl w hg h2 h7 h8 hal
 by_cases k68:b=68
 · subst k68;exact sact_D W H X Y st be wrp a a7 a8 n c n7 c7 n8 c8 zs al pl w hg h2 h7 h8 hal
 by_cases k72:b=72
 · subst k72;exact sact_H W H X Y st be wrp a a7 a8 n c n7 c7 n8 c8 zs al pl w hg h2 h7 h8 hal
 by_cases k74:b=74
 · subst k74;exact sact_J W H X Y st be wrp a a7 a8 n c n7 c7 n8 c8 zs al pl w hg h2 h7 h8 hal
 by_cases k75:b=75
 · subst k75;exact sact_K W H X Y st be wrp a a7 a8 n c n7 c7 n8 c8 zs al pl w hg h2 h7 h8 hal
 exact sact_no W H X Y st be wrp a a7 a8 n c n7 c7 n8 c8 zs al pl b w hg h2 h7 h8 hal ⟨k65,k66,k67,k68,k72,k74,k75⟩
end Go.Proofs.YthodinpflcbklaaDoor
namespace Go.Proofs.YthodinpflcbklaaDoor
open Go.RowKit
theorem run_append_noneZ{P:Program}{w:World}(cc:Nat)(base:Nat)(t ty e:TypeId)(i:TypeInfo)(size:Nat)(ht:P.underlying t=some (.slice e))(hi:P.info? e=some i)
   (v:Value) (n:Nat) (xs:List Value) (hown:w.ownsRow base e size v n xs) :
   (Builtin.append_ #[t,t] ty #[v,Sz none 0 cc]).run P w=.ok v w:=by
 rcases hown.2 with ⟨rfl,rfl⟩ | ⟨g,cap,cur,rfl,_,_,hnc,_⟩
 · simp[Builtin.append_,run_underlying ht,sizeOf,typeInfo,hi,Builtin.lenOf,Builtin.firstCells]
 · simp[Builtin.append_,run_underlying ht,sizeOf,typeInfo,hi,Builtin.lenOf,Builtin.firstCells,hnc,storeCells]
def SrcZ(w:World)(x:Value)(m:Nat)(news:List Value):Prop:=
 (∃ c,x=Sz none 0 c∧m=0∧news=[])∨∃ ad c,x=Sz (some ad) m c∧∀ (j:Nat) (u:Value),news[j]?=some u→w.cell? (ad.add j)=some u
theorem wp_append_srcZ{P:Program}{w:World}{o:Oper}{a:Act}{K:Act→World→Prop}{Q:Exit→Act→World→Prop}(s x:Operand)(t:TypeId)
   (ho:o.op=.call { callee:=.builtin .append,args:=#[s,x],argTypes:=#[t,t] })
   (base:Nat) (e:TypeId) (i:TypeInfo) (z:Value) (size bytes:Nat) (ht:P.underlying t=some (.slice e)) (hi:P.info? e=some i) (hz:i.zero=some z)
   (hsize:i.size=size) (hby:i.bytes=bytes) (hzs:z.cells.size=size) (hsz:0 < size)
   (v:Value) (n:Nat) (xs:List Value) (hs:a.eval s=v) (hown:w.ownsRow base e size v n xs)
   (xv:Value) (m:Nat) (news:List Value) (hx:a.eval x=xv) (hl:news.length=m*size) (hsrc:SrcZ w xv m news) (h1:∀ u ∈ news,u.oneCell'=true)
   (h63:n+m≤maxLen) (hbytes:(n+m)*bytes≤140737488355328) (hbase:base≤w.heap.size)
   (h:∀ v' w',w'.ownsRow base e size v' (n+m) (xs++news)→w.grownBy w' v.ownBlock→K (a.put o.dst v') w'):o.wp P a w K Q:=by
 rcases hsrc with ⟨cc,h2,rfl,rfl⟩ | ⟨ad,c,h2,h3⟩
 · have hrun:=run_append_noneZ (P:=P) (w:=w) cc base t o.type e i size ht hi v n xs hown
   unfold Oper.wp execOp
   simp only[ho,resolve,invoke,builtin,Sem.run_bind,Sem.run_pure,Result.andThen_ok,List.map_toArray,List.map_cons,List.map_nil,hs,hx,h2,hrun]
   exact h v w (by simpa using hown) (World.grownBy.refl _ _)
 · exact wp_append_own w s x t ho base e i z size bytes ht hi hz hsize hby hzs hsz v n xs hs hown ad m c news (hx.trans h2) hl h3 h1 h63 hbytes hbase fun v' w' k1 k2 _=>h v' w' k1 k2
theorem wpList_append_srcZ{P:Program}{w:World}{ops:Array Oper}{rest:List Oper}{o:Oper}{a:Act}{Q:Exit→Act→World→Prop}(hgd:o.guard=none)(s x:Operand)(t:TypeId)
   (ho:o.op=.call { callee:=.builtin .append,args:=#[s,x],argTypes:=#[t,t] })
   (base:Nat) (e:TypeId) (i:TypeInfo) (z:Value) (size bytes:Nat) (ht:P.underlying t=some (.slice e)) (hi:P.info? e=some i) (hz:i.zero=some z)
   (hsize:i.size=size) (hby:i.bytes=bytes) (hzs:z.cells.size=size) (hsz:0 < size)
   (v:Value) (n:Nat) (xs:List Value) (hs:a.eval s=v) (hown:w.ownsRow base e size v n xs)
   (xv:Value) (m:Nat) (news:List Value) (hx:a.eval x=xv) (hl:news.length=m*size) (hsrc:SrcZ w xv m news) (h1:∀ u ∈ news,u.oneCell'=true)
   (h63:n+m≤maxLen) (hbytes:(n+m)*bytes≤140737488355328) (hbase:base≤w.heap.size)
   (h:∀ v' w',w'.ownsRow base e size v' (n+m) (xs++news)→w.grownBy w' v.ownBlock→wpList P ops Q rest (a.put o.dst v') w'):wpList P ops Q (o::rest) a w:=
 wpList_plain hgd fun _ hK=>wp_append_srcZ s x t ho base e i z size bytes ht hi hz hsize hby hzs hsz v n xs hs hown xv m news hx hl hsrc h1 h63 hbytes hbase fun v' w' h2 h3=>hK _ _ (h v' w' h2 h3)
theorem srcZ_later{w w':World}{x:Value}{m:Nat}{news:List Value}(h:SrcZ w x m news)(hb:Below w.heap.size w w'):SrcZ w' x m news:=by
 rcases h with h | ⟨ad,c,h1,h2⟩
 · exact .inl h
 · refine .inr ⟨ad,c,h1,fun j u hu=>?_⟩
   have h3:=h2 j u hu
   exact(hb.cell (World.block_lt_of_cell? w _ h3)).trans h3
theorem srcZ_of{w:World}{x:Value}{m:Nat}{news:List Value}(h:Src w x m news):SrcZ w x m news:=h.imp (fun h=>⟨0,h⟩) id
theorem srcZ_lit{w:World}{g c:Nat}{t:TypeId}{fz:Nat × Nat}{cs:List Value}(h:w.heap[g]?=some (.cells cs.toArray t fz)):SrcZ w (Sz (some ⟨g,0,none⟩) cs.length c) cs.length cs:=by
 refine .inr ⟨⟨g,0,none⟩,c,rfl,fun j u hu=>?_⟩
 rw[Go.WideShapes.add_plain,Nat.zero_add]
 simp[World.cell?,h,hu]
theorem srcZ_rdI{w:World}{a:Option Addr}{n c:Nat}{l:List Int}(h:RdI w a l)(hl:l.length=n):SrcZ w (Sz a n c) n (l.map (Value.int .i64)):=by
 cases a with
 | none =>
   have h0:l=[]:=by rcases h with h | ⟨b,off,h,_⟩;exact h;cases h
   subst h0
   simp at hl
   subst hl
   exact .inl ⟨c,rfl,rfl,rfl⟩
 | some ad=>exact srcZ_of (src_rdI h hl (fun e=>by cases e))
theorem srcZ_rd{w:World}{a:Option Addr}{n c:Nat}{l:List Int}(h:Rd w a l)(hl:l.length=n):SrcZ w (Sz a n c) n (l.map (Value.int .u8)):=by
 cases a with
 | none =>
   have h0:l=[]:=by rcases h.2 with h | ⟨b,off,h,_⟩;exact h;cases h
   subst h0
   simp at hl
   subst hl
   exact .inl ⟨c,rfl,rfl,rfl⟩
 | some ad=>exact srcZ_of (src_rd h hl (fun e=>by cases e))
end Go.Proofs.YthodinpflcbklaaDoor
