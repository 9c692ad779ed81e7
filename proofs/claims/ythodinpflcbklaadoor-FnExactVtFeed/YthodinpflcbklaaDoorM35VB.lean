/-
  Parts of the road to VB, joined: SvP6, SvP7, SvP, SvQ1.
-/
import Derived.Test.YthodinpflcbklaaDoorM26VB
import Derived.Test.YthodinpflcbklaaDoorM31VB
import Derived.Test.YthodinpflcbklaaDoorM32VB
import Derived.Test.YthodinpflcbklaaDoorM34VB
import Derived.Test.YthodinpflcbklaaDoorM21VB
import Derived.Test.YthodinpflcbklaaDoorM27VB
import Derived.Test.YthodinpflcbklaaDoorM25VB
open Go.Value renaming int → I,slice → Sz
open Go.IntKind renaming i64 → O
open List renaming setIfInBounds_toArray → lA,getElem_toArray → lB,getElem_cons_succ → lC,getElem_cons_zero → lD,set_cons_zero → lE,set_cons_succ → lF
set_option linter.unusedVariables false
set_option linter.unusedSimpArgs false
set_option maxHeartbeats 40000000
namespace Go.Proofs.YthodinpflcbklaaDoor
open Go.RowKit
set_option maxRecDepth 100000
theorem spl_hiB(W H X Y st be:Int)(wrp:Bool)(a a7 a8:Option Addr)(n c n7 c7 n8 c8:Nat)(zs al pl:List Int)(b:Int)(w:World)(hg:gokB (W,H,zs,X,Y,wrp,())=true)(h2:Reads (.sl .int) w [Sz a n c] zs)(h7:Reads (.sl .int) w [Sz a7 n7 c7] al)(h8:Reads (.sl .u8) w [Sz a8 n8 c8] pl)(hpl:pl.length≤3)(hbe:0≤be∧be≤1000000)(hb:128≤b∧b≤255)(hp:pl=[]∨rbgB pl=true)(hA:(rra (pl++[b]) 0).2≠(pl.length:Int)+1)(hr:rbgB (pl++[b])=true):
   Calls Tryd.prog 54 #[.agg #[I O W,I O H,Sz a n c,I O X,I O Y,.bool wrp,I O st,Sz a7 n7 c7,Sz a8 n8 c8,I O be],I O b] w fun e w'=>∃ o,e=.returned (.agg o.toArray)∧RK w w' o (plainT (((W,H,zs,X,Y,wrp,()),st,al,pl,be,()):TD) b) (Sz a n c) (Sz a7 n7 c7) (Sz a8 n8 c8) zs al pl∧Below w.heap.size w w':=by
 obtain⟨i1,ji,jz0,jz1,jz2⟩:=info_parts Tryd.infoB
 obtain⟨W2,hW2,bW2,zW2,hA2,hZ2,hG2,HBX⟩:=mpro2 W H X Y st be wrp a a7 a8 n c n7 c7 n8 c8 w
 have HB2:Hid (Below w.heap.size w W2∧W2.heap.size=w.heap.size+3):=⟨bW2,zW2⟩
 have HW:Hid (W2=_):=hW2
 have HR:Hid (Reads (.sl .int) w [Sz a n c] zs∧Reads (.sl .int) w [Sz a7 n7 c7] al):=⟨h2,h7⟩
 obtain⟨hl8,hr8,_,_⟩:=reads_bytes h8
 have HBY:Hid (∀ i,0≤bt pl i∧bt pl i≤255):=fun i=>hr8.1 i
 have HL:Hid (pl.length=n8):=hl8
 have HSR:Hid (SrcZ w (Sz a8 n8 c8) n8 (pl.map (Value.int .u8))):=srcZ_rd hr8 hl8
 obtain⟨WE,hWE⟩:∃ U,U=W2.alloc (.cells #[] 5):=⟨_,rfl⟩
 have bE:Below W2.heap.size W2 WE:=by rw[hWE];exact(Below.refl _ _).alloc (Nat.le_refl _) _
 have oE:WE.ownsRow W2.heap.size 5 1 (Sz (some ⟨w.heap.size+1+1+1,0,none⟩) 0 0) 0 []:=by
   have h9:=World.ownsRow_lit (base:=W2.heap.size) (e:=5) (size:=1) W2 #[] 0 (Nat.le_refl _) (Nat.zero_le _) rfl
   rw[zW2] at h9
   rw[hWE,zW2]
   exact h9
 have hn83:n8≤3:=by omega
 have HE0:Hid (Below W2.heap.size W2 WE∧WE.ownsRow W2.heap.size 5 1 (Sz (some ⟨w.heap.size+1+1+1,0,none⟩) 0 0) 0 []):=⟨bE,oE⟩
 have HWE:Hid (WE=_):=hWE
 have HRB:Hid (rbgB (pl++[b])=true):=hr
 obtain⟨q,hq⟩:∃ q,q=pl++[b]:=⟨_,rfl⟩
 have hqb:∀ x ∈ q,0≤x∧x≤255:=by rw[hq];exact byte_bt (app_bt HBY.out (by omega))
 have hql:q.length=n8+1:=by rw[hq];simp[hl8]
 obtain⟨R1,hR1⟩:∃ r,r=(rra q 0).1:=⟨_,rfl⟩
 obtain⟨R2,hR2⟩:∃ r,r=(rra q 0).2:=⟨_,rfl⟩
 have hA':R2≠(n8:Int)+1:=by rw[hR2,hq];rw[hl8] at hA;exact hA
 have dn:(R2==(n8:Int)+1)=false:=by simpa using hA'
 have dn2:(R2==((n8+1:Nat):Int))=false:=by rw[show ((n8+1:Nat):Int)=(n8:Int)+1 by omega];exact dn
 have d1:decide ((128:Int)≤b)=true:=decide_eq_true hb.1
 have wb:IntKind.u8.wrap b=b:=by simp[IntKind.wrap,IntKind.bits,IntKind.signed];omega
 have QR:Hid (∀ (w':World) (g cc:Nat),Rd w' (some ⟨g,0,none⟩) q→n8+1≤cc→cc≤maxLen→Calls Tryd.prog 70 #[Sz (some ⟨g,0,none⟩) (n8+1) cc,I O 0] w' fun e w''=>e=.returned (.tuple #[I O R1,I O R2])∧Below w'.heap.size w' w''):=fun w' g cc hr h5 h6=>by rw[hR1,hR2];exact specRrd_any _ _ _ q 0 w' hql hr (by omega) h5 h6
 have QB:Hid (∀ (w':World) (g cc:Nat),Rd w' (some ⟨g,0,none⟩) q→n8+1≤cc→cc≤maxLen→Calls Tryd.prog 53 #[Sz (some ⟨g,0,none⟩) (n8+1) cc] w' fun e w''=>e=.returned (.bool true)∧Below w'.heap.size w' w''):=fun w' g cc hr h5 h6=>by have h9:=specRbg_any _ _ _ q w' hql hr (by omega) h5 h6;rw[hq,HRB.out] at h9;exact h9
 have HQB:Hid (q=pl++[b]∧q.length=n8+1∧∀ x ∈ q,0≤x∧x≤255):=⟨hq,hql,hqb⟩
 have HE:Hid (plainT (((W,H,zs,X,Y,wrp,()),st,al,pl,be,()):TD) b=((W,H,zs,X,Y,wrp,()),st,al,pl++[b],be,())):=by
   show _=_
   have e2:=part_gaD HBY.out (b:=b) (by omega) hpl hp hA (W,H,zs,X,Y,wrp,())
   have e1:gaP pl b=pl++[b]:=by unfold gaP;rw[HRB.out];rfl
   unfold plainT
   rw[if_pos hb.1]
   show ((gaD (W,H,zs,X,Y,wrp,()) pl b,st,al,gaP pl b,be,()):TD)=_
   rw[e1,e2]
 clear hg h2 h7 h8 hpl hl8 hr8 hW2 bW2 zW2 hA2 hZ2 hG2 hWE bE oE hr hb hp hA hq hqb hql hR1 hR2 hA' hbe
 have y0:WE.cell? ⟨w.heap.size,0,none⟩=some (I O W):=bxc (HBX.out _ HE0.out.1).1 rfl
 have y1:WE.cell? ⟨w.heap.size,1,none⟩=some (I O H):=bxc (HBX.out _ HE0.out.1).1 rfl
 have y2:WE.cell? ⟨w.heap.size,2,none⟩=some (Sz a n c):=bxc (HBX.out _ HE0.out.1).1 rfl
 have y3:WE.cell? ⟨w.heap.size,3,none⟩=some (I O X):=bxc (HBX.out _ HE0.out.1).1 rfl
 have y4:WE.cell? ⟨w.heap.size,4,none⟩=some (I O Y):=bxc (HBX.out _ HE0.out.1).1 rfl
 have y5:WE.cell? ⟨w.heap.size,5,none⟩=some (.bool wrp):=bxc (HBX.out _ HE0.out.1).1 rfl
 have y6:WE.cell? ⟨w.heap.size,6,none⟩=some (I O st):=bxc (HBX.out _ HE0.out.1).1 rfl
 have y7:WE.cell? ⟨w.heap.size,7,none⟩=some (Sz a7 n7 c7):=bxc (HBX.out _ HE0.out.1).1 rfl
 have y8:WE.cell? ⟨w.heap.size,8,none⟩=some (Sz a8 n8 c8):=bxc (HBX.out _ HE0.out.1).1 rfl
 have y9:WE.cell? ⟨w.heap.size,9,none⟩=some (I O be):=bxc (HBX.out _ HE0.out.1).1 rfl
 have hsE:=srcZ_later HSR.out (HB2.out.1.trans (HE0.out.1.mono HB2.out.1.size))
 have oE:=HE0.out.2
 go_enter Tryd.func54,Tryd.ntmps54
 go_wp2_with (at_builtin;rw[← HW.out,← HWE.out];refine wpList_append_srcZ rfl _ _ 25 rfl W2.heap.size 5 i1 (I .u8 0) 1 1 Tryd.underlying25 ji jz0 jz1 jz2 rfl (by decide) _ 0 [] rfl oE (Sz a8 n8 c8) n8 (pl.map (Value.int .u8)) rfl ?c0 hsE ?c1 ?c3 ?c4 HE0.out.1.size ?_)
 case c0=>(rw[List.length_map,HL.out]) <;> omega
 case c1=>intro u hu;simp at hu;obtain⟨x,_,rfl⟩:=hu;rfl
 case c3=>unfold maxLen;omega
 case c4=>omega
 intro v7 wA oA gA
 (try rw[Nat.zero_add] at oA)
 (try rw[List.nil_append] at oA)
 obtain⟨aA,cA,hvA⟩:=own_formV oA
 subst hvA
 have kA:Below W2.heap.size W2 wA:=HE0.out.1.grown gA HE0.out.1.size (fun k e=>(oE.lt k e).1)
 clear oE gA hsE y0 y1 y2 y3 y4 y5 y6 y7 y8 y9
 have bl2:Below wA.heap.size wA (wA.alloc (.cells #[I .u8 (b)] 5)):=(Below.refl _ _).alloc (Nat.le_refl _) _
 have oA2:=own_later oA bl2
 have sB:SrcZ (wA.alloc (.cells #[I .u8 (b)] 5)) (Sz (some ⟨wA.heap.size,0,none⟩) 1 1) 1 [I .u8 (b)]:=srcZ_lit (cs:=[I .u8 (b)]) (heap_alloc_new wA _)
 have kA2:Below W2.heap.size W2 (wA.alloc (.cells #[I .u8 (b)] 5)):=kA.trans (bl2.mono kA.size)
 have y0:wA.cell? ⟨w.heap.size,0,none⟩=some (I O W):=bxc (HBX.out _ kA).1 rfl
 have y1:wA.cell? ⟨w.heap.size,1,none⟩=some (I O H):=bxc (HBX.out _ kA).1 rfl
 have y2:wA.cell? ⟨w.heap.size,2,none⟩=some (Sz a n c):=bxc (HBX.out _ kA).1 rfl
 have y3:wA.cell? ⟨w.heap.size,3,none⟩=some (I O X):=bxc (HBX.out _ kA).1 rfl
 have y4:wA.cell? ⟨w.heap.size,4,none⟩=some (I O Y):=bxc (HBX.out _ kA).1 rfl
 have y5:wA.cell? ⟨w.heap.size,5,none⟩=some (.bool wrp):=bxc (HBX.out _ kA).1 rfl
 have y6:wA.cell? ⟨w.heap.size,6,none⟩=some (I O st):=bxc (HBX.out _ kA).1 rfl
 have y7:wA.cell? ⟨w.heap.size,7,none⟩=some (Sz a7 n7 c7):=bxc (HBX.out _ kA).1 rfl
 have y8:wA.cell? ⟨w.heap.size,8,none⟩=some (Sz a8 n8 c8):=bxc (HBX.out _ kA).1 rfl
 have y9:wA.cell? ⟨w.heap.size,9,none⟩=some (I O be):=bxc (HBX.out _ kA).1 rfl
 go_wp2_with (at_builtin;refine wpList_append_srcZ rfl _ _ 25 rfl W2.heap.size 5 i1 (I .u8 0) 1 1 Tryd.underlying25 ji jz0 jz1 jz2 rfl (by decide) _ n8 (pl.map (Value.int .u8)) rfl oA2 (Sz (some ⟨wA.heap.size,0,none⟩) 1 1) 1 [I .u8 (b)] rfl rfl sB (by intro u hu;simp at hu;subst hu;rfl) (by unfold maxLen;omega) (by omega) kA2.size ?_)
 intro v8 wB oB gB
 obtain⟨gC,cB,hvB,_,_⟩:=own_form oB (by omega)
 subst hvB
 have kB:Below W2.heap.size W2 wB:=kA2.grown gB kA2.size (fun k e=>(oA2.lt k e).1)
 have oS:wB.ownsRow W2.heap.size 5 1 (Sz (some ⟨gC,0,none⟩) (n8+1) cB) (n8+1) ((pl++[b]).map (Value.int .u8)):=by rw[List.map_append];exact oB
 clear oA oA2 sB bl2 kA kA2 gB oB y0 y1 y2 y3 y4 y5 y6 y7 y8 y9
 have bB:=HB2.out.1.trans (kB.mono HB2.out.1.size)
 have hz:=HB2.out.2
 have hgC:=(oS.lt gC rfl).1
 obtain⟨hcB,hcM⟩:=own_caps oS
 rw[← HQB.out.1] at oS
 have i4:=HBX.out _ kB
 obtain⟨u8,hu8⟩:∃ U,U=wB.setCell ⟨w.heap.size,8,none⟩ (Sz none 0 0):=⟨_,rfl⟩
 have e8:Below w.heap.size w u8:=by rw[hu8];exact Below.setCell (p:=⟨w.heap.size,8,none⟩) bB (Nat.le_refl _) _
 have y8:W2.heap.size≤u8.heap.size:=by rw[hu8];exact Nat.le_trans kB.size (Below.setCell (p:=⟨w.heap.size,8,none⟩) (Below.refl w.heap.size wB) (Nat.le_refl _) _).size
 have o8:u8.ownsRow W2.heap.size 5 1 (Sz (some ⟨gC,0,none⟩) (n8+1) cB) (n8+1) (q.map (Value.int .u8)):=by rw[hu8];exact own_setT oS (by simp[Value.ownBlock];omega)
 have r8':Rd u8 (some ⟨gC,0,none⟩) q:=own_rd o8 HQB.out.2.2
 have hV0:u8.heap[w.heap.size]?=some (.cells #[I O W,I O H,Sz a n c,I O X,I O Y,.bool wrp,I O st,Sz a7 n7 c7,Sz none 0 0,I O be] 31 (0,0)):=by rw[hu8];exact box_set _ i4.1
 have hR0:u8.heap[w.heap.size+1]?=some (.cells #[I O 0,I O 0,Sz none 0 0,I O 0,I O 0,.bool false,I O 0,Sz none 0 0,Sz none 0 0,I O 0] 31 (0,0)):=by rw[hu8,box_other _ (by omega)];exact i4.2.1
 have hG0:u8.heap[w.heap.size+1+1]?=some (.cells #[I O W,I O H,Sz a n c,I O X,I O Y,.bool wrp] 29 (0,0)):=by rw[hu8,box_other _ (by omega)];exact i4.2.2
 have q0:wB.cell? ⟨w.heap.size,0,none⟩=some (I O W):=bxc i4.1 rfl
 have q1:wB.cell? ⟨w.heap.size,1,none⟩=some (I O H):=bxc i4.1 rfl
 have q2:wB.cell? ⟨w.heap.size,2,none⟩=some (Sz a n c):=bxc i4.1 rfl
 have q3:wB.cell? ⟨w.heap.size,3,none⟩=some (I O X):=bxc i4.1 rfl
 have q4:wB.cell? ⟨w.heap.size,4,none⟩=some (I O Y):=bxc i4.1 rfl
 have q5:wB.cell? ⟨w.heap.size,5,none⟩=some (.bool wrp):=bxc i4.1 rfl
 have q6:wB.cell? ⟨w.heap.size,6,none⟩=some (I O st):=bxc i4.1 rfl
 have q7:wB.cell? ⟨w.heap.size,7,none⟩=some (Sz a7 n7 c7):=bxc i4.1 rfl
 have q8:wB.cell? ⟨w.heap.size,8,none⟩=some (Sz a8 n8 c8):=bxc i4.1 rfl
 have q9:wB.cell? ⟨w.heap.size,9,none⟩=some (I O be):=bxc i4.1 rfl
 have f8:wB.frozen? ⟨w.heap.size,8,none⟩=false:=box_frozen i4.1
 have HW8:Hid (u8=_):=hu8
 clear i4 bB kB oS hu8
 go_wp2_with fail
 rw[← HW8.out]
 refine(QR.out _ _ _ r8' hcB hcM).mono ?_
 rintro e w8 ⟨rfl,hu4⟩
 clear q0 q1 q2 q3 q4 q5 q6 q7 q8 q9 f8
 have b8:=e8.trans (hu4.mono e8.size)
 have z8:W2.heap.size≤w8.heap.size:=Nat.le_trans y8 hu4.size
 have hV8:=(hu4.block _ (by omega)).trans hV0
 have hR8:=(hu4.block _ (by omega)).trans hR0
 have hG8:=(hu4.block _ (by omega)).trans hG0
 have o9:=own_later o8 hu4
 clear o8 r8' hV0 hR0 hG0 e8 y8 hu4
 have r9:Rd w8 (some ⟨gC,0,none⟩) q:=own_rd o9 HQB.out.2.2
 go_wp2_with fail
 refine(QB.out _ _ _ r9 hcB hcM).mono ?_
 rintro e w9 ⟨rfl,hu5⟩
 have b9:=b8.trans (hu5.mono b8.size)
 have hV9:=(hu5.block _ (by omega)).trans hV8
 have hR9:=(hu5.block _ (by omega)).trans hR8
 have oN:=own_later o9 hu5
 clear hV8 hR8 hG8 o9 r9 hu5 b8 hcB hcM
 have hVr:(w9.setCell ⟨w.heap.size,8,none⟩ (Sz (some ⟨gC,0,none⟩) (n8+1) cB)).heap[w.heap.size+1]?=some (.cells #[I O 0,I O 0,Sz none 0 0,I O 0,I O 0,.bool false,I O 0,Sz none 0 0,Sz none 0 0,I O 0] 31 (0,0)):=by rw[box_other _ (by omega)];exact hR9
 have HLD:(loadVar 31 ⟨w.heap.size+1,0,none⟩).run Tryd.prog ((w9.setCell ⟨w.heap.size,8,none⟩ (Sz (some ⟨gC,0,none⟩) (n8+1) cB)).setRow (w.heap.size+1) #[I O W,I O H,Sz a n c,I O X,I O Y,.bool wrp,I O st,Sz a7 n7 c7,Sz (some ⟨gC,0,none⟩) (n8+1) cB,I O be])=.ok (.agg #[I O W,I O H,Sz a n c,I O X,I O Y,.bool wrp,I O st,Sz a7 n7 c7,Sz (some ⟨gC,0,none⟩) (n8+1) cB,I O be]) ((w9.setCell ⟨w.heap.size,8,none⟩ (Sz (some ⟨gC,0,none⟩) (n8+1) cB)).setRow (w.heap.size+1) #[I O W,I O H,Sz a n c,I O X,I O Y,.bool wrp,I O st,Sz a7 n7 c7,Sz (some ⟨gC,0,none⟩) (n8+1) cB,I O be]):=run_loadVar_row _ _ _ _ _ _ _ (setRow_heap _ _ _ _ _ _ hVr) Tryd.underlying31 rfl (by kernel_rfl)
 have bF:Below w.heap.size w ((w9.setCell ⟨w.heap.size,8,none⟩ (Sz (some ⟨gC,0,none⟩) (n8+1) cB)).setRow (w.heap.size+1) #[I O W,I O H,Sz a n c,I O X,I O Y,.bool wrp,I O st,Sz a7 n7 c7,Sz (some ⟨gC,0,none⟩) (n8+1) cB,I O be]):=below_setRow (Below.setCell (p:=⟨w.heap.size,8,none⟩) b9 (Nat.le_refl _) _) (Nat.le_add_right _ 1) _
 have rN:∃ F,Own (.sl .u8) ((w9.setCell ⟨w.heap.size,8,none⟩ (Sz (some ⟨gC,0,none⟩) (n8+1) cB)).setRow (w.heap.size+1) #[I O W,I O H,Sz a n c,I O X,I O Y,.bool wrp,I O st,Sz a7 n7 c7,Sz (some ⟨gC,0,none⟩) (n8+1) cB,I O be]) W2.heap.size [Sz (some ⟨gC,0,none⟩) (n8+1) cB] (pl++[b]) F:=by
   obtain⟨F,hF,_⟩:=rowB_own HQB.out.2.1 (fun i=>bt_byte HQB.out.2.2 i) oN
   rw[HQB.out.1] at hF
   exact⟨F,hF.keep fun g hg=>by
     have:=(hF.lt g hg).1
     rw[setRow_other _ (w.heap.size+1) g _ (by omega),box_other _ (by omega)]⟩
 have f8:w9.frozen? ⟨w.heap.size,8,none⟩=false:=box_frozen hV9
 have q0:w9.cell? ⟨w.heap.size,0,none⟩=some (I O W):=bxc hV9 rfl
 have q1:w9.cell? ⟨w.heap.size,1,none⟩=some (I O H):=bxc hV9 rfl
 have q2:w9.cell? ⟨w.heap.size,2,none⟩=some (Sz a n c):=bxc hV9 rfl
 have q3:w9.cell? ⟨w.heap.size,3,none⟩=some (I O X):=bxc hV9 rfl
 have q4:w9.cell? ⟨w.heap.size,4,none⟩=some (I O Y):=bxc hV9 rfl
 have q5:w9.cell? ⟨w.heap.size,5,none⟩=some (.bool wrp):=bxc hV9 rfl
 have q6:w9.cell? ⟨w.heap.size,6,none⟩=some (I O st):=bxc hV9 rfl
 have q7:w9.cell? ⟨w.heap.size,7,none⟩=some (Sz a7 n7 c7):=bxc hV9 rfl
 have q8:w9.cell? ⟨w.heap.size,8,none⟩=some (Sz none 0 0):=bxc hV9 rfl
 have q9:w9.cell? ⟨w.heap.size,9,none⟩=some (I O be):=bxc hV9 rfl
 have HF:Hid (Below _ _ _∧_):=⟨bF,rN⟩
 clear bF rN hV9 hR9 oN b9
 go_wp2_with (refine wpList_store_row rfl _ _ _ rfl _ _ rfl rfl _ _ hVr (by kernel_rfl) rfl (by simp[Value.oneCell']) ?_)
 (try simp only[Exit.inBlock,Exit.then])
 refine bodyPost_ret (by simp[results,Tryd.results54,asAddr,Act.put,HLD];try rfl) rfl ?_
 refine⟨[I O W,I O H,Sz a n c,I O X,I O Y,.bool wrp,I O st,Sz a7 n7 c7,Sz (some ⟨gC,0,none⟩) (n8+1) cB,I O be],rfl,?_,HF.out.1⟩
 rw[HE.out]
 intro w'' hk r2 r7 r8
 obtain⟨F,hF⟩:=HF.out.2
 exact reads_Vt (d:=(((W,H,zs,X,Y,wrp,()),st,al,pl++[b],be,()):TD)) r2 r7 (own_read hF HB2.out.1.size hk)
end Go.Proofs.YthodinpflcbklaaDoor
namespace Go.Proofs.YthodinpflcbklaaDoor
open Go.RowKit
set_option maxRecDepth 100000
theorem spl_hiC(W H X Y st be:Int)(wrp:Bool)(a a7 a8:Option Addr)(n c n7 c7 n8 c8:Nat)(zs al pl:List Int)(b:Int)(w:World)(hg:gokB (W,H,zs,X,Y,wrp,())=true)(h2:Reads (.sl .int) w [Sz a n c] zs)(h7:Reads (.sl .int) w [Sz a7 n7 c7] al)(h8:Reads (.sl .u8) w [Sz a8 n8 c8] pl)(hpl:pl.length≤3)(hbe:0≤be∧be≤1000000)(hb:128≤b∧b≤255)(hp:pl=[]∨rbgB pl=true)(hA:(rra (pl++[b]) 0).2≠(pl.length:Int)+1)(hr:rbgB (pl++[b])=false):
   Calls Tryd.prog 54 #[.agg #[I O W,I O H,Sz a n c,I O X,I O Y,.bool wrp,I O st,Sz a7 n7 c7,Sz a8 n8 c8,I O be],I O b] w fun e w'=>∃ o,e=.returned (.agg o.toArray)∧RK w w' o (plainT (((W,H,zs,X,Y,wrp,()),st,al,pl,be,()):TD) b) (Sz a n c) (Sz a7 n7 c7) (Sz a8 n8 c8) zs al pl∧Below w.heap.size w w':=by
 obtain⟨i1,ji,jz0,jz1,jz2⟩:=info_parts Tryd.infoB
 obtain⟨W2,hW2,bW2,zW2,hA2,hZ2,hG2,HBX⟩:=mpro2 W H X Y st be wrp a a7 a8 n c n7 c7 n8 c8 w
 have HB2:Hid (Below w.heap.size w W2∧W2.heap.size=w.heap.size+3):=⟨bW2,zW2⟩
 have HW:Hid (W2=_):=hW2
 have HR:Hid (Reads (.sl .int) w [Sz a n c] zs∧Reads (.sl .int) w [Sz a7 n7 c7] al):=⟨h2,h7⟩
 obtain⟨hl8,hr8,_,_⟩:=reads_bytes h8
 have HBY:Hid (∀ i,0≤bt pl i∧bt pl i≤255):=fun i=>hr8.1 i
 have HL:Hid (pl.length=n8):=hl8
 have HSR:Hid (SrcZ w (Sz a8 n8 c8) n8 (pl.map (Value.int .u8))):=srcZ_rd hr8 hl8
 obtain⟨WE,hWE⟩:∃ U,U=W2.alloc (.cells #[] 5):=⟨_,rfl⟩
 have bE:Below W2.heap.size W2 WE:=by rw[hWE];exact(Below.refl _ _).alloc (Nat.le_refl _) _
 have oE:WE.ownsRow W2.heap.size 5 1 (Sz (some ⟨w.heap.size+1+1+1,0,none⟩) 0 0) 0 []:=by
   have h9:=World.ownsRow_lit (base:=W2.heap.size) (e:=5) (size:=1) W2 #[] 0 (Nat.le_refl _) (Nat.zero_le _) rfl
   rw[zW2] at h9
   rw[hWE,zW2]
   exact h9
 have hn83:n8≤3:=by omega
 have HE0:Hid (Below W2.heap.size W2 WE∧WE.ownsRow W2.heap.size 5 1 (Sz (some ⟨w.heap.size+1+1+1,0,none⟩) 0 0) 0 []):=⟨bE,oE⟩
 have HWE:Hid (WE=_):=hWE
 have HRB:Hid (rbgB (pl++[b])=false):=hr
 obtain⟨q,hq⟩:∃ q,q=pl++[b]:=⟨_,rfl⟩
 have hqb:∀ x ∈ q,0≤x∧x≤255:=by rw[hq];exact byte_bt (app_bt HBY.out (by omega))
 have hql:q.length=n8+1:=by rw[hq];simp[hl8]
 obtain⟨R1,hR1⟩:∃ r,r=(rra q 0).1:=⟨_,rfl⟩
 obtain⟨R2,hR2⟩:∃ r,r=(rra q 0).2:=⟨_,rfl⟩
 have hA':R2≠(n8:Int)+1:=by rw[hR2,hq];rw[hl8] at hA;exact hA
 have dn:(R2==(n8:Int)+1)=false:=by simpa using hA'
 have dn2:(R2==((n8+1:Nat):Int))=false:=by rw[show ((n8+1:Nat):Int)=(n8:Int)+1 by omega];exact dn
 have d1:decide ((128:Int)≤b)=true:=decide_eq_true hb.1
 have wb:IntKind.u8.wrap b=b:=by simp[IntKind.wrap,IntKind.bits,IntKind.signed];omega
 have QR:Hid (∀ (w':World) (g cc:Nat),Rd w' (some ⟨g,0,none⟩) q→n8+1≤cc→cc≤maxLen→Calls Tryd.prog 70 #[Sz (some ⟨g,0,none⟩) (n8+1) cc,I O 0] w' fun e w''=>e=.returned (.tuple #[I O R1,I O R2])∧Below w'.heap.size w' w''):=fun w' g cc hr h5 h6=>by rw[hR1,hR2];exact specRrd_any _ _ _ q 0 w' hql hr (by omega) h5 h6
 have QB:Hid (∀ (w':World) (g cc:Nat),Rd w' (some ⟨g,0,none⟩) q→n8+1≤cc→cc≤maxLen→Calls Tryd.prog 53 #[Sz (some ⟨g,0,none⟩) (n8+1) cc] w' fun e w''=>e=.returned (.bool false)∧Below w'.heap.size w' w''):=fun w' g cc hr h5 h6=>by have h9:=specRbg_any _ _ _ q w' hql hr (by omega) h5 h6;rw[hq,HRB.out] at h9;exact h9
 have HQB:Hid (q=pl++[b]∧q.length=n8+1∧∀ x ∈ q,0≤x∧x≤255):=⟨hq,hql,hqb⟩
 have HE:Hid (plainT (((W,H,zs,X,Y,wrp,()),st,al,pl,be,()):TD) b=((W,H,zs,X,Y,wrp,()),st,al,[],be,())):=by
   show _=_
   have e2:=part_gaD HBY.out (b:=b) (by omega) hpl hp hA (W,H,zs,X,Y,wrp,())
   have e1:gaP pl b=[]:=by unfold gaP;rw[HRB.out];rfl
   unfold plainT
   rw[if_pos hb.1]
   show ((gaD (W,H,zs,X,Y,wrp,()) pl b,st,al,gaP pl b,be,()):TD)=_
   rw[e1,e2]
 clear hg h2 h7 h8 hpl hl8 hr8 hW2 bW2 zW2 hA2 hZ2 hG2 hWE bE oE hr hb hp hA hq hqb hql hR1 hR2 hA' hbe
 have y0:WE.cell? ⟨w.heap.size,0,none⟩=some (I O W):=bxc (HBX.out _ HE0.out.1).1 rfl
 have y1:WE.cell? ⟨w.heap.size,1,none⟩=some (I O H):=bxc (HBX.out _ HE0.out.1).1 rfl
 have y2:WE.cell? ⟨w.heap.size,2,none⟩=some (Sz a n c):=bxc (HBX.out _ HE0.out.1).1 rfl
 have y3:WE.cell? ⟨w.heap.size,3,none⟩=some (I O X):=bxc (HBX.out _ HE0.out.1).1 rfl
 have y4:WE.cell? ⟨w.heap.size,4,none⟩=some (I O Y):=bxc (HBX.out _ HE0.out.1).1 rfl
 have y5:WE.cell? ⟨w.heap.size,5,none⟩=some (.bool wrp):=bxc (HBX.out _ HE0.out.1).1 rfl
 have y6:WE.cell? ⟨w.heap.size,6,none⟩=some (I O st):=bxc (HBX.out _ HE0.out.1).1 rfl
 have y7:WE.cell? ⟨w.heap.size,7,none⟩=some (Sz a7 n7 c7):=bxc (HBX.out _ HE0.out.1).1 rfl
 have y8:WE.cell? ⟨w.heap.size,8,none⟩=some (Sz a8 n8 c8):=bxc (HBX.out _ HE0.out.1).1 rfl
 have y9:WE.cell? ⟨w.heap.size,9,none⟩=some (I O be):=bxc (HBX.out _ HE0.out.1).1 rfl
 have hsE:=srcZ_later HSR.out (HB2.out.1.trans (HE0.out.1.mono HB2.out.1.size))
 have oE:=HE0.out.2
 go_enter Tryd.func54,Tryd.ntmps54
 go_wp2_with (at_builtin;rw[← HW.out,← HWE.out];refine wpList_append_srcZ rfl _ _ 25 rfl W2.heap.size 5 i1 (I .u8 0) 1 1 Tryd.underlying25 ji jz0 jz1 jz2 rfl (by decide) _ 0 [] rfl oE (Sz a8 n8 c8) n8 (pl.map (Value.int .u8)) rfl ?c0 hsE ?c1 ?c3 ?c4 HE0.out.1.size ?_)
 case c0=>(rw[List.length_map,HL.out]) <;> omega
 case c1=>intro u hu;simp at hu;obtain⟨x,_,rfl⟩:=hu;rfl
 case c3=>unfold maxLen;omega
 case c4=>omega
 intro v7 wA oA gA
 (try rw[Nat.zero_add] at oA)
 (try rw[List.nil_append] at oA)
 obtain⟨aA,cA,hvA⟩:=own_formV oA
 subst hvA
 have kA:Below W2.heap.size W2 wA:=HE0.out.1.grown gA HE0.out.1.size (fun k e=>(oE.lt k e).1)
 clear oE gA hsE y0 y1 y2 y3 y4 y5 y6 y7 y8 y9
 have bl2:Below wA.heap.size wA (wA.alloc (.cells #[I .u8 (b)] 5)):=(Below.refl _ _).alloc (Nat.le_refl _) _
 have oA2:=own_later oA bl2
 have sB:SrcZ (wA.alloc (.cells #[I .u8 (b)] 5)) (Sz (some ⟨wA.heap.size,0,none⟩) 1 1) 1 [I .u8 (b)]:=srcZ_lit (cs:=[I .u8 (b)]) (heap_alloc_new wA _)
 have kA2:Below W2.heap.size W2 (wA.alloc (.cells #[I .u8 (b)] 5)):=kA.trans (bl2.mono kA.size)
 have y0:wA.cell? ⟨w.heap.size,0,none⟩=some (I O W):=bxc (HBX.out _ kA).1 rfl
 have y1:wA.cell? ⟨w.heap.size,1,none⟩=some (I O H):=bxc (HBX.out _ kA).1 rfl
 have y2:wA.cell? ⟨w.heap.size,2,none⟩=some (Sz a n c):=bxc (HBX.out _ kA).1 rfl
 have y3:wA.cell? ⟨w.heap.size,3,none⟩=some (I O X):=bxc (HBX.out _ kA).1 rfl
 have y4:wA.cell? ⟨w.heap.size,4,none⟩=some (I O Y):=bxc (HBX.out _ kA).1 rfl
 have y5:wA.cell? ⟨w.heap.size,5,none⟩=some (.bool wrp):=bxc (HBX.out _ kA).1 rfl
 have y6:wA.cell? ⟨w.heap.size,6,none⟩=some (I O st):=bxc (HBX.out _ kA).1 rfl
 have y7:wA.cell? ⟨w.heap.size,7,none⟩=some (Sz a7 n7 c7):=bxc (HBX.out _ kA).1 rfl
 have y8:wA.cell? ⟨w.heap.size,8,none⟩=some (Sz a8 n8 c8):=bxc (HBX.out _ kA).1 rfl
 have y9:wA.cell? ⟨w.heap.size,9,none⟩=some (I O be):=bxc (HBX.out _ kA).1 rfl
 go_wp2_with (at_builtin;refine wpList_append_srcZ rfl _ _ 25 rfl W2.heap.size 5 i1 (I .u8 0) 1 1 Tryd.underlying25 ji jz0 jz1 jz2 rfl (by decide) _ n8 (pl.map (Value.int .u8)) rfl oA2 (Sz (some ⟨wA.heap.size,0,none⟩) 1 1) 1 [I .u8 (b)] rfl rfl sB (by intro u hu;simp at hu;subst hu;rfl) (by unfold maxLen;omega) (by omega) kA2.size ?_)
 intro v8 wB oB gB
 obtain⟨gC,cB,hvB,_,_⟩:=own_form oB (by omega)
 subst hvB
 have kB:Below W2.heap.size W2 wB:=kA2.grown gB kA2.size (fun k e=>(oA2.lt k e).1)
 have oS:wB.ownsRow W2.heap.size 5 1 (Sz (some ⟨gC,0,none⟩) (n8+1) cB) (n8+1) ((pl++[b]).map (Value.int .u8)):=by rw[List.map_append];exact oB
 clear oA oA2 sB bl2 kA kA2 gB oB y0 y1 y2 y3 y4 y5 y6 y7 y8 y9
 have bB:=HB2.out.1.trans (kB.mono HB2.out.1.size)
 have hz:=HB2.out.2
 have hgC:=(oS.lt gC rfl).1
 obtain⟨hcB,hcM⟩:=own_caps oS
 rw[← HQB.out.1] at oS
 have i4:=HBX.out _ kB
 obtain⟨u8,hu8⟩:∃ U,U=wB.setCell ⟨w.heap.size,8,none⟩ (Sz none 0 0):=⟨_,rfl⟩
 have e8:Below w.heap.size w u8:=by rw[hu8];exact Below.setCell (p:=⟨w.heap.size,8,none⟩) bB (Nat.le_refl _) _
 have y8:W2.heap.size≤u8.heap.size:=by rw[hu8];exact Nat.le_trans kB.size (Below.setCell (p:=⟨w.heap.size,8,none⟩) (Below.refl w.heap.size wB) (Nat.le_refl _) _).size
 have o8:u8.ownsRow W2.heap.size 5 1 (Sz (some ⟨gC,0,none⟩) (n8+1) cB) (n8+1) (q.map (Value.int .u8)):=by rw[hu8];exact own_setT oS (by simp[Value.ownBlock];omega)
 have r8':Rd u8 (some ⟨gC,0,none⟩) q:=own_rd o8 HQB.out.2.2
 have hV0:u8.heap[w.heap.size]?=some (.cells #[I O W,I O H,Sz a n c,I O X,I O Y,.bool wrp,I O st,Sz a7 n7 c7,Sz none 0 0,I O be] 31 (0,0)):=by rw[hu8];exact box_set _ i4.1
 have hR0:u8.heap[w.heap.size+1]?=some (.cells #[I O 0,I O 0,Sz none 0 0,I O 0,I O 0,.bool false,I O 0,Sz none 0 0,Sz none 0 0,I O 0] 31 (0,0)):=by rw[hu8,box_other _ (by omega)];exact i4.2.1
 have hG0:u8.heap[w.heap.size+1+1]?=some (.cells #[I O W,I O H,Sz a n c,I O X,I O Y,.bool wrp] 29 (0,0)):=by rw[hu8,box_other _ (by omega)];exact i4.2.2
 have q0:wB.cell? ⟨w.heap.size,0,none⟩=some (I O W):=bxc i4.1 rfl
 have q1:wB.cell? ⟨w.heap.size,1,none⟩=some (I O H):=bxc i4.1 rfl
 have q2:wB.cell? ⟨w.heap.size,2,none⟩=some (Sz a n c):=bxc i4.1 rfl
 have q3:wB.cell? ⟨w.heap.size,3,none⟩=some (I O X):=bxc i4.1 rfl
 have q4:wB.cell? ⟨w.heap.size,4,none⟩=some (I O Y):=bxc i4.1 rfl
 have q5:wB.cell? ⟨w.heap.size,5,none⟩=some (.bool wrp):=bxc i4.1 rfl
 have q6:wB.cell? ⟨w.heap.size,6,none⟩=some (I O st):=bxc i4.1 rfl
 have q7:wB.cell? ⟨w.heap.size,7,none⟩=some (Sz a7 n7 c7):=bxc i4.1 rfl
 have q8:wB.cell? ⟨w.heap.size,8,none⟩=some (Sz a8 n8 c8):=bxc i4.1 rfl
 have q9:wB.cell? ⟨w.heap.size,9,none⟩=some (I O be):=bxc i4.1 rfl
 have f8:wB.frozen? ⟨w.heap.size,8,none⟩=false:=box_frozen i4.1
 have HW8:Hid (u8=_):=hu8
 clear i4 bB kB oS hu8
 go_wp2_with fail
 rw[← HW8.out]
 refine(QR.out _ _ _ r8' hcB hcM).mono ?_
 rintro e w8 ⟨rfl,hu4⟩
 clear q0 q1 q2 q3 q4 q5 q6 q7 q8 q9 f8
 have b8:=e8.trans (hu4.mono e8.size)
 have z8:W2.heap.size≤w8.heap.size:=Nat.le_trans y8 hu4.size
 have hV8:=(hu4.block _ (by omega)).trans hV0
 have hR8:=(hu4.block _ (by omega)).trans hR0
 have hG8:=(hu4.block _ (by omega)).trans hG0
 have o9:=own_later o8 hu4
 clear o8 r8' hV0 hR0 hG0 e8 y8 hu4
 have r9:Rd w8 (some ⟨gC,0,none⟩) q:=own_rd o9 HQB.out.2.2
 go_wp2_with fail
 refine(QB.out _ _ _ r9 hcB hcM).mono ?_
 rintro e w9 ⟨rfl,hu5⟩
 have b9:=b8.trans (hu5.mono b8.size)
 have hV9:=(hu5.block _ (by omega)).trans hV8
 have hR9:=(hu5.block _ (by omega)).trans hR8
 have oN:=own_later o9 hu5
 clear hV8 hR8 hG8 o9 r9 hu5 b8 hcB hcM
 have hVr:w9.heap[w.heap.size+1]?=some (.cells #[I O 0,I O 0,Sz none 0 0,I O 0,I O 0,.bool false,I O 0,Sz none 0 0,Sz none 0 0,I O 0] 31 (0,0)):=by exact hR9
 have HLD:(loadVar 31 ⟨w.heap.size+1,0,none⟩).run Tryd.prog (w9.setRow (w.heap.size+1) #[I O W,I O H,Sz a n c,I O X,I O Y,.bool wrp,I O st,Sz a7 n7 c7,Sz none 0 0,I O be])=.ok (.agg #[I O W,I O H,Sz a n c,I O X,I O Y,.bool wrp,I O st,Sz a7 n7 c7,Sz none 0 0,I O be]) (w9.setRow (w.heap.size+1) #[I O W,I O H,Sz a n c,I O X,I O Y,.bool wrp,I O st,Sz a7 n7 c7,Sz none 0 0,I O be]):=run_loadVar_row _ _ _ _ _ _ _ (setRow_heap _ _ _ _ _ _ hVr) Tryd.underlying31 rfl (by kernel_rfl)
 have bF:Below w.heap.size w (w9.setRow (w.heap.size+1) #[I O W,I O H,Sz a n c,I O X,I O Y,.bool wrp,I O st,Sz a7 n7 c7,Sz none 0 0,I O be]):=below_setRow b9 (Nat.le_add_right _ 1) _
 have q0:w9.cell? ⟨w.heap.size,0,none⟩=some (I O W):=bxc hV9 rfl
 have q1:w9.cell? ⟨w.heap.size,1,none⟩=some (I O H):=bxc hV9 rfl
 have q2:w9.cell? ⟨w.heap.size,2,none⟩=some (Sz a n c):=bxc hV9 rfl
 have q3:w9.cell? ⟨w.heap.size,3,none⟩=some (I O X):=bxc hV9 rfl
 have q4:w9.cell? ⟨w.heap.size,4,none⟩=some (I O Y):=bxc hV9 rfl
 have q5:w9.cell? ⟨w.heap.size,5,none⟩=some (.bool wrp):=bxc hV9 rfl
 have q6:w9.cell? ⟨w.heap.size,6,none⟩=some (I O st):=bxc hV9 rfl
 have q7:w9.cell? ⟨w.heap.size,7,none⟩=some (Sz a7 n7 c7):=bxc hV9 rfl
 have q8:w9.cell? ⟨w.heap.size,8,none⟩=some (Sz none 0 0):=bxc hV9 rfl
 have q9:w9.cell? ⟨w.heap.size,9,none⟩=some (I O be):=bxc hV9 rfl
 have HF:Hid (Below _ _ _):=bF
 clear bF hV9 hR9 oN b9
 go_wp2_with (refine wpList_store_row rfl _ _ _ rfl _ _ rfl rfl _ _ hVr (by kernel_rfl) rfl (by simp[Value.oneCell']) ?_)
 (try simp only[Exit.inBlock,Exit.then])
 refine bodyPost_ret (by simp[results,Tryd.results54,asAddr,Act.put,HLD];try rfl) rfl ?_
 refine⟨[I O W,I O H,Sz a n c,I O X,I O Y,.bool wrp,I O st,Sz a7 n7 c7,Sz none 0 0,I O be],rfl,?_,HF.out⟩
 rw[HE.out]
 intro w'' hk r2 r7 r8
 exact reads_Vt (d:=(((W,H,zs,X,Y,wrp,()),st,al,[],be,()):TD)) r2 r7 (nil_readB _)
end Go.Proofs.YthodinpflcbklaaDoor
namespace Go.Proofs.YthodinpflcbklaaDoor
open Go.RowKit
set_option maxRecDepth 100000
theorem spl_any(W H X Y st be:Int)(wrp:Bool)(a a7 a8:Option Addr)(n c n7 c7 n8 c8:Nat)(zs al pl:List Int)(b:Int)(w:World)(hg:gokB (W,H,zs,X,Y,wrp,())=true)(h2:Reads (.sl .int) w [Sz a n c] zs)(h7:Reads (.sl .int) w [Sz a7 n7 c7] al)(h8:Reads (.sl .u8) w [Sz a8 n8 c8] pl)(hpl:pl.length≤3)(hbe:0≤be∧be≤1000000)(hb:0≤b∧b≤255)(hp:pl=[]∨rbgB pl=true):
   Calls Tryd.prog 54 #[.agg #[I O W,I O H,Sz a n c,I O X,I O Y,.bool wrp,I O st,Sz a7 n7 c7,Sz a8 n8 c8,I O be],I O b] w fun e w'=>∃ o,e=.returned (.agg o.toArray)∧RK w w' o (plainT (((W,H,zs,X,Y,wrp,()),st,al,pl,be,()):TD) b) (Sz a n c) (Sz a7 n7 c7) (Sz a8 n8 c8) zs al pl∧Below w.heap.size w w':=by
 by_cases h128:128≤b
 · by_cases hA:(rra (pl++[b]) 0).2=(pl.length:Int)+1
   · exact spl_hiA W H X Y st be wrp a a7 a8 n c n7 c7 n8 c8 zs al pl b w hg h2 h7 h8 hpl hbe ⟨h128,hb.2⟩ hp hA
   · cases hr:rbgB (pl++[b]) with
     | true=>exact spl_hiB W H X Y st be wrp a a7 a8 n c n7 c7 n8 c8 zs al pl b w hg h2 h7 h8 hpl hbe ⟨h128,hb.2⟩ hp hA hr
     | false=>exact spl_hiC W H X Y st be wrp a a7 a8 n c n7 c7 n8 c8 zs al pl b w hg h2 h7 h8 hpl hbe ⟨h128,hb.2⟩ hp hA hr
 by_cases k7:b=7
 · subst k7
   by_cases hm:be < 1000000
   · exact spl_bell W H X Y st be wrp a a7 a8 n c n7 c7 n8 c8 zs al pl w hg h2 h7 h8 hpl hbe hm
   · exact spl_ring W H X Y st be wrp a a7 a8 n c n7 c7 n8 c8 zs al pl w hg h2 h7 h8 hpl hbe hm
 by_cases k8:b=8
 · subst k8;exact spl_back W H X Y st be wrp a a7 a8 n c n7 c7 n8 c8 zs al pl w hg h2 h7 h8 hpl hbe
 by_cases k10:b=10
 · subst k10
   by_cases hY:Y=H - 1
   · exact spl_down W H X Y st be wrp a a7 a8 n c n7 c7 n8 c8 zs al pl w hg h2 h7 h8 hpl hbe hY
   · exact spl_next W H X Y st be wrp a a7 a8 n c n7 c7 n8 c8 zs al pl w hg h2 h7 h8 hpl hbe hY
 by_cases k13:b=13
 · subst k13;exact spl_ret W H X Y st be wrp a a7 a8 n c n7 c7 n8 c8 zs al pl w hg h2 h7 h8 hpl hbe
 by_cases k27:b=27
 · subst k27;exact spl_esc W H X Y st be wrp a a7 a8 n c n7 c7 n8 c8 zs al pl w hg h2 h7 h8 hpl hbe
 by_cases k127:b=127
 · subst k127;exact spl_del W H X Y st be wrp a a7 a8 n c n7 c7 n8 c8 zs al pl w hg h2 h7 h8 hpl hbe
 by_cases hn:b < 32
 · exact spl_lo W H X Y st be wrp a a7 a8 n c n7 c7 n8 c8 zs al pl b w hg h2 h7 h8 hpl hbe ⟨hb.1,by omega⟩ k7 k8 k10 k13 k27 hn
 · exact spl_put W H X Y st be wrp a a7 a8 n c n7 c7 n8 c8 zs al pl b w hg h2 h7 h8 hpl hbe ⟨by omega,by omega⟩
end Go.Proofs.YthodinpflcbklaaDoor
namespace Go.Proofs.YthodinpflcbklaaDoor
open Go.RowKit
set_option maxRecDepth 100000
theorem scsi_d0(W H X Y st be:Int)(wrp:Bool)(a a7 a8:Option Addr)(n c n7 c7 n8 c8:Nat)(zs al pl:List Int)(b:Int)(w:World)(hg:gokB (W,H,zs,X,Y,wrp,())=true)(h2:Reads (.sl .int) w [Sz a n c] zs)(h7:Reads (.sl .int) w [Sz a7 n7 c7] al)(h8:Reads (.sl .u8) w [Sz a8 n8 c8] pl)(hal:∀ i,0≤at0 al i∧at0 al i≤9999)(hal4:al.length≤4)(hb:48≤b∧b≤57)(h0:n7=0)(hc:¬ 9999 < at0 (begA al) ((begA al).length - 1)*10+b - 48):
   Calls Tryd.prog 55 #[.agg #[I O W,I O H,Sz a n c,I O X,I O Y,.bool wrp,I O st,Sz a7 n7 c7,Sz a8 n8 c8,I O be],I O b] w fun e w'=>∃ o,e=.returned (.agg o.toArray)∧RK w w' o (csiT (((W,H,zs,X,Y,wrp,()),st,al,pl,be,()):TD) b) (Sz a n c) (Sz a7 n7 c7) (Sz a8 n8 c8) zs al pl∧Below w.heap.size w w':=by
 obtain⟨i1,ji,jz0,jz1,jz2⟩:=info_parts Tryd.infoI
 obtain⟨W1,hW1,bW1,zW1,hA1,hZ1,HBX⟩:=mpro1 W H X Y st be wrp a a7 a8 n c n7 c7 n8 c8 w
 have HB1:Hid (Below w.heap.size w W1∧W1.heap.size=w.heap.size+2):=⟨bW1,zW1⟩
 have HW:Hid (W1=_):=hW1
 have HR:Hid (Reads (.sl .int) w [Sz a n c] zs∧Reads (.sl .u8) w [Sz a8 n8 c8] pl):=⟨h2,h8⟩
 obtain⟨hl7,hr7,_,_⟩:=reads_ints h7
 have HL:Hid (al.length=n7):=hl7
 have HSR:Hid (SrcZ w (Sz a7 n7 c7) n7 (al.map (Value.int .i64))):=srcZ_rdI hr7 hl7
 obtain⟨WE,hWE⟩:∃ U,U=W1.alloc (.cells #[] 3):=⟨_,rfl⟩
 have bE:Below W1.heap.size W1 WE:=by rw[hWE];exact(Below.refl _ _).alloc (Nat.le_refl _) _
 have oE:WE.ownsRow W1.heap.size 3 1 (Sz (some ⟨w.heap.size+1+1,0,none⟩) 0 0) 0 []:=by
   have h9:=World.ownsRow_lit (base:=W1.heap.size) (e:=3) (size:=1) W1 #[] 0 (Nat.le_refl _) (Nat.zero_le _) rfl
   rw[zW1] at h9
   rw[hWE,zW1]
   exact h9
 have hn74:n7≤4:=by omega
 have HE0:Hid (Below W1.heap.size W1 WE∧WE.ownsRow W1.heap.size 3 1 (Sz (some ⟨w.heap.size+1+1,0,none⟩) 0 0) 0 []):=⟨bE,oE⟩
 have HWE:Hid (WE=_):=hWE
 have d1:decide ((48:Int)≤b)=true:=decide_eq_true hb.1
 have d2:decide (b≤(57:Int))=true:=decide_eq_true hb.2
 obtain⟨bl,hbl⟩:∃ l,l=begA al:=⟨_,rfl⟩
 have hblen:bl.length=1:=by rw[hbl];unfold begA;rw[if_pos (by omega)];rfl
 have hlast:=begA_bd hal (bl.length - 1)
 rw[← hbl] at hlast hc
 obtain⟨x,hx⟩:∃ x,x=at0 bl (bl.length - 1):=⟨_,rfl⟩
 rw[← hx] at hlast hc
 obtain⟨U,hU⟩:∃ U,U=x*10+b - 48:=⟨_,rfl⟩
 have HE:Hid (csiT (((W,H,zs,X,Y,wrp,()),st,al,pl,be,()):TD) b=((W,H,zs,X,Y,wrp,()),st,bl.set (bl.length - 1) U,pl,be,())):=by
   show _=_
   unfold csiT
   rw[if_pos hb]
   show (((W,H,zs,X,Y,wrp,()),st,digA al (b - 48),pl,be,()):TD)=_
   unfold digA
   rw[← hbl,← hx]
   congr 4
   unfold capN
   rw[hU]
   split <;> omega
 have w1:IntKind.i64.wrap (x*10)=x*10:=wrap_i64_in _ (by omega) (by omega)
 have w2:IntKind.i64.wrap (x*10+b)=x*10+b:=wrap_i64_in _ (by omega) (by omega)
 have w3:IntKind.i64.wrap (x*10+b - 48)=x*10+b - 48:=by simp[IntKind.wrap,IntKind.bits,IntKind.signed];omega
 have dc:decide ((9999:Int) < x*10+b - 48)=false:=decide_eq_false hc
 have HX:Hid (x=at0 bl (bl.length - 1)∧bl.length=1∧bl=begA al∧U=_):=⟨hx,hblen,hbl,hU⟩
 subst h0
 clear hg h2 h7 h8 hal hal4 hr7 hl7 hW1 bW1 zW1 hA1 hZ1 hWE bE oE hb hblen hlast hc hx hbl hU
 have y0:WE.cell? ⟨w.heap.size,0,none⟩=some (I O W):=bxc (HBX.out _ HE0.out.1).1 rfl
 have y1:WE.cell? ⟨w.heap.size,1,none⟩=some (I O H):=bxc (HBX.out _ HE0.out.1).1 rfl
 have y2:WE.cell? ⟨w.heap.size,2,none⟩=some (Sz a n c):=bxc (HBX.out _ HE0.out.1).1 rfl
 have y3:WE.cell? ⟨w.heap.size,3,none⟩=some (I O X):=bxc (HBX.out _ HE0.out.1).1 rfl
 have y4:WE.cell? ⟨w.heap.size,4,none⟩=some (I O Y):=bxc (HBX.out _ HE0.out.1).1 rfl
 have y5:WE.cell? ⟨w.heap.size,5,none⟩=some (.bool wrp):=bxc (HBX.out _ HE0.out.1).1 rfl
 have y6:WE.cell? ⟨w.heap.size,6,none⟩=some (I O st):=bxc (HBX.out _ HE0.out.1).1 rfl
 have y7:WE.cell? ⟨w.heap.size,7,none⟩=some (Sz a7 0 c7):=bxc (HBX.out _ HE0.out.1).1 rfl
 have y8:WE.cell? ⟨w.heap.size,8,none⟩=some (Sz a8 n8 c8):=bxc (HBX.out _ HE0.out.1).1 rfl
 have y9:WE.cell? ⟨w.heap.size,9,none⟩=some (I O be):=bxc (HBX.out _ HE0.out.1).1 rfl
 have hsE:=srcZ_later HSR.out (HB1.out.1.trans (HE0.out.1.mono HB1.out.1.size))
 have oE:=HE0.out.2
 go_enter Tryd.func55,Tryd.ntmps55
 go_wp2_with (at_builtin;rw[← HW.out,← HWE.out];refine wpList_append_srcZ rfl _ _ 22 rfl W1.heap.size 3 i1 (I O 0) 1 8 Tryd.underlying22 ji jz0 jz1 jz2 rfl (by decide) _ 0 [] rfl oE (Sz a7 0 c7) 0 (al.map (Value.int .i64)) rfl ?c0 hsE ?c1 ?c3 ?c4 HE0.out.1.size ?_)
 case c0=>(rw[List.length_map,HL.out]) <;> omega
 case c1=>intro u hu;simp at hu;obtain⟨x,_,rfl⟩:=hu;rfl
 case c3=>unfold maxLen;omega
 case c4=>omega
 intro v7 wA oA gA
 (try rw[Nat.zero_add] at oA)
 (try rw[List.nil_append] at oA)
 obtain⟨aA,cA,hvA⟩:=own_formV oA
 subst hvA
 have kA:Below W1.heap.size W1 wA:=HE0.out.1.grown gA HE0.out.1.size (fun k e=>(oE.lt k e).1)
 clear oE gA hsE y0 y1 y2 y3 y4 y5 y6 y7 y8 y9
 have e0:al.map (Value.int .i64)=[]:=by rw[List.eq_nil_of_length_eq_zero HL.out];rfl
 rw[e0] at oA
 have bl:Below wA.heap.size wA (wA.alloc (.cells #[I O 0] 3)):=(Below.refl _ _).alloc (Nat.le_refl _) _
 have oA2:=own_later oA bl
 have sA:SrcZ (wA.alloc (.cells #[I O 0] 3)) (Sz (some ⟨wA.heap.size,0,none⟩) 1 1) 1 [I O 0]:=srcZ_lit (cs:=[I O 0]) (heap_alloc_new wA _)
 have kA2:Below W1.heap.size W1 (wA.alloc (.cells #[I O 0] 3)):=kA.trans (bl.mono kA.size)
 have y0:wA.cell? ⟨w.heap.size,0,none⟩=some (I O W):=bxc (HBX.out _ kA).1 rfl
 have y1:wA.cell? ⟨w.heap.size,1,none⟩=some (I O H):=bxc (HBX.out _ kA).1 rfl
 have y2:wA.cell? ⟨w.heap.size,2,none⟩=some (Sz a n c):=bxc (HBX.out _ kA).1 rfl
 have y3:wA.cell? ⟨w.heap.size,3,none⟩=some (I O X):=bxc (HBX.out _ kA).1 rfl
 have y4:wA.cell? ⟨w.heap.size,4,none⟩=some (I O Y):=bxc (HBX.out _ kA).1 rfl
 have y5:wA.cell? ⟨w.heap.size,5,none⟩=some (.bool wrp):=bxc (HBX.out _ kA).1 rfl
 have y6:wA.cell? ⟨w.heap.size,6,none⟩=some (I O st):=bxc (HBX.out _ kA).1 rfl
 have y7:wA.cell? ⟨w.heap.size,7,none⟩=some (Sz a7 0 c7):=bxc (HBX.out _ kA).1 rfl
 have y8:wA.cell? ⟨w.heap.size,8,none⟩=some (Sz a8 n8 c8):=bxc (HBX.out _ kA).1 rfl
 have y9:wA.cell? ⟨w.heap.size,9,none⟩=some (I O be):=bxc (HBX.out _ kA).1 rfl
 go_wp2_with (at_builtin;refine wpList_append_srcZ rfl _ _ 22 rfl W1.heap.size 3 i1 (I O 0) 1 8 Tryd.underlying22 ji jz0 jz1 jz2 rfl (by decide) _ 0 [] rfl oA2 (Sz (some ⟨wA.heap.size,0,none⟩) 1 1) 1 [I O 0] rfl rfl sA (by intro u hu;simp at hu;subst hu;rfl) (by unfold maxLen;omega) (by omega) kA2.size ?_)
 intro v8 wB oB gB
 (try rw[Nat.zero_add] at oB)
 (try rw[List.nil_append] at oB)
 obtain⟨gC,cB,hvB,_,_⟩:=own_form oB (by omega)
 subst hvB
 have kB:Below W1.heap.size W1 wB:=kA2.grown gB kA2.size (fun k e=>(oA2.lt k e).1)
 have oB:wB.ownsRow W1.heap.size 3 1 (Sz (some ⟨gC,0,none⟩) 1 cB) 1 (([0]:List Int).map (Value.int .i64)):=oB
 clear oA oA2 sA bl kA kA2 gB y0 y1 y2 y3 y4 y5 y6 y7 y8 y9
 have eb:bl=[0]:=by rw[HX.out.2.2.1];unfold begA;rw[if_pos HL.out]
 rw[← eb] at oB
 have hblL:bl.length=1:=HX.out.2.1
 have gx:wB.cell? ⟨gC,0,none⟩=some (I O x):=by
   rw[oB.cellAt (0) (by omega)]
   rw[HX.out.1,hblL]
   unfold at0
   simp[show 0 < bl.length by omega]
 have fx:wB.frozen? ⟨gC,0,none⟩=false:=oB.frozenAt (0)
 have oS:(wB.setCell ⟨gC,0,none⟩ (I O (x*10+b - 48))).ownsRow W1.heap.size 3 1 (Sz (some ⟨gC,0,none⟩) 1 cB) 1 ((bl.set (bl.length - 1) (x*10+b - 48)).map (Value.int .i64)):=by
   have h9:=(oB.stored (0) (I O (x*10+b - 48))).1
   rw[List.map_set,hblL]
   exact h9
 have hgC:=(oB.lt gC rfl).1
 have kS:Below W1.heap.size W1 (wB.setCell ⟨gC,0,none⟩ (I O (x*10+b - 48))):=Below.setCell (p:=⟨gC,0,none⟩) kB hgC _
 have hneC:gC≠w.heap.size:=by have:=HB1.out.2;omega
 have i4:=HBX.out _ kS
 have bS:=HB1.out.1.trans (kS.mono HB1.out.1.size)
 have hVr:((wB.setCell ⟨gC,0,none⟩ (I O (x*10+b - 48))).setCell ⟨w.heap.size,7,none⟩ (Sz (some ⟨gC,0,none⟩) 1 cB)).heap[w.heap.size+1]?=some (.cells #[I O 0,I O 0,Sz none 0 0,I O 0,I O 0,.bool false,I O 0,Sz none 0 0,Sz none 0 0,I O 0] 31 (0,0)):=by rw[box_other _ (by omega)];exact i4.2
 have q0:(wB.setCell ⟨gC,0,none⟩ (I O (x*10+b - 48))).cell? ⟨w.heap.size,0,none⟩=some (I O W):=bxc i4.1 rfl
 have q1:(wB.setCell ⟨gC,0,none⟩ (I O (x*10+b - 48))).cell? ⟨w.heap.size,1,none⟩=some (I O H):=bxc i4.1 rfl
 have q2:(wB.setCell ⟨gC,0,none⟩ (I O (x*10+b - 48))).cell? ⟨w.heap.size,2,none⟩=some (Sz a n c):=bxc i4.1 rfl
 have q3:(wB.setCell ⟨gC,0,none⟩ (I O (x*10+b - 48))).cell? ⟨w.heap.size,3,none⟩=some (I O X):=bxc i4.1 rfl
 have q4:(wB.setCell ⟨gC,0,none⟩ (I O (x*10+b - 48))).cell? ⟨w.heap.size,4,none⟩=some (I O Y):=bxc i4.1 rfl
 have q5:(wB.setCell ⟨gC,0,none⟩ (I O (x*10+b - 48))).cell? ⟨w.heap.size,5,none⟩=some (.bool wrp):=bxc i4.1 rfl
 have q6:(wB.setCell ⟨gC,0,none⟩ (I O (x*10+b - 48))).cell? ⟨w.heap.size,6,none⟩=some (I O st):=bxc i4.1 rfl
 have q7:(wB.setCell ⟨gC,0,none⟩ (I O (x*10+b - 48))).cell? ⟨w.heap.size,7,none⟩=some (Sz a7 0 c7):=bxc i4.1 rfl
 have q8:(wB.setCell ⟨gC,0,none⟩ (I O (x*10+b - 48))).cell? ⟨w.heap.size,8,none⟩=some (Sz a8 n8 c8):=bxc i4.1 rfl
 have q9:(wB.setCell ⟨gC,0,none⟩ (I O (x*10+b - 48))).cell? ⟨w.heap.size,9,none⟩=some (I O be):=bxc i4.1 rfl
 have f7:(wB.setCell ⟨gC,0,none⟩ (I O (x*10+b - 48))).frozen? ⟨w.heap.size,7,none⟩=false:=box_frozen i4.1
 have HLD:(loadVar 31 ⟨w.heap.size+1,0,none⟩).run Tryd.prog (((wB.setCell ⟨gC,0,none⟩ (I O (x*10+b - 48))).setCell ⟨w.heap.size,7,none⟩ (Sz (some ⟨gC,0,none⟩) 1 cB)).setRow (w.heap.size+1) #[I O W,I O H,Sz a n c,I O X,I O Y,.bool wrp,I O st,Sz (some ⟨gC,0,none⟩) 1 cB,Sz a8 n8 c8,I O be])=.ok (.agg #[I O W,I O H,Sz a n c,I O X,I O Y,.bool wrp,I O st,Sz (some ⟨gC,0,none⟩) 1 cB,Sz a8 n8 c8,I O be]) (((wB.setCell ⟨gC,0,none⟩ (I O (x*10+b - 48))).setCell ⟨w.heap.size,7,none⟩ (Sz (some ⟨gC,0,none⟩) 1 cB)).setRow (w.heap.size+1) #[I O W,I O H,Sz a n c,I O X,I O Y,.bool wrp,I O st,Sz (some ⟨gC,0,none⟩) 1 cB,Sz a8 n8 c8,I O be]):=run_loadVar_row _ _ _ _ _ _ _ (setRow_heap _ _ _ _ _ _ hVr) Tryd.underlying31 rfl (by kernel_rfl)
 have bF:Below w.heap.size w (((wB.setCell ⟨gC,0,none⟩ (I O (x*10+b - 48))).setCell ⟨w.heap.size,7,none⟩ (Sz (some ⟨gC,0,none⟩) 1 cB)).setRow (w.heap.size+1) #[I O W,I O H,Sz a n c,I O X,I O Y,.bool wrp,I O st,Sz (some ⟨gC,0,none⟩) 1 cB,Sz a8 n8 c8,I O be]):=
   below_setRow (Below.setCell (p:=⟨w.heap.size,7,none⟩) bS (Nat.le_refl _) _) (Nat.le_add_right _ 1) _
 have rA:∃ F,Own (.sl .int) (((wB.setCell ⟨gC,0,none⟩ (I O (x*10+b - 48))).setCell ⟨w.heap.size,7,none⟩ (Sz (some ⟨gC,0,none⟩) 1 cB)).setRow (w.heap.size+1) #[I O W,I O H,Sz a n c,I O X,I O Y,.bool wrp,I O st,Sz (some ⟨gC,0,none⟩) 1 cB,Sz a8 n8 c8,I O be]) W1.heap.size [Sz (some ⟨gC,0,none⟩) 1 cB] (bl.set (bl.length - 1) (x*10+b - 48)) F:=by
   obtain⟨F,hF⟩:=rowI_ownS (d:=bl.set (bl.length - 1) (x*10+b - 48)) (by simp;exact hblL) oS
   have hz:=HB1.out.2
   exact⟨F,hF.keep fun g hg=>by
     have:=(hF.lt g hg).1
     rw[setRow_other _ (w.heap.size+1) g _ (by omega),box_other _ (by omega)]⟩
 have HF:Hid (_∧_):=⟨bF,rA⟩
 have HUU:Hid (U=_):=HX.out.2.2.2
 clear i4 bF rA bS kS oS oB kB hgC eb hblL
 go_wp2_with (refine wpList_store_row rfl _ _ _ rfl _ _ rfl rfl _ _ hVr (by kernel_rfl) rfl (by simp[Value.oneCell']) ?_)
 (try simp only[Exit.inBlock,Exit.then])
 refine bodyPost_ret (by simp[results,Tryd.results55,asAddr,Act.put,HLD];try rfl) rfl ?_
 refine⟨[I O W,I O H,Sz a n c,I O X,I O Y,.bool wrp,I O st,Sz (some ⟨gC,0,none⟩) 1 cB,Sz a8 n8 c8,I O be],rfl,?_,HF.out.1⟩
 rw[HE.out,HUU.out]
 intro w'' hk r2 r7 r8
 obtain⟨F,hF⟩:=HF.out.2
 exact reads_Vt (d:=(((W,H,zs,X,Y,wrp,()),st,bl.set (bl.length - 1) (x*10+b - 48),pl,be,()):TD)) r2 (own_read hF HB1.out.1.size hk) r8
end Go.Proofs.YthodinpflcbklaaDoor
