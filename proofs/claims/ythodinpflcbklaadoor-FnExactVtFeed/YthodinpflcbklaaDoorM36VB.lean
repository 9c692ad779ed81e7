/-
  Parts of the road to VB, joined: SvQ2, SvQ3, SvR1, SvR2, SvR3.
-/
import Derived.Test.YthodinpflcbklaaDoorM25VB
import Derived.Test.YthodinpflcbklaaDoorM21VB
open Go.Value renaming int → I,slice → Sz
open Go.IntKind renaming i64 → O
open List renaming setIfInBounds_toArray → lA,getElem_toArray → lB,getElem_cons_succ → lC,getElem_cons_zero → lD,set_cons_zero → lE,set_cons_succ → lF
set_option linter.unusedVariables false
set_option linter.unusedSimpArgs false
set_option maxHeartbeats 40000000
namespace Go.Proofs.YthodinpflcbklaaDoor
open Go.RowKit
set_option maxRecDepth 100000
theorem scsi_dn(W H X Y st be:Int)(wrp:Bool)(a a7 a8:Option Addr)(n c n7 c7 n8 c8:Nat)(zs al pl:List Int)(b:Int)(w:World)(hg:gokB (W,H,zs,X,Y,wrp,())=true)(h2:Reads (.sl .int) w [Sz a n c] zs)(h7:Reads (.sl .int) w [Sz a7 n7 c7] al)(h8:Reads (.sl .u8) w [Sz a8 n8 c8] pl)(hal:∀ i,0≤at0 al i∧at0 al i≤9999)(hal4:al.length≤4)(hb:48≤b∧b≤57)(h0:n7≠0)(hc:¬ 9999 < at0 (begA al) ((begA al).length - 1)*10+b - 48):
   Calls Tryd.prog 55 #[.agg #[I O W,I O H,Sz a n c,I O X,I O Y,.bool wrp,I O st,Sz a7 n7 c7,Sz a8 n8 c8,I O be],I O b] w fun e w'=>∃ o,e=.returned (.agg o.toArray)∧RK w w' o (csiT (((W,H,zs,X,Y,wrp,()),st,al,pl,be,()):TD) b) (Sz a n c) (Sz a7 n7 c7) (Sz a8 n8 c8) zs al pl∧Below w.heap.size w w':=by
 obtain⟨i1,ji,jz0,jz1,jz2⟩:=info_parts Tryd.infoI
 obtain⟨W1,hW1,bW1,zW1,hA1,hZ1,HBX⟩:=mpro1 W H X Y st be wrp a a7 a8 n c n7 c7 n8 c8 w
 have HB1:Hid (Below w.heap.size w W1∧W1.heap.size=w.heap.size+2):=⟨bW1,zW1⟩
 have HW:Hid (W1=_):=hW1
 have HR:Hid (Reads (.sl .int) w [Sz a n c] zs∧Reads (.sl .u8) w [Sz a8 n8 c8] pl):=⟨h2,h8⟩
 obtain⟨hl7,hr7,_,_⟩:=reads_ints h7
 have HL:Hid (al.length=n7):=hl7
 have HSR:Hid (SrcZ w (Sz a7 n7 c7) n7 (al.map (Value.int .i64))):=srcZ_rdI hr7 hl7
 obtain⟨WE,hWE⟩:∃ U,U=W1.alloc (.cells #[] 3):=⟨_,rfl⟩
 have bE:Below W1.heap.size W1 WE:=by rw[hWE];exact(Below.refl _ _).alloc (Nat.le_refl _) _
 have oE:WE.ownsRow W1.heap.size 3 1 (Sz (some ⟨w.heap.size+1+1,0,none⟩) 0 0) 0 []:=by
   have h9:=World.ownsRow_lit (base:=W1.heap.size) (e:=3) (size:=1) W1 #[] 0 (Nat.le_refl _) (Nat.zero_le _) rfl
   rw[zW1] at h9
   rw[hWE,zW1]
   exact h9
 have hn74:n7≤4:=by omega
 have HE0:Hid (Below W1.heap.size W1 WE∧WE.ownsRow W1.heap.size 3 1 (Sz (some ⟨w.heap.size+1+1,0,none⟩) 0 0) 0 []):=⟨bE,oE⟩
 have HWE:Hid (WE=_):=hWE
 have d1:decide ((48:Int)≤b)=true:=decide_eq_true hb.1
 have d2:decide (b≤(57:Int))=true:=decide_eq_true hb.2
 obtain⟨bl,hbl⟩:∃ l,l=begA al:=⟨_,rfl⟩
 have hblen:bl.length=n7:=by rw[hbl];unfold begA;rw[if_neg (by omega)];exact hl7
 have hlast:=begA_bd hal (bl.length - 1)
 rw[← hbl] at hlast hc
 obtain⟨x,hx⟩:∃ x,x=at0 bl (bl.length - 1):=⟨_,rfl⟩
 rw[← hx] at hlast hc
 obtain⟨U,hU⟩:∃ U,U=x*10+b - 48:=⟨_,rfl⟩
 have HE:Hid (csiT (((W,H,zs,X,Y,wrp,()),st,al,pl,be,()):TD) b=((W,H,zs,X,Y,wrp,()),st,bl.set (bl.length - 1) U,pl,be,())):=by
   show _=_
   unfold csiT
   rw[if_pos hb]
   show (((W,H,zs,X,Y,wrp,()),st,digA al (b - 48),pl,be,()):TD)=_
   unfold digA
   rw[← hbl,← hx]
   congr 4
   unfold capN
   rw[hU]
   split <;> omega
 have w1:IntKind.i64.wrap (x*10)=x*10:=wrap_i64_in _ (by omega) (by omega)
 have w2:IntKind.i64.wrap (x*10+b)=x*10+b:=wrap_i64_in _ (by omega) (by omega)
 have w3:IntKind.i64.wrap (x*10+b - 48)=x*10+b - 48:=by simp[IntKind.wrap,IntKind.bits,IntKind.signed];omega
 have dc:decide ((9999:Int) < x*10+b - 48)=false:=decide_eq_false hc
 have HX:Hid (x=at0 bl (bl.length - 1)∧bl.length=n7∧bl=begA al∧U=_):=⟨hx,hblen,hbl,hU⟩
 have hpos:0 < n7:=by omega
 have dn:((n7:Int)==0)=false:=by simp;omega
 have wL:IntKind.i64.wrap ((n7:Int) - 1)=(n7:Int) - 1:=wrap_i64_in _ (by omega) (by omega)
 have j1:(n7:Int) - 1 < (n7:Int):=by omega
 have j2:((n7:Int) - 1).toNat=n7 - 1:=by omega
 have j3:(0:Int)≤(n7:Int) - 1:=by omega
 clear h0
 clear hg h2 h7 h8 hal hal4 hr7 hl7 hW1 bW1 zW1 hA1 hZ1 hWE bE oE hb hblen hlast hc hx hbl hU
 have y0:WE.cell? ⟨w.heap.size,0,none⟩=some (I O W):=bxc (HBX.out _ HE0.out.1).1 rfl
 have y1:WE.cell? ⟨w.heap.size,1,none⟩=some (I O H):=bxc (HBX.out _ HE0.out.1).1 rfl
 have y2:WE.cell? ⟨w.heap.size,2,none⟩=some (Sz a n c):=bxc (HBX.out _ HE0.out.1).1 rfl
 have y3:WE.cell? ⟨w.heap.size,3,none⟩=some (I O X):=bxc (HBX.out _ HE0.out.1).1 rfl
 have y4:WE.cell? ⟨w.heap.size,4,none⟩=some (I O Y):=bxc (HBX.out _ HE0.out.1).1 rfl
 have y5:WE.cell? ⟨w.heap.size,5,none⟩=some (.bool wrp):=bxc (HBX.out _ HE0.out.1).1 rfl
 have y6:WE.cell? ⟨w.heap.size,6,none⟩=some (I O st):=bxc (HBX.out _ HE0.out.1).1 rfl
 have y7:WE.cell? ⟨w.heap.size,7,none⟩=some (Sz a7 n7 c7):=bxc (HBX.out _ HE0.out.1).1 rfl
 have y8:WE.cell? ⟨w.heap.size,8,none⟩=some (Sz a8 n8 c8):=bxc (HBX.out _ HE0.out.1).1 rfl
 have y9:WE.cell? ⟨w.heap.size,9,none⟩=some (I O be):=bxc (HBX.out _ HE0.out.1).1 rfl
 have hsE:=srcZ_later HSR.out (HB1.out.1.trans (HE0.out.1.mono HB1.out.1.size))
 have oE:=HE0.out.2
 go_enter Tryd.func55,Tryd.ntmps55
 go_wp2_with (at_builtin;rw[← HW.out,← HWE.out];refine wpList_append_srcZ rfl _ _ 22 rfl W1.heap.size 3 i1 (I O 0) 1 8 Tryd.underlying22 ji jz0 jz1 jz2 rfl (by decide) _ 0 [] rfl oE (Sz a7 n7 c7) n7 (al.map (Value.int .i64)) rfl ?c0 hsE ?c1 ?c3 ?c4 HE0.out.1.size ?_)
 case c0=>(rw[List.length_map,HL.out]) <;> omega
 case c1=>intro u hu;simp at hu;obtain⟨x,_,rfl⟩:=hu;rfl
 case c3=>unfold maxLen;omega
 case c4=>omega
 intro v7 wA oA gA
 (try rw[Nat.zero_add] at oA)
 (try rw[List.nil_append] at oA)
 obtain⟨aA,cA,hvA⟩:=own_formV oA
 subst hvA
 have kA:Below W1.heap.size W1 wA:=HE0.out.1.grown gA HE0.out.1.size (fun k e=>(oE.lt k e).1)
 clear oE gA hsE y0 y1 y2 y3 y4 y5 y6 y7 y8 y9
 obtain⟨gC,cB,hvB,_,_⟩:=own_form oA (by omega)
 simp only[Value.slice.injEq,true_and] at hvB
 obtain⟨rfl,rfl⟩:=hvB
 have kB:=kA
 have oB:=oA
 clear oA kA
 have eb:bl=al:=by rw[HX.out.2.2.1];unfold begA;rw[if_neg (by have:=HL.out;omega)]
 rw[← eb] at oB
 have hblL:bl.length=n7:=HX.out.2.1
 have gx:wA.cell? ⟨gC,n7 - 1,none⟩=some (I O x):=by
   rw[oB.cellAt (n7 - 1) (by omega)]
   rw[HX.out.1,hblL]
   unfold at0
   simp[show n7 - 1 < bl.length by omega]
 have fx:wA.frozen? ⟨gC,n7 - 1,none⟩=false:=oB.frozenAt (n7 - 1)
 have oS:(wA.setCell ⟨gC,n7 - 1,none⟩ (I O (x*10+b - 48))).ownsRow W1.heap.size 3 1 (Sz (some ⟨gC,0,none⟩) n7 cA) n7 ((bl.set (bl.length - 1) (x*10+b - 48)).map (Value.int .i64)):=by
   have h9:=(oB.stored (n7 - 1) (I O (x*10+b - 48))).1
   rw[List.map_set,hblL]
   exact h9
 have hgC:=(oB.lt gC rfl).1
 have kS:Below W1.heap.size W1 (wA.setCell ⟨gC,n7 - 1,none⟩ (I O (x*10+b - 48))):=Below.setCell (p:=⟨gC,n7 - 1,none⟩) kB hgC _
 have hneC:gC≠w.heap.size:=by have:=HB1.out.2;omega
 have i4:=HBX.out _ kS
 have bS:=HB1.out.1.trans (kS.mono HB1.out.1.size)
 have hVr:((wA.setCell ⟨gC,n7 - 1,none⟩ (I O (x*10+b - 48))).setCell ⟨w.heap.size,7,none⟩ (Sz (some ⟨gC,0,none⟩) n7 cA)).heap[w.heap.size+1]?=some (.cells #[I O 0,I O 0,Sz none 0 0,I O 0,I O 0,.bool false,I O 0,Sz none 0 0,Sz none 0 0,I O 0] 31 (0,0)):=by rw[box_other _ (by omega)];exact i4.2
 have q0:(wA.setCell ⟨gC,n7 - 1,none⟩ (I O (x*10+b - 48))).cell? ⟨w.heap.size,0,none⟩=some (I O W):=bxc i4.1 rfl
 have q1:(wA.setCell ⟨gC,n7 - 1,none⟩ (I O (x*10+b - 48))).cell? ⟨w.heap.size,1,none⟩=some (I O H):=bxc i4.1 rfl
 have q2:(wA.setCell ⟨gC,n7 - 1,none⟩ (I O (x*10+b - 48))).cell? ⟨w.heap.size,2,none⟩=some (Sz a n c):=bxc i4.1 rfl
 have q3:(wA.setCell ⟨gC,n7 - 1,none⟩ (I O (x*10+b - 48))).cell? ⟨w.heap.size,3,none⟩=some (I O X):=bxc i4.1 rfl
 have q4:(wA.setCell ⟨gC,n7 - 1,none⟩ (I O (x*10+b - 48))).cell? ⟨w.heap.size,4,none⟩=some (I O Y):=bxc i4.1 rfl
 have q5:(wA.setCell ⟨gC,n7 - 1,none⟩ (I O (x*10+b - 48))).cell? ⟨w.heap.size,5,none⟩=some (.bool wrp):=bxc i4.1 rfl
 have q6:(wA.setCell ⟨gC,n7 - 1,none⟩ (I O (x*10+b - 48))).cell? ⟨w.heap.size,6,none⟩=some (I O st):=bxc i4.1 rfl
 have q7:(wA.setCell ⟨gC,n7 - 1,none⟩ (I O (x*10+b - 48))).cell? ⟨w.heap.size,7,none⟩=some (Sz a7 n7 c7):=bxc i4.1 rfl
 have q8:(wA.setCell ⟨gC,n7 - 1,none⟩ (I O (x*10+b - 48))).cell? ⟨w.heap.size,8,none⟩=some (Sz a8 n8 c8):=bxc i4.1 rfl
 have q9:(wA.setCell ⟨gC,n7 - 1,none⟩ (I O (x*10+b - 48))).cell? ⟨w.heap.size,9,none⟩=some (I O be):=bxc i4.1 rfl
 have f7:(wA.setCell ⟨gC,n7 - 1,none⟩ (I O (x*10+b - 48))).frozen? ⟨w.heap.size,7,none⟩=false:=box_frozen i4.1
 have HLD:(loadVar 31 ⟨w.heap.size+1,0,none⟩).run Tryd.prog (((wA.setCell ⟨gC,n7 - 1,none⟩ (I O (x*10+b - 48))).setCell ⟨w.heap.size,7,none⟩ (Sz (some ⟨gC,0,none⟩) n7 cA)).setRow (w.heap.size+1) #[I O W,I O H,Sz a n c,I O X,I O Y,.bool wrp,I O st,Sz (some ⟨gC,0,none⟩) n7 cA,Sz a8 n8 c8,I O be])=.ok (.agg #[I O W,I O H,Sz a n c,I O X,I O Y,.bool wrp,I O st,Sz (some ⟨gC,0,none⟩) n7 cA,Sz a8 n8 c8,I O be]) (((wA.setCell ⟨gC,n7 - 1,none⟩ (I O (x*10+b - 48))).setCell ⟨w.heap.size,7,none⟩ (Sz (some ⟨gC,0,none⟩) n7 cA)).setRow (w.heap.size+1) #[I O W,I O H,Sz a n c,I O X,I O Y,.bool wrp,I O st,Sz (some ⟨gC,0,none⟩) n7 cA,Sz a8 n8 c8,I O be]):=run_loadVar_row _ _ _ _ _ _ _ (setRow_heap _ _ _ _ _ _ hVr) Tryd.underlying31 rfl (by kernel_rfl)
 have bF:Below w.heap.size w (((wA.setCell ⟨gC,n7 - 1,none⟩ (I O (x*10+b - 48))).setCell ⟨w.heap.size,7,none⟩ (Sz (some ⟨gC,0,none⟩) n7 cA)).setRow (w.heap.size+1) #[I O W,I O H,Sz a n c,I O X,I O Y,.bool wrp,I O st,Sz (some ⟨gC,0,none⟩) n7 cA,Sz a8 n8 c8,I O be]):=
   below_setRow (Below.setCell (p:=⟨w.heap.size,7,none⟩) bS (Nat.le_refl _) _) (Nat.le_add_right _ 1) _
 have rA:∃ F,Own (.sl .int) (((wA.setCell ⟨gC,n7 - 1,none⟩ (I O (x*10+b - 48))).setCell ⟨w.heap.size,7,none⟩ (Sz (some ⟨gC,0,none⟩) n7 cA)).setRow (w.heap.size+1) #[I O W,I O H,Sz a n c,I O X,I O Y,.bool wrp,I O st,Sz (some ⟨gC,0,none⟩) n7 cA,Sz a8 n8 c8,I O be]) W1.heap.size [Sz (some ⟨gC,0,none⟩) n7 cA] (bl.set (bl.length - 1) (x*10+b - 48)) F:=by
   obtain⟨F,hF⟩:=rowI_ownS (d:=bl.set (bl.length - 1) (x*10+b - 48)) (by simp;exact hblL) oS
   have hz:=HB1.out.2
   exact⟨F,hF.keep fun g hg=>by
     have:=(hF.lt g hg).1
     rw[setRow_other _ (w.heap.size+1) g _ (by omega),box_other _ (by omega)]⟩
 have HF:Hid (_∧_):=⟨bF,rA⟩
 have HUU:Hid (U=_):=HX.out.2.2.2
 clear i4 bF rA bS kS oS oB kB hgC eb hblL
 go_wp2_with (refine wpList_store_row rfl _ _ _ rfl _ _ rfl rfl _ _ hVr (by kernel_rfl) rfl (by simp[Value.oneCell']) ?_)
 (try simp only[Exit.inBlock,Exit.then])
 refine bodyPost_ret (by simp[results,Tryd.results55,asAddr,Act.put,HLD];try rfl) rfl ?_
 refine⟨[I O W,I O H,Sz a n c,I O X,I O Y,.bool wrp,I O st,Sz (some ⟨gC,0,none⟩) n7 cA,Sz a8 n8 c8,I O be],rfl,?_,HF.out.1⟩
 rw[HE.out,HUU.out]
 intro w'' hk r2 r7 r8
 obtain⟨F,hF⟩:=HF.out.2
 exact reads_Vt (d:=(((W,H,zs,X,Y,wrp,()),st,bl.set (bl.length - 1) (x*10+b - 48),pl,be,()):TD)) r2 (own_read hF HB1.out.1.size hk) r8
end Go.Proofs.YthodinpflcbklaaDoor
namespace Go.Proofs.YthodinpflcbklaaDoor
open Go.RowKit
set_option maxRecDepth 100000
theorem scsi_dc(W H X Y st be:Int)(wrp:Bool)(a a7 a8:Option Addr)(n c n7 c7 n8 c8:Nat)(zs al pl:List Int)(b:Int)(w:World)(hg:gokB (W,H,zs,X,Y,wrp,())=true)(h2:Reads (.sl .int) w [Sz a n c] zs)(h7:Reads (.sl .int) w [Sz a7 n7 c7] al)(h8:Reads (.sl .u8) w [Sz a8 n8 c8] pl)(hal:∀ i,0≤at0 al i∧at0 al i≤9999)(hal4:al.length≤4)(hb:48≤b∧b≤57)(h0:n7≠0)(hc:9999 < at0 (begA al) ((begA al).length - 1)*10+b - 48):
   Calls Tryd.prog 55 #[.agg #[I O W,I O H,Sz a n c,I O X,I O Y,.bool wrp,I O st,Sz a7 n7 c7,Sz a8 n8 c8,I O be],I O b] w fun e w'=>∃ o,e=.returned (.agg o.toArray)∧RK w w' o (csiT (((W,H,zs,X,Y,wrp,()),st,al,pl,be,()):TD) b) (Sz a n c) (Sz a7 n7 c7) (Sz a8 n8 c8) zs al pl∧Below w.heap.size w w':=by
 obtain⟨i1,ji,jz0,jz1,jz2⟩:=info_parts Tryd.infoI
 obtain⟨W1,hW1,bW1,zW1,hA1,hZ1,HBX⟩:=mpro1 W H X Y st be wrp a a7 a8 n c n7 c7 n8 c8 w
 have HB1:Hid (Below w.heap.size w W1∧W1.heap.size=w.heap.size+2):=⟨bW1,zW1⟩
 have HW:Hid (W1=_):=hW1
 have HR:Hid (Reads (.sl .int) w [Sz a n c] zs∧Reads (.sl .u8) w [Sz a8 n8 c8] pl):=⟨h2,h8⟩
 obtain⟨hl7,hr7,_,_⟩:=reads_ints h7
 have HL:Hid (al.length=n7):=hl7
 have HSR:Hid (SrcZ w (Sz a7 n7 c7) n7 (al.map (Value.int .i64))):=srcZ_rdI hr7 hl7
 obtain⟨WE,hWE⟩:∃ U,U=W1.alloc (.cells #[] 3):=⟨_,rfl⟩
 have bE:Below W1.heap.size W1 WE:=by rw[hWE];exact(Below.refl _ _).alloc (Nat.le_refl _) _
 have oE:WE.ownsRow W1.heap.size 3 1 (Sz (some ⟨w.heap.size+1+1,0,none⟩) 0 0) 0 []:=by
   have h9:=World.ownsRow_lit (base:=W1.heap.size) (e:=3) (size:=1) W1 #[] 0 (Nat.le_refl _) (Nat.zero_le _) rfl
   rw[zW1] at h9
   rw[hWE,zW1]
   exact h9
 have hn74:n7≤4:=by omega
 have HE0:Hid (Below W1.heap.size W1 WE∧WE.ownsRow W1.heap.size 3 1 (Sz (some ⟨w.heap.size+1+1,0,none⟩) 0 0) 0 []):=⟨bE,oE⟩
 have HWE:Hid (WE=_):=hWE
 have d1:decide ((48:Int)≤b)=true:=decide_eq_true hb.1
 have d2:decide (b≤(57:Int))=true:=decide_eq_true hb.2
 obtain⟨bl,hbl⟩:∃ l,l=begA al:=⟨_,rfl⟩
 have hblen:bl.length=n7:=by rw[hbl];unfold begA;rw[if_neg (by omega)];exact hl7
 have hlast:=begA_bd hal (bl.length - 1)
 rw[← hbl] at hlast hc
 obtain⟨x,hx⟩:∃ x,x=at0 bl (bl.length - 1):=⟨_,rfl⟩
 rw[← hx] at hlast hc
 obtain⟨U,hU⟩:∃ U,U=9999:=⟨_,rfl⟩
 have HE:Hid (csiT (((W,H,zs,X,Y,wrp,()),st,al,pl,be,()):TD) b=((W,H,zs,X,Y,wrp,()),st,bl.set (bl.length - 1) U,pl,be,())):=by
   show _=_
   unfold csiT
   rw[if_pos hb]
   show (((W,H,zs,X,Y,wrp,()),st,digA al (b - 48),pl,be,()):TD)=_
   unfold digA
   rw[← hbl,← hx]
   congr 4
   unfold capN
   rw[hU]
   split <;> omega
 have w1:IntKind.i64.wrap (x*10)=x*10:=wrap_i64_in _ (by omega) (by omega)
 have w2:IntKind.i64.wrap (x*10+b)=x*10+b:=wrap_i64_in _ (by omega) (by omega)
 have w3:IntKind.i64.wrap (x*10+b - 48)=x*10+b - 48:=by simp[IntKind.wrap,IntKind.bits,IntKind.signed];omega
 have dc:decide ((9999:Int) < x*10+b - 48)=true:=decide_eq_true hc
 have HX:Hid (x=at0 bl (bl.length - 1)∧bl.length=n7∧bl=begA al∧U=_):=⟨hx,hblen,hbl,hU⟩
 have hpos:0 < n7:=by omega
 have dn:((n7:Int)==0)=false:=by simp;omega
 have wL:IntKind.i64.wrap ((n7:Int) - 1)=(n7:Int) - 1:=wrap_i64_in _ (by omega) (by omega)
 have j1:(n7:Int) - 1 < (n7:Int):=by omega
 have j2:((n7:Int) - 1).toNat=n7 - 1:=by omega
 have j3:(0:Int)≤(n7:Int) - 1:=by omega
 clear h0
 clear hg h2 h7 h8 hal hal4 hr7 hl7 hW1 bW1 zW1 hA1 hZ1 hWE bE oE hb hblen hlast hc hx hbl hU
 have y0:WE.cell? ⟨w.heap.size,0,none⟩=some (I O W):=bxc (HBX.out _ HE0.out.1).1 rfl
 have y1:WE.cell? ⟨w.heap.size,1,none⟩=some (I O H):=bxc (HBX.out _ HE0.out.1).1 rfl
 have y2:WE.cell? ⟨w.heap.size,2,none⟩=some (Sz a n c):=bxc (HBX.out _ HE0.out.1).1 rfl
 have y3:WE.cell? ⟨w.heap.size,3,none⟩=some (I O X):=bxc (HBX.out _ HE0.out.1).1 rfl
 have y4:WE.cell? ⟨w.heap.size,4,none⟩=some (I O Y):=bxc (HBX.out _ HE0.out.1).1 rfl
 have y5:WE.cell? ⟨w.heap.size,5,none⟩=some (.bool wrp):=bxc (HBX.out _ HE0.out.1).1 rfl
 have y6:WE.cell? ⟨w.heap.size,6,none⟩=some (I O st):=bxc (HBX.out _ HE0.out.1).1 rfl
 have y7:WE.cell? ⟨w.heap.size,7,none⟩=some (Sz a7 n7 c7):=bxc (HBX.out _ HE0.out.1).1 rfl
 have y8:WE.cell? ⟨w.heap.size,8,none⟩=some (Sz a8 n8 c8):=bxc (HBX.out _ HE0.out.1).1 rfl
 have y9:WE.cell? ⟨w.heap.size,9,none⟩=some (I O be):=bxc (HBX.out _ HE0.out.1).1 rfl
 have hsE:=srcZ_later HSR.out (HB1.out.1.trans (HE0.out.1.mono HB1.out.1.size))
 have oE:=HE0.out.2
 go_enter Tryd.func55,Tryd.ntmps55
 go_wp2_with (at_builtin;rw[← HW.out,← HWE.out];refine wpList_append_srcZ rfl _ _ 22 rfl W1.heap.size 3 i1 (I O 0) 1 8 Tryd.underlying22 ji jz0 jz1 jz2 rfl (by decide) _ 0 [] rfl oE (Sz a7 n7 c7) n7 (al.map (Value.int .i64)) rfl ?c0 hsE ?c1 ?c3 ?c4 HE0.out.1.size ?_)
 case c0=>(rw[List.length_map,HL.out]) <;> omega
 case c1=>intro u hu;simp at hu;obtain⟨x,_,rfl⟩:=hu;rfl
 case c3=>unfold maxLen;omega
 case c4=>omega
 intro v7 wA oA gA
 (try rw[Nat.zero_add] at oA)
 (try rw[List.nil_append] at oA)
 obtain⟨aA,cA,hvA⟩:=own_formV oA
 subst hvA
 have kA:Below W1.heap.size W1 wA:=HE0.out.1.grown gA HE0.out.1.size (fun k e=>(oE.lt k e).1)
 clear oE gA hsE y0 y1 y2 y3 y4 y5 y6 y7 y8 y9
 obtain⟨gC,cB,hvB,_,_⟩:=own_form oA (by omega)
 simp only[Value.slice.injEq,true_and] at hvB
 obtain⟨rfl,rfl⟩:=hvB
 have kB:=kA
 have oB:=oA
 clear oA kA
 have eb:bl=al:=by rw[HX.out.2.2.1];unfold begA;rw[if_neg (by have:=HL.out;omega)]
 rw[← eb] at oB
 have hblL:bl.length=n7:=HX.out.2.1
 have gx:wA.cell? ⟨gC,n7 - 1,none⟩=some (I O x):=by
   rw[oB.cellAt (n7 - 1) (by omega)]
   rw[HX.out.1,hblL]
   unfold at0
   simp[show n7 - 1 < bl.length by omega]
 have fx:wA.frozen? ⟨gC,n7 - 1,none⟩=false:=oB.frozenAt (n7 - 1)
 have oS:(wA.setCell ⟨gC,n7 - 1,none⟩ (I O (9999))).ownsRow W1.heap.size 3 1 (Sz (some ⟨gC,0,none⟩) n7 cA) n7 ((bl.set (bl.length - 1) (9999)).map (Value.int .i64)):=by
   have h9:=(oB.stored (n7 - 1) (I O (9999))).1
   rw[List.map_set,hblL]
   exact h9
 have hgC:=(oB.lt gC rfl).1
 have kS:Below W1.heap.size W1 (wA.setCell ⟨gC,n7 - 1,none⟩ (I O (9999))):=Below.setCell (p:=⟨gC,n7 - 1,none⟩) kB hgC _
 have hneC:gC≠w.heap.size:=by have:=HB1.out.2;omega
 have i4:=HBX.out _ kS
 have bS:=HB1.out.1.trans (kS.mono HB1.out.1.size)
 have hVr:((wA.setCell ⟨gC,n7 - 1,none⟩ (I O (9999))).setCell ⟨w.heap.size,7,none⟩ (Sz (some ⟨gC,0,none⟩) n7 cA)).heap[w.heap.size+1]?=some (.cells #[I O 0,I O 0,Sz none 0 0,I O 0,I O 0,.bool false,I O 0,Sz none 0 0,Sz none 0 0,I O 0] 31 (0,0)):=by rw[box_other _ (by omega)];exact i4.2
 have q0:(wA.setCell ⟨gC,n7 - 1,none⟩ (I O (9999))).cell? ⟨w.heap.size,0,none⟩=some (I O W):=bxc i4.1 rfl
 have q1:(wA.setCell ⟨gC,n7 - 1,none⟩ (I O (9999))).cell? ⟨w.heap.size,1,none⟩=some (I O H):=bxc i4.1 rfl
 have q2:(wA.setCell ⟨gC,n7 - 1,none⟩ (I O (9999))).cell? ⟨w.heap.size,2,none⟩=some (Sz a n c):=bxc i4.1 rfl
 have q3:(wA.setCell ⟨gC,n7 - 1,none⟩ (I O (9999))).cell? ⟨w.heap.size,3,none⟩=some (I O X):=bxc i4.1 rfl
 have q4:(wA.setCell ⟨gC,n7 - 1,none⟩ (I O (9999))).cell? ⟨w.heap.size,4,none⟩=some (I O Y):=bxc i4.1 rfl
 have q5:(wA.setCell ⟨gC,n7 - 1,none⟩ (I O (9999))).cell? ⟨w.heap.size,5,none⟩=some (.bool wrp):=bxc i4.1 rfl
 have q6:(wA.setCell ⟨gC,n7 - 1,none⟩ (I O (9999))).cell? ⟨w.heap.size,6,none⟩=some (I O st):=bxc i4.1 rfl
 have q7:(wA.setCell ⟨gC,n7 - 1,none⟩ (I O (9999))).cell? ⟨w.heap.size,7,none⟩=some (Sz a7 n7 c7):=bxc i4.1 rfl
 have q8:(wA.setCell ⟨gC,n7 - 1,none⟩ (I O (9999))).cell? ⟨w.heap.size,8,none⟩=some (Sz a8 n8 c8):=bxc i4.1 rfl
 have q9:(wA.setCell ⟨gC,n7 - 1,none⟩ (I O (9999))).cell? ⟨w.heap.size,9,none⟩=some (I O be):=bxc i4.1 rfl
 have f7:(wA.setCell ⟨gC,n7 - 1,none⟩ (I O (9999))).frozen? ⟨w.heap.size,7,none⟩=false:=box_frozen i4.1
 have HLD:(loadVar 31 ⟨w.heap.size+1,0,none⟩).run Tryd.prog (((wA.setCell ⟨gC,n7 - 1,none⟩ (I O (9999))).setCell ⟨w.heap.size,7,none⟩ (Sz (some ⟨gC,0,none⟩) n7 cA)).setRow (w.heap.size+1) #[I O W,I O H,Sz a n c,I O X,I O Y,.bool wrp,I O st,Sz (some ⟨gC,0,none⟩) n7 cA,Sz a8 n8 c8,I O be])=.ok (.agg #[I O W,I O H,Sz a n c,I O X,I O Y,.bool wrp,I O st,Sz (some ⟨gC,0,none⟩) n7 cA,Sz a8 n8 c8,I O be]) (((wA.setCell ⟨gC,n7 - 1,none⟩ (I O (9999))).setCell ⟨w.heap.size,7,none⟩ (Sz (some ⟨gC,0,none⟩) n7 cA)).setRow (w.heap.size+1) #[I O W,I O H,Sz a n c,I O X,I O Y,.bool wrp,I O st,Sz (some ⟨gC,0,none⟩) n7 cA,Sz a8 n8 c8,I O be]):=run_loadVar_row _ _ _ _ _ _ _ (setRow_heap _ _ _ _ _ _ hVr) Tryd.underlying31 rfl (by kernel_rfl)
 have bF:Below w.heap.size w (((wA.setCell ⟨gC,n7 - 1,none⟩ (I O (9999))).setCell ⟨w.heap.size,7,none⟩ (Sz (some ⟨gC,0,none⟩) n7 cA)).setRow (w.heap.size+1) #[I O W,I O H,Sz a n c,I O X,I O Y,.bool wrp,I O st,Sz (some ⟨gC,0,none⟩) n7 cA,Sz a8 n8 c8,I O be]):=
   below_setRow (Below.setCell (p:=⟨w.heap.size,7,none⟩) bS (Nat.le_refl _) _) (Nat.le_add_right _ 1) _
 have rA:∃ F,Own (.sl .int) (((wA.setCell ⟨gC,n7 - 1,none⟩ (I O (9999))).setCell ⟨w.heap.size,7,none⟩ (Sz (some ⟨gC,0,none⟩) n7 cA)).setRow (w.heap.size+1) #[I O W,I O H,Sz a n c,I O X,I O Y,.bool wrp,I O st,Sz (some ⟨gC,0,none⟩) n7 cA,Sz a8 n8 c8,I O be]) W1.heap.size [Sz (some ⟨gC,0,none⟩) n7 cA] (bl.set (bl.length - 1) (9999)) F:=by
   obtain⟨F,hF⟩:=rowI_ownS (d:=bl.set (bl.length - 1) (9999)) (by simp;exact hblL) oS
   have hz:=HB1.out.2
   exact⟨F,hF.keep fun g hg=>by
     have:=(hF.lt g hg).1
     rw[setRow_other _ (w.heap.size+1) g _ (by omega),box_other _ (by omega)]⟩
 have HF:Hid (_∧_):=⟨bF,rA⟩
 have HUU:Hid (U=_):=HX.out.2.2.2
 clear i4 bF rA bS kS oS oB kB hgC eb hblL
 go_wp2_with (refine wpList_store_row rfl _ _ _ rfl _ _ rfl rfl _ _ hVr (by kernel_rfl) rfl (by simp[Value.oneCell']) ?_)
 (try simp only[Exit.inBlock,Exit.then])
 refine bodyPost_ret (by simp[results,Tryd.results55,asAddr,Act.put,HLD];try rfl) rfl ?_
 refine⟨[I O W,I O H,Sz a n c,I O X,I O Y,.bool wrp,I O st,Sz (some ⟨gC,0,none⟩) n7 cA,Sz a8 n8 c8,I O be],rfl,?_,HF.out.1⟩
 rw[HE.out,HUU.out]
 intro w'' hk r2 r7 r8
 obtain⟨F,hF⟩:=HF.out.2
 exact reads_Vt (d:=(((W,H,zs,X,Y,wrp,()),st,bl.set (bl.length - 1) (9999),pl,be,()):TD)) r2 (own_read hF HB1.out.1.size hk) r8
end Go.Proofs.YthodinpflcbklaaDoor
namespace Go.Proofs.YthodinpflcbklaaDoor
open Go.RowKit
set_option maxRecDepth 100000
theorem scsi_sz(W H X Y st be:Int)(wrp:Bool)(a a7 a8:Option Addr)(n c n7 c7 n8 c8:Nat)(zs al pl:List Int)(w:World)(hg:gokB (W,H,zs,X,Y,wrp,())=true)(h2:Reads (.sl .int) w [Sz a n c] zs)(h7:Reads (.sl .int) w [Sz a7 n7 c7] al)(h8:Reads (.sl .u8) w [Sz a8 n8 c8] pl)(hal:∀ i,0≤at0 al i∧at0 al i≤9999)(hal4:al.length≤4)(h0:n7=0):
   Calls Tryd.prog 55 #[.agg #[I O W,I O H,Sz a n c,I O X,I O Y,.bool wrp,I O st,Sz a7 n7 c7,Sz a8 n8 c8,I O be],I O 59] w fun e w'=>∃ o,e=.returned (.agg o.toArray)∧RK w w' o (csiT (((W,H,zs,X,Y,wrp,()),st,al,pl,be,()):TD) 59) (Sz a n c) (Sz a7 n7 c7) (Sz a8 n8 c8) zs al pl∧Below w.heap.size w w':=by
 obtain⟨i1,ji,jz0,jz1,jz2⟩:=info_parts Tryd.infoI
 obtain⟨W1,hW1,bW1,zW1,hA1,hZ1,HBX⟩:=mpro1 W H X Y st be wrp a a7 a8 n c n7 c7 n8 c8 w
 have HB1:Hid (Below w.heap.size w W1∧W1.heap.size=w.heap.size+2):=⟨bW1,zW1⟩
 have HW:Hid (W1=_):=hW1
 have HR:Hid (Reads (.sl .int) w [Sz a n c] zs∧Reads (.sl .u8) w [Sz a8 n8 c8] pl):=⟨h2,h8⟩
 obtain⟨hl7,hr7,_,_⟩:=reads_ints h7
 have HL:Hid (al.length=n7):=hl7
 have HSR:Hid (SrcZ w (Sz a7 n7 c7) n7 (al.map (Value.int .i64))):=srcZ_rdI hr7 hl7
 obtain⟨WE,hWE⟩:∃ U,U=W1.alloc (.cells #[] 3):=⟨_,rfl⟩
 have bE:Below W1.heap.size W1 WE:=by rw[hWE];exact(Below.refl _ _).alloc (Nat.le_refl _) _
 have oE:WE.ownsRow W1.heap.size 3 1 (Sz (some ⟨w.heap.size+1+1,0,none⟩) 0 0) 0 []:=by
   have h9:=World.ownsRow_lit (base:=W1.heap.size) (e:=3) (size:=1) W1 #[] 0 (Nat.le_refl _) (Nat.zero_le _) rfl
   rw[zW1] at h9
   rw[hWE,zW1]
   exact h9
 have hn74:n7≤4:=by omega
 have HE0:Hid (Below W1.heap.size W1 WE∧WE.ownsRow W1.heap.size 3 1 (Sz (some ⟨w.heap.size+1+1,0,none⟩) 0 0) 0 []):=⟨bE,oE⟩
 have HWE:Hid (WE=_):=hWE
 have HE:Hid (csiT (((W,H,zs,X,Y,wrp,()),st,al,pl,be,()):TD) 59=((W,H,zs,X,Y,wrp,()),st,([0]++[0]),pl,be,())):=by
   show (((W,H,zs,X,Y,wrp,()),st,semA al,pl,be,()):TD)=_
   have e9:semA al=([0]++[0]):=by
     unfold semA
     rw[show begA al=[0] by unfold begA;rw[if_pos (by omega)]];rfl
   rw[e9]
 subst h0
 clear hg h2 h7 h8 hal hal4 hr7 hl7 hW1 bW1 zW1 hA1 hZ1 hWE bE oE 
 have y0:WE.cell? ⟨w.heap.size,0,none⟩=some (I O W):=bxc (HBX.out _ HE0.out.1).1 rfl
 have y1:WE.cell? ⟨w.heap.size,1,none⟩=some (I O H):=bxc (HBX.out _ HE0.out.1).1 rfl
 have y2:WE.cell? ⟨w.heap.size,2,none⟩=some (Sz a n c):=bxc (HBX.out _ HE0.out.1).1 rfl
 have y3:WE.cell? ⟨w.heap.size,3,none⟩=some (I O X):=bxc (HBX.out _ HE0.out.1).1 rfl
 have y4:WE.cell? ⟨w.heap.size,4,none⟩=some (I O Y):=bxc (HBX.out _ HE0.out.1).1 rfl
 have y5:WE.cell? ⟨w.heap.size,5,none⟩=some (.bool wrp):=bxc (HBX.out _ HE0.out.1).1 rfl
 have y6:WE.cell? ⟨w.heap.size,6,none⟩=some (I O st):=bxc (HBX.out _ HE0.out.1).1 rfl
 have y7:WE.cell? ⟨w.heap.size,7,none⟩=some (Sz a7 0 c7):=bxc (HBX.out _ HE0.out.1).1 rfl
 have y8:WE.cell? ⟨w.heap.size,8,none⟩=some (Sz a8 n8 c8):=bxc (HBX.out _ HE0.out.1).1 rfl
 have y9:WE.cell? ⟨w.heap.size,9,none⟩=some (I O be):=bxc (HBX.out _ HE0.out.1).1 rfl
 have hsE:=srcZ_later HSR.out (HB1.out.1.trans (HE0.out.1.mono HB1.out.1.size))
 have oE:=HE0.out.2
 go_enter Tryd.func55,Tryd.ntmps55
 go_wp2_with (at_builtin;rw[← HW.out,← HWE.out];refine wpList_append_srcZ rfl _ _ 22 rfl W1.heap.size 3 i1 (I O 0) 1 8 Tryd.underlying22 ji jz0 jz1 jz2 rfl (by decide) _ 0 [] rfl oE (Sz a7 0 c7) 0 (al.map (Value.int .i64)) rfl ?c0 hsE ?c1 ?c3 ?c4 HE0.out.1.size ?_)
 case c0=>(rw[List.length_map,HL.out]) <;> omega
 case c1=>intro u hu;simp at hu;obtain⟨x,_,rfl⟩:=hu;rfl
 case c3=>unfold maxLen;omega
 case c4=>omega
 intro v7 wA oA gA
 (try rw[Nat.zero_add] at oA)
 (try rw[List.nil_append] at oA)
 obtain⟨aA,cA,hvA⟩:=own_formV oA
 subst hvA
 have kA:Below W1.heap.size W1 wA:=HE0.out.1.grown gA HE0.out.1.size (fun k e=>(oE.lt k e).1)
 clear oE gA hsE y0 y1 y2 y3 y4 y5 y6 y7 y8 y9
 have e0:al.map (Value.int .i64)=[]:=by rw[List.eq_nil_of_length_eq_zero HL.out];rfl
 rw[e0] at oA
 have bl:Below wA.heap.size wA (wA.alloc (.cells #[I O 0] 3)):=(Below.refl _ _).alloc (Nat.le_refl _) _
 have oA2:=own_later oA bl
 have sA:SrcZ (wA.alloc (.cells #[I O 0] 3)) (Sz (some ⟨wA.heap.size,0,none⟩) 1 1) 1 [I O 0]:=srcZ_lit (cs:=[I O 0]) (heap_alloc_new wA _)
 have kA2:Below W1.heap.size W1 (wA.alloc (.cells #[I O 0] 3)):=kA.trans (bl.mono kA.size)
 have y0:wA.cell? ⟨w.heap.size,0,none⟩=some (I O W):=bxc (HBX.out _ kA).1 rfl
 have y1:wA.cell? ⟨w.heap.size,1,none⟩=some (I O H):=bxc (HBX.out _ kA).1 rfl
 have y2:wA.cell? ⟨w.heap.size,2,none⟩=some (Sz a n c):=bxc (HBX.out _ kA).1 rfl
 have y3:wA.cell? ⟨w.heap.size,3,none⟩=some (I O X):=bxc (HBX.out _ kA).1 rfl
 have y4:wA.cell? ⟨w.heap.size,4,none⟩=some (I O Y):=bxc (HBX.out _ kA).1 rfl
 have y5:wA.cell? ⟨w.heap.size,5,none⟩=some (.bool wrp):=bxc (HBX.out _ kA).1 rfl
 have y6:wA.cell? ⟨w.heap.size,6,none⟩=some (I O st):=bxc (HBX.out _ kA).1 rfl
 have y7:wA.cell? ⟨w.heap.size,7,none⟩=some (Sz a7 0 c7):=bxc (HBX.out _ kA).1 rfl
 have y8:wA.cell? ⟨w.heap.size,8,none⟩=some (Sz a8 n8 c8):=bxc (HBX.out _ kA).1 rfl
 have y9:wA.cell? ⟨w.heap.size,9,none⟩=some (I O be):=bxc (HBX.out _ kA).1 rfl
 go_wp2_with (at_builtin;refine wpList_append_srcZ rfl _ _ 22 rfl W1.heap.size 3 i1 (I O 0) 1 8 Tryd.underlying22 ji jz0 jz1 jz2 rfl (by decide) _ 0 [] rfl oA2 (Sz (some ⟨wA.heap.size,0,none⟩) 1 1) 1 [I O 0] rfl rfl sA (by intro u hu;simp at hu;subst hu;rfl) (by unfold maxLen;omega) (by omega) kA2.size ?_)
 intro v8 wB oB gB
 (try rw[Nat.zero_add] at oB)
 (try rw[List.nil_append] at oB)
 obtain⟨gC,cB,hvB,_,_⟩:=own_form oB (by omega)
 subst hvB
 have kB:Below W1.heap.size W1 wB:=kA2.grown gB kA2.size (fun k e=>(oA2.lt k e).1)
 have oB:wB.ownsRow W1.heap.size 3 1 (Sz (some ⟨gC,0,none⟩) 1 cB) 1 (([0]:List Int).map (Value.int .i64)):=oB
 clear oA oA2 sA bl kA kA2 gB y0 y1 y2 y3 y4 y5 y6 y7 y8 y9
 have bl2:Below wB.heap.size wB (wB.alloc (.cells #[I O 0] 3)):=(Below.refl _ _).alloc (Nat.le_refl _) _
 have oB2:=own_later oB bl2
 have sB:SrcZ (wB.alloc (.cells #[I O 0] 3)) (Sz (some ⟨wB.heap.size,0,none⟩) 1 1) 1 [I O 0]:=srcZ_lit (cs:=[I O 0]) (heap_alloc_new wB _)
 have kB2:Below W1.heap.size W1 (wB.alloc (.cells #[I O 0] 3)):=kB.trans (bl2.mono kB.size)
 go_wp2_with (at_builtin;refine wpList_append_srcZ rfl _ _ 22 rfl W1.heap.size 3 i1 (I O 0) 1 8 Tryd.underlying22 ji jz0 jz1 jz2 rfl (by decide) _ (1) (([0]:List Int).map (Value.int .i64)) rfl oB2 (Sz (some ⟨wB.heap.size,0,none⟩) 1 1) 1 [I O 0] rfl rfl sB (by intro u hu;simp at hu;subst hu;rfl) (by unfold maxLen;omega) (by omega) kB2.size ?_)
 intro v9 wD oD gD
 obtain⟨gE,cE,hvD,_,_⟩:=own_form oD (by omega)
 subst hvD
 have kD:Below W1.heap.size W1 wD:=kB2.grown gD kB2.size (fun k e=>(oB2.lt k e).1)
 have oS:wD.ownsRow W1.heap.size 3 1 (Sz (some ⟨gE,0,none⟩) (1+1) cE) (1+1) ((([0]:List Int)++[0]).map (Value.int .i64)):=by rw[List.map_append];exact oD
 clear oB oB2 sB bl2 kB kB2 gD oD
 have i4:=HBX.out _ kD
 have bS:=HB1.out.1.trans (kD.mono HB1.out.1.size)
 have hVr:(wD.setCell ⟨w.heap.size,7,none⟩ (Sz (some ⟨gE,0,none⟩) (1+1) cE)).heap[w.heap.size+1]?=some (.cells #[I O 0,I O 0,Sz none 0 0,I O 0,I O 0,.bool false,I O 0,Sz none 0 0,Sz none 0 0,I O 0] 31 (0,0)):=by rw[box_other _ (by omega)];exact i4.2
 have q0:wD.cell? ⟨w.heap.size,0,none⟩=some (I O W):=bxc i4.1 rfl
 have q1:wD.cell? ⟨w.heap.size,1,none⟩=some (I O H):=bxc i4.1 rfl
 have q2:wD.cell? ⟨w.heap.size,2,none⟩=some (Sz a n c):=bxc i4.1 rfl
 have q3:wD.cell? ⟨w.heap.size,3,none⟩=some (I O X):=bxc i4.1 rfl
 have q4:wD.cell? ⟨w.heap.size,4,none⟩=some (I O Y):=bxc i4.1 rfl
 have q5:wD.cell? ⟨w.heap.size,5,none⟩=some (.bool wrp):=bxc i4.1 rfl
 have q6:wD.cell? ⟨w.heap.size,6,none⟩=some (I O st):=bxc i4.1 rfl
 have q7:wD.cell? ⟨w.heap.size,7,none⟩=some (Sz a7 0 c7):=bxc i4.1 rfl
 have q8:wD.cell? ⟨w.heap.size,8,none⟩=some (Sz a8 n8 c8):=bxc i4.1 rfl
 have q9:wD.cell? ⟨w.heap.size,9,none⟩=some (I O be):=bxc i4.1 rfl
 have f7:wD.frozen? ⟨w.heap.size,7,none⟩=false:=box_frozen i4.1
 have HLD:(loadVar 31 ⟨w.heap.size+1,0,none⟩).run Tryd.prog ((wD.setCell ⟨w.heap.size,7,none⟩ (Sz (some ⟨gE,0,none⟩) (1+1) cE)).setRow (w.heap.size+1) #[I O W,I O H,Sz a n c,I O X,I O Y,.bool wrp,I O st,Sz (some ⟨gE,0,none⟩) (1+1) cE,Sz a8 n8 c8,I O be])=.ok (.agg #[I O W,I O H,Sz a n c,I O X,I O Y,.bool wrp,I O st,Sz (some ⟨gE,0,none⟩) (1+1) cE,Sz a8 n8 c8,I O be]) ((wD.setCell ⟨w.heap.size,7,none⟩ (Sz (some ⟨gE,0,none⟩) (1+1) cE)).setRow (w.heap.size+1) #[I O W,I O H,Sz a n c,I O X,I O Y,.bool wrp,I O st,Sz (some ⟨gE,0,none⟩) (1+1) cE,Sz a8 n8 c8,I O be]):=run_loadVar_row _ _ _ _ _ _ _ (setRow_heap _ _ _ _ _ _ hVr) Tryd.underlying31 rfl (by kernel_rfl)
 have bF:Below w.heap.size w ((wD.setCell ⟨w.heap.size,7,none⟩ (Sz (some ⟨gE,0,none⟩) (1+1) cE)).setRow (w.heap.size+1) #[I O W,I O H,Sz a n c,I O X,I O Y,.bool wrp,I O st,Sz (some ⟨gE,0,none⟩) (1+1) cE,Sz a8 n8 c8,I O be]):=
   below_setRow (Below.setCell (p:=⟨w.heap.size,7,none⟩) bS (Nat.le_refl _) _) (Nat.le_add_right _ 1) _
 have rA:∃ F,Own (.sl .int) ((wD.setCell ⟨w.heap.size,7,none⟩ (Sz (some ⟨gE,0,none⟩) (1+1) cE)).setRow (w.heap.size+1) #[I O W,I O H,Sz a n c,I O X,I O Y,.bool wrp,I O st,Sz (some ⟨gE,0,none⟩) (1+1) cE,Sz a8 n8 c8,I O be]) W1.heap.size [Sz (some ⟨gE,0,none⟩) (1+1) cE] (([0]++[0]:List Int)) F:=by
   obtain⟨F,hF⟩:=rowI_ownS (d:=([0]++[0]:List Int)) (by simp) oS
   have hz:=HB1.out.2
   exact⟨F,hF.keep fun g hg=>by
     have:=(hF.lt g hg).1
     rw[setRow_other _ (w.heap.size+1) g _ (by omega),box_other _ (by omega)]⟩
 have HF:Hid (_∧_):=⟨bF,rA⟩
 clear i4 bF rA bS oS kD
 go_wp2_with (refine wpList_store_row rfl _ _ _ rfl _ _ rfl rfl _ _ hVr (by kernel_rfl) rfl (by simp[Value.oneCell']) ?_)
 (try simp only[Exit.inBlock,Exit.then])
 refine bodyPost_ret (by simp[results,Tryd.results55,asAddr,Act.put,HLD];try rfl) rfl ?_
 refine⟨[I O W,I O H,Sz a n c,I O X,I O Y,.bool wrp,I O st,Sz (some ⟨gE,0,none⟩) (1+1) cE,Sz a8 n8 c8,I O be],rfl,?_,HF.out.1⟩
 rw[HE.out]
 intro w'' hk r2 r7 r8
 obtain⟨F,hF⟩:=HF.out.2
 exact reads_Vt (d:=(((W,H,zs,X,Y,wrp,()),st,([0]++[0]:List Int),pl,be,()):TD)) r2 (own_read hF HB1.out.1.size hk) r8
end Go.Proofs.YthodinpflcbklaaDoor
namespace Go.Proofs.YthodinpflcbklaaDoor
open Go.RowKit
set_option maxRecDepth 100000
theorem scsi_ss(W H X Y st be:Int)(wrp:Bool)(a a7 a8:Option Addr)(n c n7 c7 n8 c8:Nat)(zs al pl:List Int)(w:World)(hg:gokB (W,H,zs,X,Y,wrp,())=true)(h2:Reads (.sl .int) w [Sz a n c] zs)(h7:Reads (.sl .int) w [Sz a7 n7 c7] al)(h8:Reads (.sl .u8) w [Sz a8 n8 c8] pl)(hal:∀ i,0≤at0 al i∧at0 al i≤9999)(hal4:al.length≤4)(h0:0 < n7)(h4:n7 < 4):
   Calls Tryd.prog 55 #[.agg #[I O W,I O H,Sz a n c,I O X,I O Y,.bool wrp,I O st,Sz a7 n7 c7,Sz a8 n8 c8,I O be],I O 59] w fun e w'=>∃ o,e=.returned (.agg o.toArray)∧RK w w' o (csiT (((W,H,zs,X,Y,wrp,()),st,al,pl,be,()):TD) 59) (Sz a n c) (Sz a7 n7 c7) (Sz a8 n8 c8) zs al pl∧Below w.heap.size w w':=by
 obtain⟨i1,ji,jz0,jz1,jz2⟩:=info_parts Tryd.infoI
 obtain⟨W1,hW1,bW1,zW1,hA1,hZ1,HBX⟩:=mpro1 W H X Y st be wrp a a7 a8 n c n7 c7 n8 c8 w
 have HB1:Hid (Below w.heap.size w W1∧W1.heap.size=w.heap.size+2):=⟨bW1,zW1⟩
 have HW:Hid (W1=_):=hW1
 have HR:Hid (Reads (.sl .int) w [Sz a n c] zs∧Reads (.sl .u8) w [Sz a8 n8 c8] pl):=⟨h2,h8⟩
 obtain⟨hl7,hr7,_,_⟩:=reads_ints h7
 have HL:Hid (al.length=n7):=hl7
 have HSR:Hid (SrcZ w (Sz a7 n7 c7) n7 (al.map (Value.int .i64))):=srcZ_rdI hr7 hl7
 obtain⟨WE,hWE⟩:∃ U,U=W1.alloc (.cells #[] 3):=⟨_,rfl⟩
 have bE:Below W1.heap.size W1 WE:=by rw[hWE];exact(Below.refl _ _).alloc (Nat.le_refl _) _
 have oE:WE.ownsRow W1.heap.size 3 1 (Sz (some ⟨w.heap.size+1+1,0,none⟩) 0 0) 0 []:=by
   have h9:=World.ownsRow_lit (base:=W1.heap.size) (e:=3) (size:=1) W1 #[] 0 (Nat.le_refl _) (Nat.zero_le _) rfl
   rw[zW1] at h9
   rw[hWE,zW1]
   exact h9
 have hn74:n7≤4:=by omega
 have HE0:Hid (Below W1.heap.size W1 WE∧WE.ownsRow W1.heap.size 3 1 (Sz (some ⟨w.heap.size+1+1,0,none⟩) 0 0) 0 []):=⟨bE,oE⟩
 have HWE:Hid (WE=_):=hWE
 have HE:Hid (csiT (((W,H,zs,X,Y,wrp,()),st,al,pl,be,()):TD) 59=((W,H,zs,X,Y,wrp,()),st,(al++[0]),pl,be,())):=by
   show (((W,H,zs,X,Y,wrp,()),st,semA al,pl,be,()):TD)=_
   have e9:semA al=(al++[0]):=by
     unfold semA
     rw[show begA al=al by unfold begA;rw[if_neg (by omega)],if_pos (by omega)]
   rw[e9]
 have dn:((n7:Int)==0)=false:=by simp;omega
 have d4:(n7:Int) < 4:=by omega
 have HN:Hid (0 < n7):=h0
 clear hg h2 h7 h8 hal hal4 hr7 hl7 hW1 bW1 zW1 hA1 hZ1 hWE bE oE h0
 have y0:WE.cell? ⟨w.heap.size,0,none⟩=some (I O W):=bxc (HBX.out _ HE0.out.1).1 rfl
 have y1:WE.cell? ⟨w.heap.size,1,none⟩=some (I O H):=bxc (HBX.out _ HE0.out.1).1 rfl
 have y2:WE.cell? ⟨w.heap.size,2,none⟩=some (Sz a n c):=bxc (HBX.out _ HE0.out.1).1 rfl
 have y3:WE.cell? ⟨w.heap.size,3,none⟩=some (I O X):=bxc (HBX.out _ HE0.out.1).1 rfl
 have y4:WE.cell? ⟨w.heap.size,4,none⟩=some (I O Y):=bxc (HBX.out _ HE0.out.1).1 rfl
 have y5:WE.cell? ⟨w.heap.size,5,none⟩=some (.bool wrp):=bxc (HBX.out _ HE0.out.1).1 rfl
 have y6:WE.cell? ⟨w.heap.size,6,none⟩=some (I O st):=bxc (HBX.out _ HE0.out.1).1 rfl
 have y7:WE.cell? ⟨w.heap.size,7,none⟩=some (Sz a7 n7 c7):=bxc (HBX.out _ HE0.out.1).1 rfl
 have y8:WE.cell? ⟨w.heap.size,8,none⟩=some (Sz a8 n8 c8):=bxc (HBX.out _ HE0.out.1).1 rfl
 have y9:WE.cell? ⟨w.heap.size,9,none⟩=some (I O be):=bxc (HBX.out _ HE0.out.1).1 rfl
 have hsE:=srcZ_later HSR.out (HB1.out.1.trans (HE0.out.1.mono HB1.out.1.size))
 have oE:=HE0.out.2
 go_enter Tryd.func55,Tryd.ntmps55
 go_wp2_with (at_builtin;rw[← HW.out,← HWE.out];refine wpList_append_srcZ rfl _ _ 22 rfl W1.heap.size 3 i1 (I O 0) 1 8 Tryd.underlying22 ji jz0 jz1 jz2 rfl (by decide) _ 0 [] rfl oE (Sz a7 n7 c7) n7 (al.map (Value.int .i64)) rfl ?c0 hsE ?c1 ?c3 ?c4 HE0.out.1.size ?_)
 case c0=>(rw[List.length_map,HL.out]) <;> omega
 case c1=>intro u hu;simp at hu;obtain⟨x,_,rfl⟩:=hu;rfl
 case c3=>unfold maxLen;omega
 case c4=>omega
 intro v7 wA oA gA
 (try rw[Nat.zero_add] at oA)
 (try rw[List.nil_append] at oA)
 obtain⟨aA,cA,hvA⟩:=own_formV oA
 subst hvA
 have kA:Below W1.heap.size W1 wA:=HE0.out.1.grown gA HE0.out.1.size (fun k e=>(oE.lt k e).1)
 clear oE gA hsE y0 y1 y2 y3 y4 y5 y6 y7 y8 y9
 obtain⟨gC,cB,hvB,_,_⟩:=own_form oA HN.out
 simp only[Value.slice.injEq,true_and] at hvB
 obtain⟨rfl,rfl⟩:=hvB
 have kB:=kA
 have oB:=oA
 clear oA kA
 have bl2:Below wA.heap.size wA (wA.alloc (.cells #[I O 0] 3)):=(Below.refl _ _).alloc (Nat.le_refl _) _
 have oB2:=own_later oB bl2
 have sB:SrcZ (wA.alloc (.cells #[I O 0] 3)) (Sz (some ⟨wA.heap.size,0,none⟩) 1 1) 1 [I O 0]:=srcZ_lit (cs:=[I O 0]) (heap_alloc_new wA _)
 have kB2:Below W1.heap.size W1 (wA.alloc (.cells #[I O 0] 3)):=kB.trans (bl2.mono kB.size)
 go_wp2_with (at_builtin;refine wpList_append_srcZ rfl _ _ 22 rfl W1.heap.size 3 i1 (I O 0) 1 8 Tryd.underlying22 ji jz0 jz1 jz2 rfl (by decide) _ (n7) (al.map (Value.int .i64)) rfl oB2 (Sz (some ⟨wA.heap.size,0,none⟩) 1 1) 1 [I O 0] rfl rfl sB (by intro u hu;simp at hu;subst hu;rfl) (by unfold maxLen;omega) (by omega) kB2.size ?_)
 intro v9 wD oD gD
 obtain⟨gE,cE,hvD,_,_⟩:=own_form oD (by omega)
 subst hvD
 have kD:Below W1.heap.size W1 wD:=kB2.grown gD kB2.size (fun k e=>(oB2.lt k e).1)
 have oS:wD.ownsRow W1.heap.size 3 1 (Sz (some ⟨gE,0,none⟩) (n7+1) cE) (n7+1) ((al++[0]).map (Value.int .i64)):=by rw[List.map_append];exact oD
 clear oB oB2 sB bl2 kB kB2 gD oD
 have i4:=HBX.out _ kD
 have bS:=HB1.out.1.trans (kD.mono HB1.out.1.size)
 have hVr:(wD.setCell ⟨w.heap.size,7,none⟩ (Sz (some ⟨gE,0,none⟩) (n7+1) cE)).heap[w.heap.size+1]?=some (.cells #[I O 0,I O 0,Sz none 0 0,I O 0,I O 0,.bool false,I O 0,Sz none 0 0,Sz none 0 0,I O 0] 31 (0,0)):=by rw[box_other _ (by omega)];exact i4.2
 have q0:wD.cell? ⟨w.heap.size,0,none⟩=some (I O W):=bxc i4.1 rfl
 have q1:wD.cell? ⟨w.heap.size,1,none⟩=some (I O H):=bxc i4.1 rfl
 have q2:wD.cell? ⟨w.heap.size,2,none⟩=some (Sz a n c):=bxc i4.1 rfl
 have q3:wD.cell? ⟨w.heap.size,3,none⟩=some (I O X):=bxc i4.1 rfl
 have q4:wD.cell? ⟨w.heap.size,4,none⟩=some (I O Y):=bxc i4.1 rfl
 have q5:wD.cell? ⟨w.heap.size,5,none⟩=some (.bool wrp):=bxc i4.1 rfl
 have q6:wD.cell? ⟨w.heap.size,6,none⟩=some (I O st):=bxc i4.1 rfl
 have q7:wD.cell? ⟨w.heap.size,7,none⟩=some (Sz a7 n7 c7):=bxc i4.1 rfl
 have q8:wD.cell? ⟨w.heap.size,8,none⟩=some (Sz a8 n8 c8):=bxc i4.1 rfl
 have q9:wD.cell? ⟨w.heap.size,9,none⟩=some (I O be):=bxc i4.1 rfl
 have f7:wD.frozen? ⟨w.heap.size,7,none⟩=false:=box_frozen i4.1
 have HLD:(loadVar 31 ⟨w.heap.size+1,0,none⟩).run Tryd.prog ((wD.setCell ⟨w.heap.size,7,none⟩ (Sz (some ⟨gE,0,none⟩) (n7+1) cE)).setRow (w.heap.size+1) #[I O W,I O H,Sz a n c,I O X,I O Y,.bool wrp,I O st,Sz (some ⟨gE,0,none⟩) (n7+1) cE,Sz a8 n8 c8,I O be])=.ok (.agg #[I O W,I O H,Sz a n c,I O X,I O Y,.bool wrp,I O st,Sz (some ⟨gE,0,none⟩) (n7+1) cE,Sz a8 n8 c8,I O be]) ((wD.setCell ⟨w.heap.size,7,none⟩ (Sz (some ⟨gE,0,none⟩) (n7+1) cE)).setRow (w.heap.size+1) #[I O W,I O H,Sz a n c,I O X,I O Y,.bool wrp,I O st,Sz (some ⟨gE,0,none⟩) (n7+1) cE,Sz a8 n8 c8,I O be]):=run_loadVar_row _ _ _ _ _ _ _ (setRow_heap _ _ _ _ _ _ hVr) Tryd.underlying31 rfl (by kernel_rfl)
 have bF:Below w.heap.size w ((wD.setCell ⟨w.heap.size,7,none⟩ (Sz (some ⟨gE,0,none⟩) (n7+1) cE)).setRow (w.heap.size+1) #[I O W,I O H,Sz a n c,I O X,I O Y,.bool wrp,I O st,Sz (some ⟨gE,0,none⟩) (n7+1) cE,Sz a8 n8 c8,I O be]):=
   below_setRow (Below.setCell (p:=⟨w.heap.size,7,none⟩) bS (Nat.le_refl _) _) (Nat.le_add_right _ 1) _
 have rA:∃ F,Own (.sl .int) ((wD.setCell ⟨w.heap.size,7,none⟩ (Sz (some ⟨gE,0,none⟩) (n7+1) cE)).setRow (w.heap.size+1) #[I O W,I O H,Sz a n c,I O X,I O Y,.bool wrp,I O st,Sz (some ⟨gE,0,none⟩) (n7+1) cE,Sz a8 n8 c8,I O be]) W1.heap.size [Sz (some ⟨gE,0,none⟩) (n7+1) cE] ((al++[0])) F:=by
   obtain⟨F,hF⟩:=rowI_ownS (d:=(al++[0])) (by simp;rw[HL.out]) oS
   have hz:=HB1.out.2
   exact⟨F,hF.keep fun g hg=>by
     have:=(hF.lt g hg).1
     rw[setRow_other _ (w.heap.size+1) g _ (by omega),box_other _ (by omega)]⟩
 have HF:Hid (_∧_):=⟨bF,rA⟩
 clear i4 bF rA bS oS kD
 go_wp2_with (refine wpList_store_row rfl _ _ _ rfl _ _ rfl rfl _ _ hVr (by kernel_rfl) rfl (by simp[Value.oneCell']) ?_)
 (try simp only[Exit.inBlock,Exit.then])
 refine bodyPost_ret (by simp[results,Tryd.results55,asAddr,Act.put,HLD];try rfl) rfl ?_
 refine⟨[I O W,I O H,Sz a n c,I O X,I O Y,.bool wrp,I O st,Sz (some ⟨gE,0,none⟩) (n7+1) cE,Sz a8 n8 c8,I O be],rfl,?_,HF.out.1⟩
 rw[HE.out]
 intro w'' hk r2 r7 r8
 obtain⟨F,hF⟩:=HF.out.2
 exact reads_Vt (d:=(((W,H,zs,X,Y,wrp,()),st,(al++[0]),pl,be,()):TD)) r2 (own_read hF HB1.out.1.size hk) r8
end Go.Proofs.YthodinpflcbklaaDoor
namespace Go.Proofs.YthodinpflcbklaaDoor
open Go.RowKit
set_option maxRecDepth 100000
theorem scsi_sf(W H X Y st be:Int)(wrp:Bool)(a a7 a8:Option Addr)(n c n7 c7 n8 c8:Nat)(zs al pl:List Int)(w:World)(hg:gokB (W,H,zs,X,Y,wrp,())=true)(h2:Reads (.sl .int) w [Sz a n c] zs)(h7:Reads (.sl .int) w [Sz a7 n7 c7] al)(h8:Reads (.sl .u8) w [Sz a8 n8 c8] pl)(hal:∀ i,0≤at0 al i∧at0 al i≤9999)(hal4:al.length≤4)(h4:n7=4):
   Calls Tryd.prog 55 #[.agg #[I O W,I O H,Sz a n c,I O X,I O Y,.bool wrp,I O st,Sz a7 n7 c7,Sz a8 n8 c8,I O be],I O 59] w fun e w'=>∃ o,e=.returned (.agg o.toArray)∧RK w w' o (csiT (((W,H,zs,X,Y,wrp,()),st,al,pl,be,()):TD) 59) (Sz a n c) (Sz a7 n7 c7) (Sz a8 n8 c8) zs al pl∧Below w.heap.size w w':=by
 obtain⟨i1,ji,jz0,jz1,jz2⟩:=info_parts Tryd.infoI
 obtain⟨W1,hW1,bW1,zW1,hA1,hZ1,HBX⟩:=mpro1 W H X Y st be wrp a a7 a8 n c n7 c7 n8 c8 w
 have HB1:Hid (Below w.heap.size w W1∧W1.heap.size=w.heap.size+2):=⟨bW1,zW1⟩
 have HW:Hid (W1=_):=hW1
 have HR:Hid (Reads (.sl .int) w [Sz a n c] zs∧Reads (.sl .u8) w [Sz a8 n8 c8] pl):=⟨h2,h8⟩
 obtain⟨hl7,hr7,_,_⟩:=reads_ints h7
 have HL:Hid (al.length=n7):=hl7
 have HSR:Hid (SrcZ w (Sz a7 n7 c7) n7 (al.map (Value.int .i64))):=srcZ_rdI hr7 hl7
 obtain⟨WE,hWE⟩:∃ U,U=W1.alloc (.cells #[] 3):=⟨_,rfl⟩
 have bE:Below W1.heap.size W1 WE:=by rw[hWE];exact(Below.refl _ _).alloc (Nat.le_refl _) _
 have oE:WE.ownsRow W1.heap.size 3 1 (Sz (some ⟨w.heap.size+1+1,0,none⟩) 0 0) 0 []:=by
   have h9:=World.ownsRow_lit (base:=W1.heap.size) (e:=3) (size:=1) W1 #[] 0 (Nat.le_refl _) (Nat.zero_le _) rfl
   rw[zW1] at h9
   rw[hWE,zW1]
   exact h9
 have hn74:n7≤4:=by omega
 have HE0:Hid (Below W1.heap.size W1 WE∧WE.ownsRow W1.heap.size 3 1 (Sz (some ⟨w.heap.size+1+1,0,none⟩) 0 0) 0 []):=⟨bE,oE⟩
 have HWE:Hid (WE=_):=hWE
 have HE:Hid (csiT (((W,H,zs,X,Y,wrp,()),st,al,pl,be,()):TD) 59=((W,H,zs,X,Y,wrp,()),st,al,pl,be,())):=by
   show (((W,H,zs,X,Y,wrp,()),st,semA al,pl,be,()):TD)=_
   have e9:semA al=al:=by
     unfold semA
     rw[show begA al=al by unfold begA;rw[if_neg (by omega)],if_neg (by omega)]
   rw[e9]
 subst h4
 clear hg h2 h7 h8 hal hal4 hr7 hl7 hW1 bW1 zW1 hA1 hZ1 hWE bE oE 
 have y0:WE.cell? ⟨w.heap.size,0,none⟩=some (I O W):=bxc (HBX.out _ HE0.out.1).1 rfl
 have y1:WE.cell? ⟨w.heap.size,1,none⟩=some (I O H):=bxc (HBX.out _ HE0.out.1).1 rfl
 have y2:WE.cell? ⟨w.heap.size,2,none⟩=some (Sz a n c):=bxc (HBX.out _ HE0.out.1).1 rfl
 have y3:WE.cell? ⟨w.heap.size,3,none⟩=some (I O X):=bxc (HBX.out _ HE0.out.1).1 rfl
 have y4:WE.cell? ⟨w.heap.size,4,none⟩=some (I O Y):=bxc (HBX.out _ HE0.out.1).1 rfl
 have y5:WE.cell? ⟨w.heap.size,5,none⟩=some (.bool wrp):=bxc (HBX.out _ HE0.out.1).1 rfl
 have y6:WE.cell? ⟨w.heap.size,6,none⟩=some (I O st):=bxc (HBX.out _ HE0.out.1).1 rfl
 have y7:WE.cell? ⟨w.heap.size,7,none⟩=some (Sz a7 4 c7):=bxc (HBX.out _ HE0.out.1).1 rfl
 have y8:WE.cell? ⟨w.heap.size,8,none⟩=some (Sz a8 n8 c8):=bxc (HBX.out _ HE0.out.1).1 rfl
 have y9:WE.cell? ⟨w.heap.size,9,none⟩=some (I O be):=bxc (HBX.out _ HE0.out.1).1 rfl
 have hsE:=srcZ_later HSR.out (HB1.out.1.trans (HE0.out.1.mono HB1.out.1.size))
 have oE:=HE0.out.2
 go_enter Tryd.func55,Tryd.ntmps55
 go_wp2_with (at_builtin;rw[← HW.out,← HWE.out];refine wpList_append_srcZ rfl _ _ 22 rfl W1.heap.size 3 i1 (I O 0) 1 8 Tryd.underlying22 ji jz0 jz1 jz2 rfl (by decide) _ 0 [] rfl oE (Sz a7 4 c7) 4 (al.map (Value.int .i64)) rfl ?c0 hsE ?c1 ?c3 ?c4 HE0.out.1.size ?_)
 case c0=>(rw[List.length_map,HL.out]) <;> omega
 case c1=>intro u hu;simp at hu;obtain⟨x,_,rfl⟩:=hu;rfl
 case c3=>unfold maxLen;omega
 case c4=>omega
 intro v7 wA oA gA
 (try rw[Nat.zero_add] at oA)
 (try rw[List.nil_append] at oA)
 obtain⟨aA,cA,hvA⟩:=own_formV oA
 subst hvA
 have kA:Below W1.heap.size W1 wA:=HE0.out.1.grown gA HE0.out.1.size (fun k e=>(oE.lt k e).1)
 clear oE gA hsE y0 y1 y2 y3 y4 y5 y6 y7 y8 y9
 obtain⟨gC,cB,hvB,_,_⟩:=own_form oA (by omega)
 simp only[Value.slice.injEq,true_and] at hvB
 obtain⟨rfl,rfl⟩:=hvB
 have kB:=kA
 have oB:=oA
 clear oA kA
 have i4:=HBX.out _ kB
 have bS:=HB1.out.1.trans (kB.mono HB1.out.1.size)
 have hVr:(wA.setCell ⟨w.heap.size,7,none⟩ (Sz (some ⟨gC,0,none⟩) 4 cA)).heap[w.heap.size+1]?=some (.cells #[I O 0,I O 0,Sz none 0 0,I O 0,I O 0,.bool false,I O 0,Sz none 0 0,Sz none 0 0,I O 0] 31 (0,0)):=by rw[box_other _ (by omega)];exact i4.2
 have q0:wA.cell? ⟨w.heap.size,0,none⟩=some (I O W):=bxc i4.1 rfl
 have q1:wA.cell? ⟨w.heap.size,1,none⟩=some (I O H):=bxc i4.1 rfl
 have q2:wA.cell? ⟨w.heap.size,2,none⟩=some (Sz a n c):=bxc i4.1 rfl
 have q3:wA.cell? ⟨w.heap.size,3,none⟩=some (I O X):=bxc i4.1 rfl
 have q4:wA.cell? ⟨w.heap.size,4,none⟩=some (I O Y):=bxc i4.1 rfl
 have q5:wA.cell? ⟨w.heap.size,5,none⟩=some (.bool wrp):=bxc i4.1 rfl
 have q6:wA.cell? ⟨w.heap.size,6,none⟩=some (I O st):=bxc i4.1 rfl
 have q7:wA.cell? ⟨w.heap.size,7,none⟩=some (Sz a7 4 c7):=bxc i4.1 rfl
 have q8:wA.cell? ⟨w.heap.size,8,none⟩=some (Sz a8 n8 c8):=bxc i4.1 rfl
 have q9:wA.cell? ⟨w.heap.size,9,none⟩=some (I O be):=bxc i4.1 rfl
 have f7:wA.frozen? ⟨w.heap.size,7,none⟩=false:=box_frozen i4.1
 have HLD:(loadVar 31 ⟨w.heap.size+1,0,none⟩).run Tryd.prog ((wA.setCell ⟨w.heap.size,7,none⟩ (Sz (some ⟨gC,0,none⟩) 4 cA)).setRow (w.heap.size+1) #[I O W,I O H,Sz a n c,I O X,I O Y,.bool wrp,I O st,Sz (some ⟨gC,0,none⟩) 4 cA,Sz a8 n8 c8,I O be])=.ok (.agg #[I O W,I O H,Sz a n c,I O X,I O Y,.bool wrp,I O st,Sz (some ⟨gC,0,none⟩) 4 cA,Sz a8 n8 c8,I O be]) ((wA.setCell ⟨w.heap.size,7,none⟩ (Sz (some ⟨gC,0,none⟩) 4 cA)).setRow (w.heap.size+1) #[I O W,I O H,Sz a n c,I O X,I O Y,.bool wrp,I O st,Sz (some ⟨gC,0,none⟩) 4 cA,Sz a8 n8 c8,I O be]):=run_loadVar_row _ _ _ _ _ _ _ (setRow_heap _ _ _ _ _ _ hVr) Tryd.underlying31 rfl (by kernel_rfl)
 have bF:Below w.heap.size w ((wA.setCell ⟨w.heap.size,7,none⟩ (Sz (some ⟨gC,0,none⟩) 4 cA)).setRow (w.heap.size+1) #[I O W,I O H,Sz a n c,I O X,I O Y,.bool wrp,I O st,Sz (some ⟨gC,0,none⟩) 4 cA,Sz a8 n8 c8,I O be]):=
   below_setRow (Below.setCell (p:=⟨w.heap.size,7,none⟩) bS (Nat.le_refl _) _) (Nat.le_add_right _ 1) _
 have rA:∃ F,Own (.sl .int) ((wA.setCell ⟨w.heap.size,7,none⟩ (Sz (some ⟨gC,0,none⟩) 4 cA)).setRow (w.heap.size+1) #[I O W,I O H,Sz a n c,I O X,I O Y,.bool wrp,I O st,Sz (some ⟨gC,0,none⟩) 4 cA,Sz a8 n8 c8,I O be]) W1.heap.size [Sz (some ⟨gC,0,none⟩) 4 cA] (al) F:=by
   obtain⟨F,hF⟩:=rowI_ownS (d:=al) HL.out oB
   have hz:=HB1.out.2
   exact⟨F,hF.keep fun g hg=>by
     have:=(hF.lt g hg).1
     rw[setRow_other _ (w.heap.size+1) g _ (by omega),box_other _ (by omega)]⟩
 have HF:Hid (_∧_):=⟨bF,rA⟩
 clear i4 bF rA bS oB kB
 go_wp2_with (refine wpList_store_row rfl _ _ _ rfl _ _ rfl rfl _ _ hVr (by kernel_rfl) rfl (by simp[Value.oneCell']) ?_)
 (try simp only[Exit.inBlock,Exit.then])
 refine bodyPost_ret (by simp[results,Tryd.results55,asAddr,Act.put,HLD];try rfl) rfl ?_
 refine⟨[I O W,I O H,Sz a n c,I O X,I O Y,.bool wrp,I O st,Sz (some ⟨gC,0,none⟩) 4 cA,Sz a8 n8 c8,I O be],rfl,?_,HF.out.1⟩
 rw[HE.out]
 intro w'' hk r2 r7 r8
 obtain⟨F,hF⟩:=HF.out.2
 exact reads_Vt (d:=(((W,H,zs,X,Y,wrp,()),st,al,pl,be,()):TD)) r2 (own_read hF HB1.out.1.size hk) r8
end Go.Proofs.YthodinpflcbklaaDoor
