/-
  Parts of the road to VB, joined: SvP2, GrO, GrSPz.
-/
import Derived.Test.YthodinpflcbklaaDoorM26VB
import Derived.Test.YthodinpflcbklaaDoorM21VB
import Derived.Test.YthodinpflcbklaaDoorM18VB
import Derived.Test.YthodinpflcbklaaDoorM19VB
import Derived.Test.YthodinpflcbklaaDoorM20VB
import Derived.Test.YthodinpflcbklaaDoorM13VB
import Derived.Deep.RegionHeld3
open Go.Value renaming int → I,slice → Sz
open Go.IntKind renaming i64 → O
open List renaming setIfInBounds_toArray → lA,getElem_toArray → lB,getElem_cons_succ → lC,getElem_cons_zero → lD,set_cons_zero → lE,set_cons_succ → lF
set_option linter.unusedVariables false
set_option linter.unusedSimpArgs false
set_option maxHeartbeats 40000000
namespace Go.Proofs.YthodinpflcbklaaDoor
open Go.RowKit
set_option maxRecDepth 100000
theorem spl_back(W H X Y st be:Int)(wrp:Bool)(a a7 a8:Option Addr)(n c n7 c7 n8 c8:Nat)(zs al pl:List Int)(w:World)(hg:gokB (W,H,zs,X,Y,wrp,())=true)(h2:Reads (.sl .int) w [Sz a n c] zs)(h7:Reads (.sl .int) w [Sz a7 n7 c7] al)(h8:Reads (.sl .u8) w [Sz a8 n8 c8] pl)(hpl:pl.length≤3)(hbe:0≤be∧be≤1000000):
   Calls Tryd.prog 54 #[.agg #[I O W,I O H,Sz a n c,I O X,I O Y,.bool wrp,I O st,Sz a7 n7 c7,Sz a8 n8 c8,I O be],I O 8] w fun e w'=>∃ o,e=.returned (.agg o.toArray)∧RK w w' o (plainT (((W,H,zs,X,Y,wrp,()),st,al,pl,be,()):TD) 8) (Sz a n c) (Sz a7 n7 c7) (Sz a8 n8 c8) zs al pl∧Below w.heap.size w w':=by
 obtain⟨i1,ji,jz0,jz1,jz2⟩:=info_parts Tryd.infoB
 obtain⟨W2,hW2,bW2,zW2,hA2,hZ2,hG2,HBX⟩:=mpro2 W H X Y st be wrp a a7 a8 n c n7 c7 n8 c8 w
 have HB2:Hid (Below w.heap.size w W2∧W2.heap.size=w.heap.size+3):=⟨bW2,zW2⟩
 have HW:Hid (W2=_):=hW2
 have HR:Hid (Reads (.sl .int) w [Sz a n c] zs∧Reads (.sl .int) w [Sz a7 n7 c7] al):=⟨h2,h7⟩
 obtain⟨hl8,hr8,_,_⟩:=reads_bytes h8
 have HBY:Hid (∀ i,0≤bt pl i∧bt pl i≤255):=fun i=>hr8.1 i
 have HL:Hid (pl.length=n8):=hl8
 have HSR:Hid (SrcZ w (Sz a8 n8 c8) n8 (pl.map (Value.int .u8))):=srcZ_rd hr8 hl8
 obtain⟨WE,hWE⟩:∃ U,U=W2.alloc (.cells #[] 5):=⟨_,rfl⟩
 have bE:Below W2.heap.size W2 WE:=by rw[hWE];exact(Below.refl _ _).alloc (Nat.le_refl _) _
 have oE:WE.ownsRow W2.heap.size 5 1 (Sz (some ⟨w.heap.size+1+1+1,0,none⟩) 0 0) 0 []:=by
   have h9:=World.ownsRow_lit (base:=W2.heap.size) (e:=5) (size:=1) W2 #[] 0 (Nat.le_refl _) (Nat.zero_le _) rfl
   rw[zW2] at h9
   rw[hWE,zW2]
   exact h9
 have hn83:n8≤3:=by omega
 have HE0:Hid (Below W2.heap.size W2 WE∧WE.ownsRow W2.heap.size 5 1 (Sz (some ⟨w.heap.size+1+1+1,0,none⟩) 0 0) 0 []):=⟨bE,oE⟩
 have HWE:Hid (WE=_):=hWE
 obtain⟨W',H',eW,eH,g1,g2,g3,g4,g5,hlen,hcl,hcu⟩:=gok_parts hg
 obtain⟨c1,c2,c3,c4,c5⟩:=cursB_iff.1 hcu
 have wq:IntKind.i64.wrap (X - 1)=X - 1:=by simp[IntKind.wrap,IntKind.bits,IntKind.signed];omega
 obtain⟨D,hD⟩:∃ D:GrD,D=goD (W,H,zs,X,Y,wrp,()) (X - 1) Y:=⟨_,rfl⟩
 have HE:Hid (plainT (((W,H,zs,X,Y,wrp,()),st,al,pl,be,()):TD) 8=(D,st,al,[],be,())):=by
   rw[hD]
   rfl
 have QG:Hid (∀ w',Below w.heap.size w w'→Calls Tryd.prog 44 #[.agg #[I O W,I O H,Sz a n c,I O X,I O Y,.bool wrp],I O (X - 1),I O Y] w' fun e w''=>GAns w' w'' e D):=fun w' hb=>by rw[hD];exact sgo_any (g:=(W,H,zs,X,Y,wrp,())) (X - 1) Y w' hg (h2.later hb)
 clear hg h2 h7 h8 hpl hl8 hr8 hW2 bW2 zW2 hA2 hZ2 hG2 hWE bE oE hD hlen hcl hcu eW eH g1 g2 g3 g4 g5 c1 c2 c3 c4 c5 
 have y0:WE.cell? ⟨w.heap.size,0,none⟩=some (I O W):=bxc (HBX.out _ HE0.out.1).1 rfl
 have y1:WE.cell? ⟨w.heap.size,1,none⟩=some (I O H):=bxc (HBX.out _ HE0.out.1).1 rfl
 have y2:WE.cell? ⟨w.heap.size,2,none⟩=some (Sz a n c):=bxc (HBX.out _ HE0.out.1).1 rfl
 have y3:WE.cell? ⟨w.heap.size,3,none⟩=some (I O X):=bxc (HBX.out _ HE0.out.1).1 rfl
 have y4:WE.cell? ⟨w.heap.size,4,none⟩=some (I O Y):=bxc (HBX.out _ HE0.out.1).1 rfl
 have y5:WE.cell? ⟨w.heap.size,5,none⟩=some (.bool wrp):=bxc (HBX.out _ HE0.out.1).1 rfl
 have y6:WE.cell? ⟨w.heap.size,6,none⟩=some (I O st):=bxc (HBX.out _ HE0.out.1).1 rfl
 have y7:WE.cell? ⟨w.heap.size,7,none⟩=some (Sz a7 n7 c7):=bxc (HBX.out _ HE0.out.1).1 rfl
 have y8:WE.cell? ⟨w.heap.size,8,none⟩=some (Sz a8 n8 c8):=bxc (HBX.out _ HE0.out.1).1 rfl
 have y9:WE.cell? ⟨w.heap.size,9,none⟩=some (I O be):=bxc (HBX.out _ HE0.out.1).1 rfl
 have hsE:=srcZ_later HSR.out (HB2.out.1.trans (HE0.out.1.mono HB2.out.1.size))
 have oE:=HE0.out.2
 go_enter Tryd.func54,Tryd.ntmps54
 go_wp2_with (at_builtin;rw[← HW.out,← HWE.out];refine wpList_append_srcZ rfl _ _ 25 rfl W2.heap.size 5 i1 (I .u8 0) 1 1 Tryd.underlying25 ji jz0 jz1 jz2 rfl (by decide) _ 0 [] rfl oE (Sz a8 n8 c8) n8 (pl.map (Value.int .u8)) rfl ?c0 hsE ?c1 ?c3 ?c4 HE0.out.1.size ?_)
 case c0=>(rw[List.length_map,HL.out]) <;> omega
 case c1=>intro u hu;simp at hu;obtain⟨x,_,rfl⟩:=hu;rfl
 case c3=>unfold maxLen;omega
 case c4=>omega
 intro v7 wA oA gA
 (try rw[Nat.zero_add] at oA)
 (try rw[List.nil_append] at oA)
 obtain⟨aA,cA,hvA⟩:=own_formV oA
 subst hvA
 have kA:Below W2.heap.size W2 wA:=HE0.out.1.grown gA HE0.out.1.size (fun k e=>(oE.lt k e).1)
 clear oE gA hsE y0 y1 y2 y3 y4 y5 y6 y7 y8 y9
 have bl2:Below wA.heap.size wA (wA.alloc (.cells #[I .u8 (8)] 5)):=(Below.refl _ _).alloc (Nat.le_refl _) _
 have oA2:=own_later oA bl2
 have sB:SrcZ (wA.alloc (.cells #[I .u8 (8)] 5)) (Sz (some ⟨wA.heap.size,0,none⟩) 1 1) 1 [I .u8 (8)]:=srcZ_lit (cs:=[I .u8 (8)]) (heap_alloc_new wA _)
 have kA2:Below W2.heap.size W2 (wA.alloc (.cells #[I .u8 (8)] 5)):=kA.trans (bl2.mono kA.size)
 have y0:wA.cell? ⟨w.heap.size,0,none⟩=some (I O W):=bxc (HBX.out _ kA).1 rfl
 have y1:wA.cell? ⟨w.heap.size,1,none⟩=some (I O H):=bxc (HBX.out _ kA).1 rfl
 have y2:wA.cell? ⟨w.heap.size,2,none⟩=some (Sz a n c):=bxc (HBX.out _ kA).1 rfl
 have y3:wA.cell? ⟨w.heap.size,3,none⟩=some (I O X):=bxc (HBX.out _ kA).1 rfl
 have y4:wA.cell? ⟨w.heap.size,4,none⟩=some (I O Y):=bxc (HBX.out _ kA).1 rfl
 have y5:wA.cell? ⟨w.heap.size,5,none⟩=some (.bool wrp):=bxc (HBX.out _ kA).1 rfl
 have y6:wA.cell? ⟨w.heap.size,6,none⟩=some (I O st):=bxc (HBX.out _ kA).1 rfl
 have y7:wA.cell? ⟨w.heap.size,7,none⟩=some (Sz a7 n7 c7):=bxc (HBX.out _ kA).1 rfl
 have y8:wA.cell? ⟨w.heap.size,8,none⟩=some (Sz a8 n8 c8):=bxc (HBX.out _ kA).1 rfl
 have y9:wA.cell? ⟨w.heap.size,9,none⟩=some (I O be):=bxc (HBX.out _ kA).1 rfl
 go_wp2_with (at_builtin;refine wpList_append_srcZ rfl _ _ 25 rfl W2.heap.size 5 i1 (I .u8 0) 1 1 Tryd.underlying25 ji jz0 jz1 jz2 rfl (by decide) _ n8 (pl.map (Value.int .u8)) rfl oA2 (Sz (some ⟨wA.heap.size,0,none⟩) 1 1) 1 [I .u8 (8)] rfl rfl sB (by intro u hu;simp at hu;subst hu;rfl) (by unfold maxLen;omega) (by omega) kA2.size ?_)
 intro v8 wB oB gB
 obtain⟨gC,cB,hvB,_,_⟩:=own_form oB (by omega)
 subst hvB
 have kB:Below W2.heap.size W2 wB:=kA2.grown gB kA2.size (fun k e=>(oA2.lt k e).1)
 have oS:wB.ownsRow W2.heap.size 5 1 (Sz (some ⟨gC,0,none⟩) (n8+1) cB) (n8+1) ((pl++[8]).map (Value.int .u8)):=by rw[List.map_append];exact oB
 clear oA oA2 sB bl2 kA kA2 gB oB y0 y1 y2 y3 y4 y5 y6 y7 y8 y9
 have bB:=HB2.out.1.trans (kB.mono HB2.out.1.size)
 have i4:=HBX.out _ kB
 obtain⟨w8,hw8⟩:∃ U,U=wB.setCell ⟨w.heap.size,8,none⟩ (Sz none 0 0):=⟨_,rfl⟩
 have b8:Below w.heap.size w w8:=by rw[hw8];exact Below.setCell (p:=⟨w.heap.size,8,none⟩) bB (Nat.le_refl _) _
 have z8:W2.heap.size≤w8.heap.size:=by rw[hw8];exact Nat.le_trans kB.size (Below.setCell (p:=⟨w.heap.size,8,none⟩) (Below.refl w.heap.size wB) (Nat.le_refl _) _).size
 have hV8:w8.heap[w.heap.size]?=some (.cells #[I O W,I O H,Sz a n c,I O X,I O Y,.bool wrp,I O st,Sz a7 n7 c7,Sz none 0 0,I O be] 31 (0,0)):=by rw[hw8];exact box_set _ i4.1
 have hR8:w8.heap[w.heap.size+1]?=some (.cells #[I O 0,I O 0,Sz none 0 0,I O 0,I O 0,.bool false,I O 0,Sz none 0 0,Sz none 0 0,I O 0] 31 (0,0)):=by rw[hw8,box_other _ (by omega)];exact i4.2.1
 have hG8:w8.heap[w.heap.size+1+1]?=some (.cells #[I O W,I O H,Sz a n c,I O X,I O Y,.bool wrp] 29 (0,0)):=by rw[hw8,box_other _ (by omega)];exact i4.2.2
 have q0:wB.cell? ⟨w.heap.size,0,none⟩=some (I O W):=bxc i4.1 rfl
 have q1:wB.cell? ⟨w.heap.size,1,none⟩=some (I O H):=bxc i4.1 rfl
 have q2:wB.cell? ⟨w.heap.size,2,none⟩=some (Sz a n c):=bxc i4.1 rfl
 have q3:wB.cell? ⟨w.heap.size,3,none⟩=some (I O X):=bxc i4.1 rfl
 have q4:wB.cell? ⟨w.heap.size,4,none⟩=some (I O Y):=bxc i4.1 rfl
 have q5:wB.cell? ⟨w.heap.size,5,none⟩=some (.bool wrp):=bxc i4.1 rfl
 have q6:wB.cell? ⟨w.heap.size,6,none⟩=some (I O st):=bxc i4.1 rfl
 have q7:wB.cell? ⟨w.heap.size,7,none⟩=some (Sz a7 n7 c7):=bxc i4.1 rfl
 have q8:wB.cell? ⟨w.heap.size,8,none⟩=some (Sz a8 n8 c8):=bxc i4.1 rfl
 have q9:wB.cell? ⟨w.heap.size,9,none⟩=some (I O be):=bxc i4.1 rfl
 have z0:wB.cell? ⟨w.heap.size+1+1,0,none⟩=some (I O W):=bxc i4.2.2 rfl
 have z1:wB.cell? ⟨w.heap.size+1+1,1,none⟩=some (I O H):=bxc i4.2.2 rfl
 have z2:wB.cell? ⟨w.heap.size+1+1,2,none⟩=some (Sz a n c):=bxc i4.2.2 rfl
 have z3:wB.cell? ⟨w.heap.size+1+1,3,none⟩=some (I O X):=bxc i4.2.2 rfl
 have z4:wB.cell? ⟨w.heap.size+1+1,4,none⟩=some (I O Y):=bxc i4.2.2 rfl
 have z5:wB.cell? ⟨w.heap.size+1+1,5,none⟩=some (.bool wrp):=bxc i4.2.2 rfl
 have f8:wB.frozen? ⟨w.heap.size,8,none⟩=false:=box_frozen i4.1
 have HW8:Hid (w8=_):=hw8
 clear i4 bB kB oS hw8
 go_wp2_with fail
 rw[← HW8.out]
 refine(QG.out _ b8).mono ?_
 rintro e w4 ⟨a5,n5,c5',F,rfl,ho,hb4⟩
 clear q0 q1 q2 q3 q4 q5 q6 q7 q8 q9 z0 z1 z2 z3 z4 z5 f8
 have b4:=b8.trans (hb4.mono b8.size)
 have hz:=HB2.out.2
 have hV4:=(hb4.block _ (by omega)).trans hV8
 have hR4:=(hb4.block _ (by omega)).trans hR8
 obtain⟨VV,hVV⟩:∃ U,U=w4.setCells w.heap.size 0 (#[I O D.1,I O D.2.1,Sz a5 n5 c5',I O D.2.2.2.1,I O D.2.2.2.2.1,.bool D.2.2.2.2.2.1]:Array Value).toList:=⟨_,rfl⟩
 have hVb:VV.heap[w.heap.size]?=some (.cells #[I O D.1,I O D.2.1,Sz a5 n5 c5',I O D.2.2.2.1,I O D.2.2.2.2.1,.bool D.2.2.2.2.2.1,I O st,Sz a7 n7 c7,Sz none 0 0,I O be] 31 (0,0)):=by rw[hVV];exact six_in hV4
 have hth:w4.there w.heap.size 0 6:=six_there hV4
 have hVr:VV.heap[w.heap.size+1]?=some (.cells #[I O 0,I O 0,Sz none 0 0,I O 0,I O 0,.bool false,I O 0,Sz none 0 0,Sz none 0 0,I O 0] 31 (0,0)):=by rw[hVV,setCells_other (by omega)];exact hR4
 have q0:VV.cell? ⟨w.heap.size,0,none⟩=some (I O D.1):=bxc hVb rfl
 have q1:VV.cell? ⟨w.heap.size,1,none⟩=some (I O D.2.1):=bxc hVb rfl
 have q2:VV.cell? ⟨w.heap.size,2,none⟩=some (Sz a5 n5 c5'):=bxc hVb rfl
 have q3:VV.cell? ⟨w.heap.size,3,none⟩=some (I O D.2.2.2.1):=bxc hVb rfl
 have q4:VV.cell? ⟨w.heap.size,4,none⟩=some (I O D.2.2.2.2.1):=bxc hVb rfl
 have q5:VV.cell? ⟨w.heap.size,5,none⟩=some (.bool D.2.2.2.2.2.1):=bxc hVb rfl
 have q6:VV.cell? ⟨w.heap.size,6,none⟩=some (I O st):=bxc hVb rfl
 have q7:VV.cell? ⟨w.heap.size,7,none⟩=some (Sz a7 n7 c7):=bxc hVb rfl
 have q8:VV.cell? ⟨w.heap.size,8,none⟩=some (Sz none 0 0):=bxc hVb rfl
 have q9:VV.cell? ⟨w.heap.size,9,none⟩=some (I O be):=bxc hVb rfl
 have HLD:(loadVar 31 ⟨w.heap.size+1,0,none⟩).run Tryd.prog (VV.setRow (w.heap.size+1) #[I O D.1,I O D.2.1,Sz a5 n5 c5',I O D.2.2.2.1,I O D.2.2.2.2.1,.bool D.2.2.2.2.2.1,I O st,Sz a7 n7 c7,Sz none 0 0,I O be])=.ok (.agg #[I O D.1,I O D.2.1,Sz a5 n5 c5',I O D.2.2.2.1,I O D.2.2.2.2.1,.bool D.2.2.2.2.2.1,I O st,Sz a7 n7 c7,Sz none 0 0,I O be]) (VV.setRow (w.heap.size+1) #[I O D.1,I O D.2.1,Sz a5 n5 c5',I O D.2.2.2.1,I O D.2.2.2.2.1,.bool D.2.2.2.2.2.1,I O st,Sz a7 n7 c7,Sz none 0 0,I O be]):=run_loadVar_row _ _ _ _ _ _ _ (setRow_heap _ _ _ _ _ _ hVr) Tryd.underlying31 rfl (by kernel_rfl)
 have bF:Below w.heap.size w (VV.setRow (w.heap.size+1) #[I O D.1,I O D.2.1,Sz a5 n5 c5',I O D.2.2.2.1,I O D.2.2.2.2.1,.bool D.2.2.2.2.2.1,I O st,Sz a7 n7 c7,Sz none 0 0,I O be]):=below_setRow (by rw[hVV];exact below_setCells _ _ _ b4 (Nat.le_refl _)) (Nat.le_add_right _ 1) _
 have rN:Own (.sl .int) (VV.setRow (w.heap.size+1) #[I O D.1,I O D.2.1,Sz a5 n5 c5',I O D.2.2.2.1,I O D.2.2.2.2.1,.bool D.2.2.2.2.2.1,I O st,Sz a7 n7 c7,Sz none 0 0,I O be]) w8.heap.size [Sz a5 n5 c5'] D.2.2.1 F:=ho.keep fun g hg=>by
   have:=(ho.lt g hg).1
   rw[setRow_other _ (w.heap.size+1) g _ (by omega),hVV,setCells_other (by omega)]
 have HSZ:Hid (w.heap.size≤w8.heap.size):=b8.size
 have HF:Hid (_∧_):=⟨bF,rN⟩
 have HVV:Hid (VV=_):=hVV
 have HTH:Hid (w4.there w.heap.size 0 6):=hth
 clear hVV hVb hth b4 bF rN ho hb4 b8 z8 hV8 hR8 hG8 hV4 hR4
 go_wp2_with (first | (refine wpList_store_mid rfl _ _ _ rfl w.heap.size 0 #[I O D.1,I O D.2.1,Sz a5 n5 c5',I O D.2.2.2.1,I O D.2.2.2.2.1,.bool D.2.2.2.2.2.1] rfl rfl HTH.out (by kernel_rfl) (by simp[Value.oneCell']) ?_;rw[← HVV.out]) | (refine wpList_store_row rfl _ _ _ rfl _ _ rfl rfl _ _ hVr (by kernel_rfl) rfl (by simp[Value.oneCell']) ?_))
 (try simp only[Exit.inBlock,Exit.then])
 refine bodyPost_ret (by simp[results,Tryd.results54,asAddr,Act.put,HLD];try rfl) rfl ?_
 refine⟨[I O D.1,I O D.2.1,Sz a5 n5 c5',I O D.2.2.2.1,I O D.2.2.2.2.1,.bool D.2.2.2.2.2.1,I O st,Sz a7 n7 c7,Sz none 0 0,I O be],rfl,?_,HF.out.1⟩
 rw[HE.out]
 intro w'' hk r2 r7 r8
 exact reads_Vt (d:=((D,st,al,[],be,()):TD)) (own_read HF.out.2 HSZ.out hk) r7 (nil_readB _)
theorem spl_ret(W H X Y st be:Int)(wrp:Bool)(a a7 a8:Option Addr)(n c n7 c7 n8 c8:Nat)(zs al pl:List Int)(w:World)(hg:gokB (W,H,zs,X,Y,wrp,())=true)(h2:Reads (.sl .int) w [Sz a n c] zs)(h7:Reads (.sl .int) w [Sz a7 n7 c7] al)(h8:Reads (.sl .u8) w [Sz a8 n8 c8] pl)(hpl:pl.length≤3)(hbe:0≤be∧be≤1000000):
   Calls Tryd.prog 54 #[.agg #[I O W,I O H,Sz a n c,I O X,I O Y,.bool wrp,I O st,Sz a7 n7 c7,Sz a8 n8 c8,I O be],I O 13] w fun e w'=>∃ o,e=.returned (.agg o.toArray)∧RK w w' o (plainT (((W,H,zs,X,Y,wrp,()),st,al,pl,be,()):TD) 13) (Sz a n c) (Sz a7 n7 c7) (Sz a8 n8 c8) zs al pl∧Below w.heap.size w w':=by
 obtain⟨i1,ji,jz0,jz1,jz2⟩:=info_parts Tryd.infoB
 obtain⟨W2,hW2,bW2,zW2,hA2,hZ2,hG2,HBX⟩:=mpro2 W H X Y st be wrp a a7 a8 n c n7 c7 n8 c8 w
 have HB2:Hid (Below w.heap.size w W2∧W2.heap.size=w.heap.size+3):=⟨bW2,zW2⟩
 have HW:Hid (W2=_):=hW2
 have HR:Hid (Reads (.sl .int) w [Sz a n c] zs∧Reads (.sl .int) w [Sz a7 n7 c7] al):=⟨h2,h7⟩
 obtain⟨hl8,hr8,_,_⟩:=reads_bytes h8
 have HBY:Hid (∀ i,0≤bt pl i∧bt pl i≤255):=fun i=>hr8.1 i
 have HL:Hid (pl.length=n8):=hl8
 have HSR:Hid (SrcZ w (Sz a8 n8 c8) n8 (pl.map (Value.int .u8))):=srcZ_rd hr8 hl8
 obtain⟨WE,hWE⟩:∃ U,U=W2.alloc (.cells #[] 5):=⟨_,rfl⟩
 have bE:Below W2.heap.size W2 WE:=by rw[hWE];exact(Below.refl _ _).alloc (Nat.le_refl _) _
 have oE:WE.ownsRow W2.heap.size 5 1 (Sz (some ⟨w.heap.size+1+1+1,0,none⟩) 0 0) 0 []:=by
   have h9:=World.ownsRow_lit (base:=W2.heap.size) (e:=5) (size:=1) W2 #[] 0 (Nat.le_refl _) (Nat.zero_le _) rfl
   rw[zW2] at h9
   rw[hWE,zW2]
   exact h9
 have hn83:n8≤3:=by omega
 have HE0:Hid (Below W2.heap.size W2 WE∧WE.ownsRow W2.heap.size 5 1 (Sz (some ⟨w.heap.size+1+1+1,0,none⟩) 0 0) 0 []):=⟨bE,oE⟩
 have HWE:Hid (WE=_):=hWE
 obtain⟨W',H',eW,eH,g1,g2,g3,g4,g5,hlen,hcl,hcu⟩:=gok_parts hg
 obtain⟨c1,c2,c3,c4,c5⟩:=cursB_iff.1 hcu
 obtain⟨D,hD⟩:∃ D:GrD,D=goD (W,H,zs,X,Y,wrp,()) 0 Y:=⟨_,rfl⟩
 have HE:Hid (plainT (((W,H,zs,X,Y,wrp,()),st,al,pl,be,()):TD) 13=(D,st,al,[],be,())):=by
   rw[hD]
   rfl
 have QG:Hid (∀ w',Below w.heap.size w w'→Calls Tryd.prog 44 #[.agg #[I O W,I O H,Sz a n c,I O X,I O Y,.bool wrp],I O 0,I O Y] w' fun e w''=>GAns w' w'' e D):=fun w' hb=>by rw[hD];exact sgo_any (g:=(W,H,zs,X,Y,wrp,())) 0 Y w' hg (h2.later hb)
 clear hg h2 h7 h8 hpl hl8 hr8 hW2 bW2 zW2 hA2 hZ2 hG2 hWE bE oE hD hlen hcl hcu eW eH g1 g2 g3 g4 g5 c1 c2 c3 c4 c5 
 have y0:WE.cell? ⟨w.heap.size,0,none⟩=some (I O W):=bxc (HBX.out _ HE0.out.1).1 rfl
 have y1:WE.cell? ⟨w.heap.size,1,none⟩=some (I O H):=bxc (HBX.out _ HE0.out.1).1 rfl
 have y2:WE.cell? ⟨w.heap.size,2,none⟩=some (Sz a n c):=bxc (HBX.out _ HE0.out.1).1 rfl
 have y3:WE.cell? ⟨w.heap.size,3,none⟩=some (I O X):=bxc (HBX.out _ HE0.out.1).1 rfl
 have y4:WE.cell? ⟨w.heap.size,4,none⟩=some (I O Y):=bxc (HBX.out _ HE0.out.1).1 rfl
 have y5:WE.cell? ⟨w.heap.size,5,none⟩=some (.bool wrp):=bxc (HBX.out _ HE0.out.1).1 rfl
 have y6:WE.cell? ⟨w.heap.size,6,none⟩=some (I O st):=bxc (HBX.out _ HE0.out.1).1 rfl
 have y7:WE.cell? ⟨w.heap.size,7,none⟩=some (Sz a7 n7 c7):=bxc (HBX.out _ HE0.out.1).1 rfl
 have y8:WE.cell? ⟨w.heap.size,8,none⟩=some (Sz a8 n8 c8):=bxc (HBX.out _ HE0.out.1).1 rfl
 have y9:WE.cell? ⟨w.heap.size,9,none⟩=some (I O be):=bxc (HBX.out _ HE0.out.1).1 rfl
 have hsE:=srcZ_later HSR.out (HB2.out.1.trans (HE0.out.1.mono HB2.out.1.size))
 have oE:=HE0.out.2
 go_enter Tryd.func54,Tryd.ntmps54
 go_wp2_with (at_builtin;rw[← HW.out,← HWE.out];refine wpList_append_srcZ rfl _ _ 25 rfl W2.heap.size 5 i1 (I .u8 0) 1 1 Tryd.underlying25 ji jz0 jz1 jz2 rfl (by decide) _ 0 [] rfl oE (Sz a8 n8 c8) n8 (pl.map (Value.int .u8)) rfl ?c0 hsE ?c1 ?c3 ?c4 HE0.out.1.size ?_)
 case c0=>(rw[List.length_map,HL.out]) <;> omega
 case c1=>intro u hu;simp at hu;obtain⟨x,_,rfl⟩:=hu;rfl
 case c3=>unfold maxLen;omega
 case c4=>omega
 intro v7 wA oA gA
 (try rw[Nat.zero_add] at oA)
 (try rw[List.nil_append] at oA)
 obtain⟨aA,cA,hvA⟩:=own_formV oA
 subst hvA
 have kA:Below W2.heap.size W2 wA:=HE0.out.1.grown gA HE0.out.1.size (fun k e=>(oE.lt k e).1)
 clear oE gA hsE y0 y1 y2 y3 y4 y5 y6 y7 y8 y9
 have bl2:Below wA.heap.size wA (wA.alloc (.cells #[I .u8 (13)] 5)):=(Below.refl _ _).alloc (Nat.le_refl _) _
 have oA2:=own_later oA bl2
 have sB:SrcZ (wA.alloc (.cells #[I .u8 (13)] 5)) (Sz (some ⟨wA.heap.size,0,none⟩) 1 1) 1 [I .u8 (13)]:=srcZ_lit (cs:=[I .u8 (13)]) (heap_alloc_new wA _)
 have kA2:Below W2.heap.size W2 (wA.alloc (.cells #[I .u8 (13)] 5)):=kA.trans (bl2.mono kA.size)
 have y0:wA.cell? ⟨w.heap.size,0,none⟩=some (I O W):=bxc (HBX.out _ kA).1 rfl
 have y1:wA.cell? ⟨w.heap.size,1,none⟩=some (I O H):=bxc (HBX.out _ kA).1 rfl
 have y2:wA.cell? ⟨w.heap.size,2,none⟩=some (Sz a n c):=bxc (HBX.out _ kA).1 rfl
 have y3:wA.cell? ⟨w.heap.size,3,none⟩=some (I O X):=bxc (HBX.out _ kA).1 rfl
 have y4:wA.cell? ⟨w.heap.size,4,none⟩=some (I O Y):=bxc (HBX.out _ kA).1 rfl
 have y5:wA.cell? ⟨w.heap.size,5,none⟩=some (.bool wrp):=bxc (HBX.out _ kA).1 rfl
 have y6:wA.cell? ⟨w.heap.size,6,none⟩=some (I O st):=bxc (HBX.out _ kA).1 rfl
 have y7:wA.cell? ⟨w.heap.size,7,none⟩=some (Sz a7 n7 c7):=bxc (HBX.out _ kA).1 rfl
 have y8:wA.cell? ⟨w.heap.size,8,none⟩=some (Sz a8 n8 c8):=bxc (HBX.out _ kA).1 rfl
 have y9:wA.cell? ⟨w.heap.size,9,none⟩=some (I O be):=bxc (HBX.out _ kA).1 rfl
 go_wp2_with (at_builtin;refine wpList_append_srcZ rfl _ _ 25 rfl W2.heap.size 5 i1 (I .u8 0) 1 1 Tryd.underlying25 ji jz0 jz1 jz2 rfl (by decide) _ n8 (pl.map (Value.int .u8)) rfl oA2 (Sz (some ⟨wA.heap.size,0,none⟩) 1 1) 1 [I .u8 (13)] rfl rfl sB (by intro u hu;simp at hu;subst hu;rfl) (by unfold maxLen;omega) (by omega) kA2.size ?_)
 intro v8 wB oB gB
 obtain⟨gC,cB,hvB,_,_⟩:=own_form oB (by omega)
 subst hvB
 have kB:Below W2.heap.size W2 wB:=kA2.grown gB kA2.size (fun k e=>(oA2.lt k e).1)
 have oS:wB.ownsRow W2.heap.size 5 1 (Sz (some ⟨gC,0,none⟩) (n8+1) cB) (n8+1) ((pl++[13]).map (Value.int .u8)):=by rw[List.map_append];exact oB
 clear oA oA2 sB bl2 kA kA2 gB oB y0 y1 y2 y3 y4 y5 y6 y7 y8 y9
 have bB:=HB2.out.1.trans (kB.mono HB2.out.1.size)
 have i4:=HBX.out _ kB
 obtain⟨w8,hw8⟩:∃ U,U=wB.setCell ⟨w.heap.size,8,none⟩ (Sz none 0 0):=⟨_,rfl⟩
 have b8:Below w.heap.size w w8:=by rw[hw8];exact Below.setCell (p:=⟨w.heap.size,8,none⟩) bB (Nat.le_refl _) _
 have z8:W2.heap.size≤w8.heap.size:=by rw[hw8];exact Nat.le_trans kB.size (Below.setCell (p:=⟨w.heap.size,8,none⟩) (Below.refl w.heap.size wB) (Nat.le_refl _) _).size
 have hV8:w8.heap[w.heap.size]?=some (.cells #[I O W,I O H,Sz a n c,I O X,I O Y,.bool wrp,I O st,Sz a7 n7 c7,Sz none 0 0,I O be] 31 (0,0)):=by rw[hw8];exact box_set _ i4.1
 have hR8:w8.heap[w.heap.size+1]?=some (.cells #[I O 0,I O 0,Sz none 0 0,I O 0,I O 0,.bool false,I O 0,Sz none 0 0,Sz none 0 0,I O 0] 31 (0,0)):=by rw[hw8,box_other _ (by omega)];exact i4.2.1
 have hG8:w8.heap[w.heap.size+1+1]?=some (.cells #[I O W,I O H,Sz a n c,I O X,I O Y,.bool wrp] 29 (0,0)):=by rw[hw8,box_other _ (by omega)];exact i4.2.2
 have q0:wB.cell? ⟨w.heap.size,0,none⟩=some (I O W):=bxc i4.1 rfl
 have q1:wB.cell? ⟨w.heap.size,1,none⟩=some (I O H):=bxc i4.1 rfl
 have q2:wB.cell? ⟨w.heap.size,2,none⟩=some (Sz a n c):=bxc i4.1 rfl
 have q3:wB.cell? ⟨w.heap.size,3,none⟩=some (I O X):=bxc i4.1 rfl
 have q4:wB.cell? ⟨w.heap.size,4,none⟩=some (I O Y):=bxc i4.1 rfl
 have q5:wB.cell? ⟨w.heap.size,5,none⟩=some (.bool wrp):=bxc i4.1 rfl
 have q6:wB.cell? ⟨w.heap.size,6,none⟩=some (I O st):=bxc i4.1 rfl
 have q7:wB.cell? ⟨w.heap.size,7,none⟩=some (Sz a7 n7 c7):=bxc i4.1 rfl
 have q8:wB.cell? ⟨w.heap.size,8,none⟩=some (Sz a8 n8 c8):=bxc i4.1 rfl
 have q9:wB.cell? ⟨w.heap.size,9,none⟩=some (I O be):=bxc i4.1 rfl
 have z0:wB.cell? ⟨w.heap.size+1+1,0,none⟩=some (I O W):=bxc i4.2.2 rfl
 have z1:wB.cell? ⟨w.heap.size+1+1,1,none⟩=some (I O H):=bxc i4.2.2 rfl
 have z2:wB.cell? ⟨w.heap.size+1+1,2,none⟩=some (Sz a n c):=bxc i4.2.2 rfl
 have z3:wB.cell? ⟨w.heap.size+1+1,3,none⟩=some (I O X):=bxc i4.2.2 rfl
 have z4:wB.cell? ⟨w.heap.size+1+1,4,none⟩=some (I O Y):=bxc i4.2.2 rfl
 have z5:wB.cell? ⟨w.heap.size+1+1,5,none⟩=some (.bool wrp):=bxc i4.2.2 rfl
 have f8:wB.frozen? ⟨w.heap.size,8,none⟩=false:=box_frozen i4.1
 have HW8:Hid (w8=_):=hw8
 clear i4 bB kB oS hw8
 go_wp2_with fail
 rw[← HW8.out]
 refine(QG.out _ b8).mono ?_
 rintro e w4 ⟨a5,n5,c5',F,rfl,ho,hb4⟩
 clear q0 q1 q2 q3 q4 q5 q6 q7 q8 q9 z0 z1 z2 z3 z4 z5 f8
 have b4:=b8.trans (hb4.mono b8.size)
 have hz:=HB2.out.2
 have hV4:=(hb4.block _ (by omega)).trans hV8
 have hR4:=(hb4.block _ (by omega)).trans hR8
 obtain⟨VV,hVV⟩:∃ U,U=w4.setCells w.heap.size 0 (#[I O D.1,I O D.2.1,Sz a5 n5 c5',I O D.2.2.2.1,I O D.2.2.2.2.1,.bool D.2.2.2.2.2.1]:Array Value).toList:=⟨_,rfl⟩
 have hVb:VV.heap[w.heap.size]?=some (.cells #[I O D.1,I O D.2.1,Sz a5 n5 c5',I O D.2.2.2.1,I O D.2.2.2.2.1,.bool D.2.2.2.2.2.1,I O st,Sz a7 n7 c7,Sz none 0 0,I O be] 31 (0,0)):=by rw[hVV];exact six_in hV4
 have hth:w4.there w.heap.size 0 6:=six_there hV4
 have hVr:VV.heap[w.heap.size+1]?=some (.cells #[I O 0,I O 0,Sz none 0 0,I O 0,I O 0,.bool false,I O 0,Sz none 0 0,Sz none 0 0,I O 0] 31 (0,0)):=by rw[hVV,setCells_other (by omega)];exact hR4
 have q0:VV.cell? ⟨w.heap.size,0,none⟩=some (I O D.1):=bxc hVb rfl
 have q1:VV.cell? ⟨w.heap.size,1,none⟩=some (I O D.2.1):=bxc hVb rfl
 have q2:VV.cell? ⟨w.heap.size,2,none⟩=some (Sz a5 n5 c5'):=bxc hVb rfl
 have q3:VV.cell? ⟨w.heap.size,3,none⟩=some (I O D.2.2.2.1):=bxc hVb rfl
 have q4:VV.cell? ⟨w.heap.size,4,none⟩=some (I O D.2.2.2.2.1):=bxc hVb rfl
 have q5:VV.cell? ⟨w.heap.size,5,none⟩=some (.bool D.2.2.2.2.2.1):=bxc hVb rfl
 have q6:VV.cell? ⟨w.heap.size,6,none⟩=some (I O st):=bxc hVb rfl
 have q7:VV.cell? ⟨w.heap.size,7,none⟩=some (Sz a7 n7 c7):=bxc hVb rfl
 have q8:VV.cell? ⟨w.heap.size,8,none⟩=some (Sz none 0 0):=bxc hVb rfl
 have q9:VV.cell? ⟨w.heap.size,9,none⟩=some (I O be):=bxc hVb rfl
 have HLD:(loadVar 31 ⟨w.heap.size+1,0,none⟩).run Tryd.prog (VV.setRow (w.heap.size+1) #[I O D.1,I O D.2.1,Sz a5 n5 c5',I O D.2.2.2.1,I O D.2.2.2.2.1,.bool D.2.2.2.2.2.1,I O st,Sz a7 n7 c7,Sz none 0 0,I O be])=.ok (.agg #[I O D.1,I O D.2.1,Sz a5 n5 c5',I O D.2.2.2.1,I O D.2.2.2.2.1,.bool D.2.2.2.2.2.1,I O st,Sz a7 n7 c7,Sz none 0 0,I O be]) (VV.setRow (w.heap.size+1) #[I O D.1,I O D.2.1,Sz a5 n5 c5',I O D.2.2.2.1,I O D.2.2.2.2.1,.bool D.2.2.2.2.2.1,I O st,Sz a7 n7 c7,Sz none 0 0,I O be]):=run_loadVar_row _ _ _ _ _ _ _ (setRow_heap _ _ _ _ _ _ hVr) Tryd.underlying31 rfl (by kernel_rfl)
 have bF:Below w.heap.size w (VV.setRow (w.heap.size+1) #[I O D.1,I O D.2.1,Sz a5 n5 c5',I O D.2.2.2.1,I O D.2.2.2.2.1,.bool D.2.2.2.2.2.1,I O st,Sz a7 n7 c7,Sz none 0 0,I O be]):=below_setRow (by rw[hVV];exact below_setCells _ _ _ b4 (Nat.le_refl _)) (Nat.le_add_right _ 1) _
 have rN:Own (.sl .int) (VV.setRow (w.heap.size+1) #[I O D.1,I O D.2.1,Sz a5 n5 c5',I O D.2.2.2.1,I O D.2.2.2.2.1,.bool D.2.2.2.2.2.1,I O st,Sz a7 n7 c7,Sz none 0 0,I O be]) w8.heap.size [Sz a5 n5 c5'] D.2.2.1 F:=ho.keep fun g hg=>by
   have:=(ho.lt g hg).1
   rw[setRow_other _ (w.heap.size+1) g _ (by omega),hVV,setCells_other (by omega)]
 have HSZ:Hid (w.heap.size≤w8.heap.size):=b8.size
 have HF:Hid (_∧_):=⟨bF,rN⟩
 have HVV:Hid (VV=_):=hVV
 have HTH:Hid (w4.there w.heap.size 0 6):=hth
 clear hVV hVb hth b4 bF rN ho hb4 b8 z8 hV8 hR8 hG8 hV4 hR4
 go_wp2_with (first | (refine wpList_store_mid rfl _ _ _ rfl w.heap.size 0 #[I O D.1,I O D.2.1,Sz a5 n5 c5',I O D.2.2.2.1,I O D.2.2.2.2.1,.bool D.2.2.2.2.2.1] rfl rfl HTH.out (by kernel_rfl) (by simp[Value.oneCell']) ?_;rw[← HVV.out]) | (refine wpList_store_row rfl _ _ _ rfl _ _ rfl rfl _ _ hVr (by kernel_rfl) rfl (by simp[Value.oneCell']) ?_))
 (try simp only[Exit.inBlock,Exit.then])
 refine bodyPost_ret (by simp[results,Tryd.results54,asAddr,Act.put,HLD];try rfl) rfl ?_
 refine⟨[I O D.1,I O D.2.1,Sz a5 n5 c5',I O D.2.2.2.1,I O D.2.2.2.2.1,.bool D.2.2.2.2.2.1,I O st,Sz a7 n7 c7,Sz none 0 0,I O be],rfl,?_,HF.out.1⟩
 rw[HE.out]
 intro w'' hk r2 r7 r8
 exact reads_Vt (d:=((D,st,al,[],be,()):TD)) (own_read HF.out.2 HSZ.out hk) r7 (nil_readB _)
end Go.Proofs.YthodinpflcbklaaDoor
namespace Go.Proofs.YthodinpflcbklaaDoor
open Go.RowKit
structure OutAt (w:World) (B q k n kc:Nat) (W H X Y:Int) (wr:Bool) (zs:List Int):Prop where
 box:w.heap[q]?=some (.cells #[I O W,I O H,Sz (some ⟨k,0,none⟩) n kc,I O X,I O Y,.bool wr] 29 (0,0))
 row:w.ownsRow B 3 1 (Sz (some ⟨k,0,none⟩) n kc) n (zs.map (Value.int .i64))
 len:zs.length=n
 lo:B≤q
 ne:q≠k
theorem OutAt.later{w w':World}{B q k n kc:Nat}{W H X Y:Int}{wr:Bool}{zs:List Int}(h:OutAt w B q k n kc W H X Y wr zs)(hb:Below w.heap.size w w'):OutAt w' B q k n kc W H X Y wr zs:=
 ⟨(hb.block _ (box_lt h.box)).trans h.box,own_later h.row hb,h.len,h.lo,h.ne⟩
theorem OutAt.reads{w:World}{B q k n kc:Nat}{W H X Y:Int}{wr:Bool}{zs:List Int}(h:OutAt w B q k n kc W H X Y wr zs):Reads (.sl .int) w [Sz (some ⟨k,0,none⟩) n kc] zs:=
 (own_ints h.len h.row).reads
theorem OutAt.put{w w':World}{B q k n kc k' kc':Nat}{W H X Y X' Y':Int}{wr wr':Bool}{zs zs':List Int}(h:OutAt w B q k n kc W H X Y wr zs)(hb:Below w.heap.size w w')(hr:w'.ownsRow w.heap.size 3 1 (Sz (some ⟨k',0,none⟩) n kc') n (zs'.map (Value.int .i64)))(hl:zs'.length=n):
   OutAt (w'.setRow q #[I O W,I O H,Sz (some ⟨k',0,none⟩) n kc',I O X',I O Y',.bool wr']) B q k' n kc' W H X' Y' wr' zs':=by
 have hq:=box_lt h.box
 have hk:=(hr.lt k' rfl).1
 exact⟨setRow_heap _ _ _ _ _ _ ((hb.block _ hq).trans h.box),own_low (own_offR hr q _ (by omega)) (by have:=h.lo;omega),hl,h.lo,by omega⟩
theorem OutAt.setX{w:World}{B q k n kc:Nat}{W H X Y:Int}{wr:Bool}{zs:List Int}(h:OutAt w B q k n kc W H X Y wr zs)(X':Int):OutAt (w.setCell ⟨q,3,none⟩ (I O X')) B q k n kc W H X' Y wr zs:=
 ⟨by have:=box_set (j:=3) (I O X') h.box;simpa using this,own_off h.row q 3 _ h.ne,h.len,h.lo,h.ne⟩
theorem OutAt.setWr{w:World}{B q k n kc:Nat}{W H X Y:Int}{wr:Bool}{zs:List Int}(h:OutAt w B q k n kc W H X Y wr zs)(v:Bool):OutAt (w.setCell ⟨q,5,none⟩ (.bool v)) B q k n kc W H X Y v zs:=
 ⟨by have:=box_set (j:=5) (.bool v) h.box;simpa using this,own_off h.row q 5 _ h.ne,h.len,h.lo,h.ne⟩
theorem OutAt.setZ{w:World}{B q k n kc a:Nat}{W H X Y:Int}{wr:Bool}{zs:List Int}(h:OutAt w B q k n kc W H X Y wr zs)(v:Int):OutAt (w.setCell ⟨k,a,none⟩ (I O v)) B q k n kc W H X Y wr (zs.set a v):=
 ⟨(box_other _ h.ne).trans h.box,by have:=(h.row.stored a (I O v)).1;rw[List.map_set];exact this,by rw[List.length_set];exact h.len,h.lo,h.ne⟩
theorem OutAt.cell{w:World}{B q k n kc a:Nat}{W H X Y:Int}{wr:Bool}{zs:List Int}(h:OutAt w B q k n kc W H X Y wr zs)(ha:a < n):∃ u,w.cell? ⟨k,a,none⟩=some u:=by
 rw[h.row.cellAt a (by omega)];exact⟨_,List.getElem?_eq_getElem (by rw[List.length_map,h.len];exact ha)⟩
theorem scroll_out{W H n k kc:Nat}{X Y:Int}{wr:Bool}{zs:List Int}(w:World)(hg:gokB ((W:Int),(H:Int),zs,X,Y,wr,())=true)(hr:Reads (.sl .int) w [Sz (some ⟨k,0,none⟩) n kc] zs):
   Calls Tryd.prog 71 #[.agg #[I O W,I O H,Sz (some ⟨k,0,none⟩) n kc,I O X,I O Y,.bool wr]] w fun e w'=>∃ k' kc',e=.returned (.agg #[I O W,I O H,Sz (some ⟨k',0,none⟩) n kc',I O X,I O Y,.bool wr])∧w'.ownsRow w.heap.size 3 1 (Sz (some ⟨k',0,none⟩) n kc') n ((scr 32 W zs).map (Value.int .i64))∧Below w.heap.size w w':=by
 refine(specGridScroll_row W H X Y _ n kc wr zs ((W:Int),(H:Int),scr 32 W zs,X,Y,wr,()) (by rw[ansG_yes hg,Int.toNat_natCast]) w hr).mono ?_
 rintro e w' ⟨o,F,rfl,ho,_,hb,hra⟩
 obtain⟨k',kc',hoe,hrow⟩:=hra hg
 exact⟨k',kc',by rw[hoe],hrow,hb⟩
theorem go_out{W H n k kc:Nat}{X Y:Int}{wr:Bool}{zs:List Int}(x y:Int)(w:World)(hg:gokB ((W:Int),(H:Int),zs,X,Y,wr,())=true)(hr:Reads (.sl .int) w [Sz (some ⟨k,0,none⟩) n kc] zs):
   Calls Tryd.prog 44 #[.agg #[I O W,I O H,Sz (some ⟨k,0,none⟩) n kc,I O X,I O Y,.bool wr],I O x,I O y] w fun e w'=>∃ k' kc',e=.returned (.agg #[I O W,I O H,Sz (some ⟨k',0,none⟩) n kc',I O (clampG x W),I O (clampG y H),.bool false])∧w'.ownsRow w.heap.size 3 1 (Sz (some ⟨k',0,none⟩) n kc') n (zs.map (Value.int .i64))∧Below w.heap.size w w':=by
 refine(specGridGo_row W H X Y _ n kc wr zs x y ((W:Int),(H:Int),zs,clampG x W,clampG y H,false,()) (by rw[ansG_yes hg]) w hr).mono ?_
 rintro e w' ⟨o,F,rfl,ho,_,hb,hra⟩
 obtain⟨k',kc',hoe,hrow⟩:=hra hg
 exact⟨k',kc',by rw[hoe],hrow,hb⟩
theorem clear_out{W H n k kc:Nat}{X Y:Int}{wr:Bool}{zs:List Int}(x y:Int)(w:World)(hg:gokB ((W:Int),(H:Int),zs,X,Y,wr,())=true)(hr:Reads (.sl .int) w [Sz (some ⟨k,0,none⟩) n kc] zs):
   Calls Tryd.prog 79 #[.agg #[I O W,I O H,Sz (some ⟨k,0,none⟩) n kc,I O X,I O Y,.bool wr],I O x,I O y] w fun e w'=>∃ k' kc',e=.returned (.agg #[I O W,I O H,Sz (some ⟨k',0,none⟩) n kc',I O X,I O Y,.bool wr])∧w'.ownsRow w.heap.size 3 1 (Sz (some ⟨k',0,none⟩) n kc') n ((clrM x y zs).map (Value.int .i64))∧Below w.heap.size w w':=by
 refine(specGridClear_row W H X Y _ n kc wr zs x y ((W:Int),(H:Int),clrM x y zs,X,Y,wr,()) (by rw[ansG_yes hg]) w hr).mono ?_
 rintro e w' ⟨o,F,rfl,ho,_,hb,hra⟩
 obtain⟨k',kc',hoe,hrow⟩:=hra hg
 exact⟨k',kc',by rw[hoe],hrow,hb⟩
end Go.Proofs.YthodinpflcbklaaDoor
namespace Go.Proofs.YthodinpflcbklaaDoor
open Go.RowKit
set_option maxRecDepth 100000 in
theorem specPut_no (x0 x1 x3 x4:Int) (a0:Option Addr) (n c:Nat) (x5:Bool) (zs:List Int) (r:Int) (w:World) (hr:Reads (.sl .int) w [Sz a0 n c] zs) (hg':gokB (x0,x1,zs,x3,x4,x5,())=false) (R:GrD) (hRz:R=zeroG) :
   Calls Tryd.prog 61 #[.agg #[I O x0,I O x1,Sz a0 n c,I O x3,I O x4,.bool x5],I O r] w fun e w'=>∃ o F,e=.returned (.agg o.toArray)∧Own shGrid w' w.heap.size o R F∧F.Nodup∧Below w.heap.size w w':=by
 have HRR:Hid (R=zeroG):=hRz
 clear hRz
 obtain⟨hl,hrd,hc,hm⟩:=reads_ints hr
 unfold maxLen at hm
 obtain⟨W1,hW1⟩:∃ W,W=(w.alloc (.cells #[I O x0,I O x1,Sz a0 n c,I O x3,I O x4,.bool x5] 29)).alloc (.cells #[I O 0,I O 0,Sz none 0 0,I O 0,I O 0,.bool false] 29):=⟨_,rfl⟩
 have bW1:Below w.heap.size w W1:=by rw[hW1];exact((Below.refl _ _).alloc (Nat.le_refl _) _).alloc (by simp) _
 have zW1:W1.heap.size=w.heap.size+1+1:=by rw[hW1];simp
 have hbox:W1.heap[w.heap.size]?=some (.cells #[I O x0,I O x1,Sz a0 n c,I O x3,I O x4,.bool x5] 29 (0,0)):=by
   rw[hW1,heap_alloc_old _ _ (by simp)];exact heap_alloc_new w _
 have hbox1:W1.heap[w.heap.size+1]?=some (.cells #[I O 0,I O 0,Sz none 0 0,I O 0,I O 0,.bool false] 29 (0,0)):=by
   rw[hW1]
   have:=heap_alloc_new (w.alloc (.cells #[I O x0,I O x1,Sz a0 n c,I O x3,I O x4,.bool x5] 29)) (.cells #[I O 0,I O 0,Sz none 0 0,I O 0,I O 0,.bool false] 29)
   simpa using this
 have HBX:Hid (∀ w',Below W1.heap.size W1 w'→w'.heap[w.heap.size]?=some (.cells #[I O x0,I O x1,Sz a0 n c,I O x3,I O x4,.bool x5] 29 (0,0))):=fun w' h'=>(h'.block _ (by omega)).trans hbox
 have HBR:Hid (∀ w',Below W1.heap.size W1 w'→w'.heap[w.heap.size+1]?=some (.cells #[I O 0,I O 0,Sz none 0 0,I O 0,I O 0,.bool false] 29 (0,0))):=fun w' h'=>(h'.block _ (by omega)).trans hbox1
 have HR:Hid (Reads (.sl .int) w [Sz a0 n c] zs):=hr
 have qg:Hid (∀ w',Below w.heap.size w w'→Calls Tryd.prog 52 #[.agg #[I O x0,I O x1,Sz a0 n c,I O x3,I O x4,.bool x5]] w' fun e w''=>e=.returned (.bool (gokB (x0,x1,zs,x3,x4,x5,())))∧Below w'.heap.size w' w''):=fun w' h'=>specGok_any x0 x1 x3 x4 a0 n c x5 zs w' (hr.later h')
 have HW:Hid (W1=_):=hW1
 have HB1:Hid (Below w.heap.size w W1):=bW1
 have hb00:Below W1.heap.size W1 W1:=Below.refl _ _
 have i_W1:=HBX.out W1 hb00
 have y0:W1.cell? ⟨w.heap.size,0,none⟩=some (I O x0):=bxc i_W1 rfl
 have y1:W1.cell? ⟨w.heap.size,1,none⟩=some (I O x1):=bxc i_W1 rfl
 have y2:W1.cell? ⟨w.heap.size,2,none⟩=some (Sz a0 n c):=bxc i_W1 rfl
 have y3:W1.cell? ⟨w.heap.size,3,none⟩=some (I O x3):=bxc i_W1 rfl
 have y4:W1.cell? ⟨w.heap.size,4,none⟩=some (I O x4):=bxc i_W1 rfl
 have y5:W1.cell? ⟨w.heap.size,5,none⟩=some (.bool x5):=bxc i_W1 rfl
 clear i_W1
 clear hW1 hbox hbox1 hr hrd hl hb00
 refine(fun (_:True)=>?_) trivial
 · skip
   have HG:Hid (gokB (x0,x1,zs,x3,x4,x5,())=false):=hg'
   rw[hg'] at qg
   clear hg'
   go_enter Tryd.func61,Tryd.ntmps61
   go_wp2_with fail
   rw[← HW.out]
   refine(qg.out _ HB1.out).mono ?_
   rintro e w2 ⟨rfl,hb2⟩
   have b2:=HB1.out.trans (hb2.mono HB1.out.size)
   have j0:=HBR.out w2 hb2
   have HLD:(loadVar 29 ⟨w.heap.size+1,0,none⟩).run Tryd.prog (w2.setRow (w.heap.size+1) #[I O 0,I O 0,Sz none 0 0,I O 0,I O 0,.bool false])=.ok (.agg #[I O 0,I O 0,Sz none 0 0,I O 0,I O 0,.bool false]) (w2.setRow (w.heap.size+1) #[I O 0,I O 0,Sz none 0 0,I O 0,I O 0,.bool false]):=run_loadVar_row _ _ _ _ _ _ _ (setRow_heap _ _ _ _ _ _ j0) Tryd.underlying29 rfl (by kernel_rfl)
   have HO:Hid (_):=below_setRow b2 (Nat.le_add_right _ 1) #[I O 0,I O 0,Sz none 0 0,I O 0,I O 0,.bool false]
   clear hb2 b2 y0 y1 y2 y3 y4 y5
   go_wp2_with (refine wpList_store_row rfl _ _ _ rfl _ _ rfl rfl _ _ j0 (by kernel_rfl) rfl (by simp[Value.oneCell']) ?_)
   (try simp only[Exit.inBlock,Exit.then])
   refine bodyPost_ret (by simp[results,Tryd.results61,asAddr,Act.put,HLD];try rfl) rfl ?_
   refine⟨_,[],rfl,?_,List.nodup_nil,HO.out⟩
   rw[HRR.out]
   exact own_zeroG _ _
set_option maxRecDepth 100000 in
theorem specPut_zero (x0 x1 x3 x4:Int) (a0:Option Addr) (n c:Nat) (x5:Bool) (zs:List Int) (r:Int) (hw:wd r=0) (w:World) (hr:Reads (.sl .int) w [Sz a0 n c] zs) (hg:gokB (x0,x1,zs,x3,x4,x5,())=true) (R:GrD) (hRz:R=(x0,x1,zs,x3,x4,x5,())) :
   Calls Tryd.prog 61 #[.agg #[I O x0,I O x1,Sz a0 n c,I O x3,I O x4,.bool x5],I O r] w fun e w'=>∃ o F,e=.returned (.agg o.toArray)∧Own shGrid w' w.heap.size o R F∧F.Nodup∧Below w.heap.size w w':=by
 have HRR:Hid (R=(x0,x1,zs,x3,x4,x5,())):=hRz
 clear hRz
 have qw:Hid (∀ w',Calls Tryd.prog 69 #[I O r] w' fun e w''=>e=.returned (I O 0)∧Below w'.heap.size w' w''):=fun w'=>by rw[← hw];exact specWid_any r w'
 obtain⟨hl,hrd,hc,hm⟩:=reads_ints hr
 unfold maxLen at hm
 obtain⟨W1,hW1⟩:∃ W,W=(w.alloc (.cells #[I O x0,I O x1,Sz a0 n c,I O x3,I O x4,.bool x5] 29)).alloc (.cells #[I O 0,I O 0,Sz none 0 0,I O 0,I O 0,.bool false] 29):=⟨_,rfl⟩
 have bW1:Below w.heap.size w W1:=by rw[hW1];exact((Below.refl _ _).alloc (Nat.le_refl _) _).alloc (by simp) _
 have zW1:W1.heap.size=w.heap.size+1+1:=by rw[hW1];simp
 have hbox:W1.heap[w.heap.size]?=some (.cells #[I O x0,I O x1,Sz a0 n c,I O x3,I O x4,.bool x5] 29 (0,0)):=by
   rw[hW1,heap_alloc_old _ _ (by simp)];exact heap_alloc_new w _
 have hbox1:W1.heap[w.heap.size+1]?=some (.cells #[I O 0,I O 0,Sz none 0 0,I O 0,I O 0,.bool false] 29 (0,0)):=by
   rw[hW1]
   have:=heap_alloc_new (w.alloc (.cells #[I O x0,I O x1,Sz a0 n c,I O x3,I O x4,.bool x5] 29)) (.cells #[I O 0,I O 0,Sz none 0 0,I O 0,I O 0,.bool false] 29)
   simpa using this
 have HBX:Hid (∀ w',Below W1.heap.size W1 w'→w'.heap[w.heap.size]?=some (.cells #[I O x0,I O x1,Sz a0 n c,I O x3,I O x4,.bool x5] 29 (0,0))):=fun w' h'=>(h'.block _ (by omega)).trans hbox
 have HBR:Hid (∀ w',Below W1.heap.size W1 w'→w'.heap[w.heap.size+1]?=some (.cells #[I O 0,I O 0,Sz none 0 0,I O 0,I O 0,.bool false] 29 (0,0))):=fun w' h'=>(h'.block _ (by omega)).trans hbox1
 have HR:Hid (Reads (.sl .int) w [Sz a0 n c] zs):=hr
 have qg:Hid (∀ w',Below w.heap.size w w'→Calls Tryd.prog 52 #[.agg #[I O x0,I O x1,Sz a0 n c,I O x3,I O x4,.bool x5]] w' fun e w''=>e=.returned (.bool (gokB (x0,x1,zs,x3,x4,x5,())))∧Below w'.heap.size w' w''):=fun w' h'=>specGok_any x0 x1 x3 x4 a0 n c x5 zs w' (hr.later h')
 have HW:Hid (W1=_):=hW1
 have HB1:Hid (Below w.heap.size w W1):=bW1
 have hb00:Below W1.heap.size W1 W1:=Below.refl _ _
 have i_W1:=HBX.out W1 hb00
 have y0:W1.cell? ⟨w.heap.size,0,none⟩=some (I O x0):=bxc i_W1 rfl
 have y1:W1.cell? ⟨w.heap.size,1,none⟩=some (I O x1):=bxc i_W1 rfl
 have y2:W1.cell? ⟨w.heap.size,2,none⟩=some (Sz a0 n c):=bxc i_W1 rfl
 have y3:W1.cell? ⟨w.heap.size,3,none⟩=some (I O x3):=bxc i_W1 rfl
 have y4:W1.cell? ⟨w.heap.size,4,none⟩=some (I O x4):=bxc i_W1 rfl
 have y5:W1.cell? ⟨w.heap.size,5,none⟩=some (.bool x5):=bxc i_W1 rfl
 clear i_W1
 clear hW1 hbox hbox1 hr hrd hl hb00
 refine(fun (_:True)=>?_) trivial
 · have HG:Hid (gokB (x0,x1,zs,x3,x4,x5,())=true):=hg
   rw[hg] at qg
   obtain⟨W,H,rfl,rfl,g1,g2,g3,g4,g5,hlen,hcl,hcu⟩:=gok_parts hg
   have hl:=(reads_ints HR.out).1
   have hn:n=W*H:=by omega
   have hmb:=mul_bd (x:=W) (y:=H) (by omega) (by omega) (by omega) (by omega)
   have hpr:(W:Int)*(H:Int)=(n:Int):=by rw[hn];simp
   rw[hpr] at hmb
   have HN:Hid (n=W*H∧zs.length=n∧cellsB zs W (W*H)=true∧cursB W H x3 x4 x5=true):=⟨hn,hl,hcl,hcu⟩
   have hn8:n≤8000:=by omega
   have qc:Hid (∀ w',Below w.heap.size w w'→Calls Tryd.prog 43 #[.agg #[I O W,I O H,Sz a0 n c,I O x3,I O x4,.bool x5]] w' fun e w''=>∃ k kc,e=.returned (.agg #[I O W,I O H,Sz (some ⟨k,0,none⟩) n kc,I O x3,I O x4,.bool x5])∧w''.ownsRow w'.heap.size 3 1 (Sz (some ⟨k,0,none⟩) n kc) n (zs.map (Value.int .i64))∧Below w'.heap.size w' w''):=fun w' h'=>specGcopy_any W H x3 x4 a0 n c x5 zs w' (HR.out.later h') (by omega) (by omega)
   clear hg hn hl hlen hcl hcu g5 hpr
   go_enter Tryd.func61,Tryd.ntmps61
   go_wp2_with fail
   rw[← HW.out]
   refine(qg.out _ HB1.out).mono ?_
   rintro e wA ⟨rfl,hbA⟩
   go_wp2_with fail
   refine(qw.out _).mono ?_
   rintro e w2 ⟨rfl,hb2'⟩
   have hb2:Below W1.heap.size W1 w2:=hbA.trans (hb2'.mono hbA.size)
   have b2:=HB1.out.trans (hb2.mono HB1.out.size)
   clear hbA hb2'
   have z2:=hb2.size
   clear y0 y1 y2 y3 y4 y5
   have i_w2:=HBX.out w2 hb2
   have y0:w2.cell? ⟨w.heap.size,0,none⟩=some (I O W):=bxc i_w2 rfl
   have y1:w2.cell? ⟨w.heap.size,1,none⟩=some (I O H):=bxc i_w2 rfl
   have y2:w2.cell? ⟨w.heap.size,2,none⟩=some (Sz a0 n c):=bxc i_w2 rfl
   have y3:w2.cell? ⟨w.heap.size,3,none⟩=some (I O x3):=bxc i_w2 rfl
   have y4:w2.cell? ⟨w.heap.size,4,none⟩=some (I O x4):=bxc i_w2 rfl
   have y5:w2.cell? ⟨w.heap.size,5,none⟩=some (.bool x5):=bxc i_w2 rfl
   clear i_w2
   have HB2:Hid (Below W1.heap.size W1 w2):=hb2
   clear hb2
   go_wp2_with fail
   refine(qc.out _ b2).mono ?_
   rintro e w3 ⟨k,kc,rfl,ho3,hb3⟩
   have HB3:Hid (Below W1.heap.size W1 w3):=HB2.out.trans (hb3.mono HB2.out.size)
   have z3:=hb3.size
   have hk3:w2.heap.size≤k∧k < w3.heap.size:=ho3.lt k rfl
   have HO3:Hid (w3.ownsRow w2.heap.size 3 1 (Sz (some ⟨k,0,none⟩) n kc) n (zs.map (Value.int .i64))):=ho3
   clear ho3 hb3 y0 y1 y2 y3 y4 y5
   have zl:w.heap.size+1 < w3.heap.size:=by omega
   have j0:(w3.alloc (.cells #[I O W,I O H,Sz (some ⟨k,0,none⟩) n kc,I O x3,I O x4,.bool x5] 29)).heap[w.heap.size+1]?=some (.cells #[I O 0,I O 0,Sz none 0 0,I O 0,I O 0,.bool false] 29 (0,0)):=(heap_alloc_old _ _ zl).trans (HBR.out w3 HB3.out)
   have bV:Below w.heap.size w (w3.alloc (.cells #[I O W,I O H,Sz (some ⟨k,0,none⟩) n kc,I O x3,I O x4,.bool x5] 29)):=(HB1.out.trans (HB3.out.mono HB1.out.size)).alloc (by omega) _
   have oV:(w3.alloc (.cells #[I O W,I O H,Sz (some ⟨k,0,none⟩) n kc,I O x3,I O x4,.bool x5] 29)).ownsRow w2.heap.size 3 1 (Sz (some ⟨k,0,none⟩) n kc) n (zs.map (Value.int .i64)):=HO3.out.alloc _
   have HLD:(loadVar 29 ⟨w.heap.size+1,0,none⟩).run Tryd.prog ((w3.alloc (.cells #[I O W,I O H,Sz (some ⟨k,0,none⟩) n kc,I O x3,I O x4,.bool x5] 29)).setRow (w.heap.size+1) #[I O W,I O H,Sz (some ⟨k,0,none⟩) n kc,I O x3,I O x4,.bool x5])=.ok (.agg #[I O W,I O H,Sz (some ⟨k,0,none⟩) n kc,I O x3,I O x4,.bool x5]) ((w3.alloc (.cells #[I O W,I O H,Sz (some ⟨k,0,none⟩) n kc,I O x3,I O x4,.bool x5] 29)).setRow (w.heap.size+1) #[I O W,I O H,Sz (some ⟨k,0,none⟩) n kc,I O x3,I O x4,.bool x5]):=run_loadVar_row _ _ _ _ _ _ _ (setRow_heap _ _ _ _ _ _ j0) Tryd.underlying29 rfl (by kernel_rfl)
   have HO:Hid (_∧_):=⟨own_low (own_offR oV (w.heap.size+1) #[I O W,I O H,Sz (some ⟨k,0,none⟩) n kc,I O x3,I O x4,.bool x5] (by omega)) (show w.heap.size≤w2.heap.size by omega),below_setRow bV (Nat.le_add_right _ 1) #[I O W,I O H,Sz (some ⟨k,0,none⟩) n kc,I O x3,I O x4,.bool x5]⟩
   clear bV oV
   go_wp2_with (refine wpList_store_row rfl _ _ _ rfl _ _ rfl rfl _ _ j0 (by kernel_rfl) rfl (by simp[Value.oneCell']) ?_)
   (try simp only[Exit.inBlock,Exit.then])
   refine bodyPost_ret (by simp[results,Tryd.results61,asAddr,Act.put,HLD];try rfl) rfl ?_
   refine⟨_,[k]++[],rfl,?_,by simp,HO.out.2⟩
   rw[HRR.out]
   exact own_Grid (d:=((W:Int),(H:Int),zs,x3,x4,x5,())) (F2:=[k]) (own_ints HN.out.2.1 HO.out.1)
end Go.Proofs.YthodinpflcbklaaDoor
