/-
  Parts of the road to VB, joined: SvP4, RbgS, SvPf.
-/
import Derived.Test.YthodinpflcbklaaDoorM26VB
import Derived.Test.YthodinpflcbklaaDoorM21VB
import Derived.Test.YthodinpflcbklaaDoorM17VB
import Derived.Test.YthodinpflcbklaaDoorM15VB
import Derived.Test.YthodinpflcbklaaDoorM0VB
import Derived.Deep.AppendLies
import Derived.Test.YthodinpflcbklaaDoorM18VB
open Go.Value renaming int → I,slice → Sz
open Go.IntKind renaming i64 → O
open List renaming setIfInBounds_toArray → lA,getElem_toArray → lB,getElem_cons_succ → lC,getElem_cons_zero → lD,set_cons_zero → lE,set_cons_succ → lF
set_option linter.unusedVariables false
set_option linter.unusedSimpArgs false
set_option maxHeartbeats 40000000
namespace Go.Proofs.YthodinpflcbklaaDoor
open Go.RowKit
set_option maxRecDepth 100000
theorem spl_next(W H X Y st be:Int)(wrp:Bool)(a a7 a8:Option Addr)(n c n7 c7 n8 c8:Nat)(zs al pl:List Int)(w:World)(hg:gokB (W,H,zs,X,Y,wrp,())=true)(h2:Reads (.sl .int) w [Sz a n c] zs)(h7:Reads (.sl .int) w [Sz a7 n7 c7] al)(h8:Reads (.sl .u8) w [Sz a8 n8 c8] pl)(hpl:pl.length≤3)(hbe:0≤be∧be≤1000000)(hY:Y≠H - 1):
   Calls Tryd.prog 54 #[.agg #[I O W,I O H,Sz a n c,I O X,I O Y,.bool wrp,I O st,Sz a7 n7 c7,Sz a8 n8 c8,I O be],I O 10] w fun e w'=>∃ o,e=.returned (.agg o.toArray)∧RK w w' o (plainT (((W,H,zs,X,Y,wrp,()),st,al,pl,be,()):TD) 10) (Sz a n c) (Sz a7 n7 c7) (Sz a8 n8 c8) zs al pl∧Below w.heap.size w w':=by
 obtain⟨i1,ji,jz0,jz1,jz2⟩:=info_parts Tryd.infoB
 obtain⟨W2,hW2,bW2,zW2,hA2,hZ2,hG2,HBX⟩:=mpro2 W H X Y st be wrp a a7 a8 n c n7 c7 n8 c8 w
 have HB2:Hid (Below w.heap.size w W2∧W2.heap.size=w.heap.size+3):=⟨bW2,zW2⟩
 have HW:Hid (W2=_):=hW2
 have HR:Hid (Reads (.sl .int) w [Sz a n c] zs∧Reads (.sl .int) w [Sz a7 n7 c7] al):=⟨h2,h7⟩
 obtain⟨hl8,hr8,_,_⟩:=reads_bytes h8
 have HBY:Hid (∀ i,0≤bt pl i∧bt pl i≤255):=fun i=>hr8.1 i
 have HL:Hid (pl.length=n8):=hl8
 have HSR:Hid (SrcZ w (Sz a8 n8 c8) n8 (pl.map (Value.int .u8))):=srcZ_rd hr8 hl8
 obtain⟨WE,hWE⟩:∃ U,U=W2.alloc (.cells #[] 5):=⟨_,rfl⟩
 have bE:Below W2.heap.size W2 WE:=by rw[hWE];exact(Below.refl _ _).alloc (Nat.le_refl _) _
 have oE:WE.ownsRow W2.heap.size 5 1 (Sz (some ⟨w.heap.size+1+1+1,0,none⟩) 0 0) 0 []:=by
   have h9:=World.ownsRow_lit (base:=W2.heap.size) (e:=5) (size:=1) W2 #[] 0 (Nat.le_refl _) (Nat.zero_le _) rfl
   rw[zW2] at h9
   rw[hWE,zW2]
   exact h9
 have hn83:n8≤3:=by omega
 have HE0:Hid (Below W2.heap.size W2 WE∧WE.ownsRow W2.heap.size 5 1 (Sz (some ⟨w.heap.size+1+1+1,0,none⟩) 0 0) 0 []):=⟨bE,oE⟩
 have HWE:Hid (WE=_):=hWE
 obtain⟨W',H',eW,eH,g1,g2,g3,g4,g5,hlen,hcl,hcu⟩:=gok_parts hg
 obtain⟨c1,c2,c3,c4,c5⟩:=cursB_iff.1 hcu
 have wq:IntKind.i64.wrap (Y+1)=Y+1:=wrap_i64_in _ (by omega) (by omega)
 have wr:IntKind.i64.wrap (H - 1)=H - 1:=by simp[IntKind.wrap,IntKind.bits,IntKind.signed];omega
 have dh:(Y==H - 1)=false:=by simpa using hY
 obtain⟨D,hD⟩:∃ D:GrD,D=goD (W,H,zs,X,Y,wrp,()) X (Y+1):=⟨_,rfl⟩
 have HE:Hid (plainT (((W,H,zs,X,Y,wrp,()),st,al,pl,be,()):TD) 10=(D,st,al,[],be,())):=by
   rw[hD]
   show ((downG W H X Y zs,st,al,[],be,()):TD)=_
   unfold downG
   rw[if_neg hY]
   rfl
 have QG:Hid (∀ w',Below w.heap.size w w'→Calls Tryd.prog 44 #[.agg #[I O W,I O H,Sz a n c,I O X,I O Y,.bool wrp],I O X,I O (Y+1)] w' fun e w''=>GAns w' w'' e D):=fun w' hb=>by rw[hD];exact sgo_any (g:=(W,H,zs,X,Y,wrp,())) X (Y+1) w' hg (h2.later hb)
 clear hg h2 h7 h8 hpl hl8 hr8 hW2 bW2 zW2 hA2 hZ2 hG2 hWE bE oE hD hlen hcl hcu eW eH g1 g2 g3 g4 g5 c1 c2 c3 c4 c5 hY hbe
 have y0:WE.cell? ⟨w.heap.size,0,none⟩=some (I O W):=bxc (HBX.out _ HE0.out.1).1 rfl
 have y1:WE.cell? ⟨w.heap.size,1,none⟩=some (I O H):=bxc (HBX.out _ HE0.out.1).1 rfl
 have y2:WE.cell? ⟨w.heap.size,2,none⟩=some (Sz a n c):=bxc (HBX.out _ HE0.out.1).1 rfl
 have y3:WE.cell? ⟨w.heap.size,3,none⟩=some (I O X):=bxc (HBX.out _ HE0.out.1).1 rfl
 have y4:WE.cell? ⟨w.heap.size,4,none⟩=some (I O Y):=bxc (HBX.out _ HE0.out.1).1 rfl
 have y5:WE.cell? ⟨w.heap.size,5,none⟩=some (.bool wrp):=bxc (HBX.out _ HE0.out.1).1 rfl
 have y6:WE.cell? ⟨w.heap.size,6,none⟩=some (I O st):=bxc (HBX.out _ HE0.out.1).1 rfl
 have y7:WE.cell? ⟨w.heap.size,7,none⟩=some (Sz a7 n7 c7):=bxc (HBX.out _ HE0.out.1).1 rfl
 have y8:WE.cell? ⟨w.heap.size,8,none⟩=some (Sz a8 n8 c8):=bxc (HBX.out _ HE0.out.1).1 rfl
 have y9:WE.cell? ⟨w.heap.size,9,none⟩=some (I O be):=bxc (HBX.out _ HE0.out.1).1 rfl
 have hsE:=srcZ_later HSR.out (HB2.out.1.trans (HE0.out.1.mono HB2.out.1.size))
 have oE:=HE0.out.2
 go_enter Tryd.func54,Tryd.ntmps54
 go_wp2_with (at_builtin;rw[← HW.out,← HWE.out];refine wpList_append_srcZ rfl _ _ 25 rfl W2.heap.size 5 i1 (I .u8 0) 1 1 Tryd.underlying25 ji jz0 jz1 jz2 rfl (by decide) _ 0 [] rfl oE (Sz a8 n8 c8) n8 (pl.map (Value.int .u8)) rfl ?c0 hsE ?c1 ?c3 ?c4 HE0.out.1.size ?_)
 case c0=>(rw[List.length_map,HL.out]) <;> omega
 case c1=>intro u hu;simp at hu;obtain⟨x,_,rfl⟩:=hu;rfl
 case c3=>unfold maxLen;omega
 case c4=>omega
 intro v7 wA oA gA
 (try rw[Nat.zero_add] at oA)
 (try rw[List.nil_append] at oA)
 obtain⟨aA,cA,hvA⟩:=own_formV oA
 subst hvA
 have kA:Below W2.heap.size W2 wA:=HE0.out.1.grown gA HE0.out.1.size (fun k e=>(oE.lt k e).1)
 clear oE gA hsE y0 y1 y2 y3 y4 y5 y6 y7 y8 y9
 have bl2:Below wA.heap.size wA (wA.alloc (.cells #[I .u8 (10)] 5)):=(Below.refl _ _).alloc (Nat.le_refl _) _
 have oA2:=own_later oA bl2
 have sB:SrcZ (wA.alloc (.cells #[I .u8 (10)] 5)) (Sz (some ⟨wA.heap.size,0,none⟩) 1 1) 1 [I .u8 (10)]:=srcZ_lit (cs:=[I .u8 (10)]) (heap_alloc_new wA _)
 have kA2:Below W2.heap.size W2 (wA.alloc (.cells #[I .u8 (10)] 5)):=kA.trans (bl2.mono kA.size)
 have y0:wA.cell? ⟨w.heap.size,0,none⟩=some (I O W):=bxc (HBX.out _ kA).1 rfl
 have y1:wA.cell? ⟨w.heap.size,1,none⟩=some (I O H):=bxc (HBX.out _ kA).1 rfl
 have y2:wA.cell? ⟨w.heap.size,2,none⟩=some (Sz a n c):=bxc (HBX.out _ kA).1 rfl
 have y3:wA.cell? ⟨w.heap.size,3,none⟩=some (I O X):=bxc (HBX.out _ kA).1 rfl
 have y4:wA.cell? ⟨w.heap.size,4,none⟩=some (I O Y):=bxc (HBX.out _ kA).1 rfl
 have y5:wA.cell? ⟨w.heap.size,5,none⟩=some (.bool wrp):=bxc (HBX.out _ kA).1 rfl
 have y6:wA.cell? ⟨w.heap.size,6,none⟩=some (I O st):=bxc (HBX.out _ kA).1 rfl
 have y7:wA.cell? ⟨w.heap.size,7,none⟩=some (Sz a7 n7 c7):=bxc (HBX.out _ kA).1 rfl
 have y8:wA.cell? ⟨w.heap.size,8,none⟩=some (Sz a8 n8 c8):=bxc (HBX.out _ kA).1 rfl
 have y9:wA.cell? ⟨w.heap.size,9,none⟩=some (I O be):=bxc (HBX.out _ kA).1 rfl
 go_wp2_with (at_builtin;refine wpList_append_srcZ rfl _ _ 25 rfl W2.heap.size 5 i1 (I .u8 0) 1 1 Tryd.underlying25 ji jz0 jz1 jz2 rfl (by decide) _ n8 (pl.map (Value.int .u8)) rfl oA2 (Sz (some ⟨wA.heap.size,0,none⟩) 1 1) 1 [I .u8 (10)] rfl rfl sB (by intro u hu;simp at hu;subst hu;rfl) (by unfold maxLen;omega) (by omega) kA2.size ?_)
 intro v8 wB oB gB
 obtain⟨gC,cB,hvB,_,_⟩:=own_form oB (by omega)
 subst hvB
 have kB:Below W2.heap.size W2 wB:=kA2.grown gB kA2.size (fun k e=>(oA2.lt k e).1)
 have oS:wB.ownsRow W2.heap.size 5 1 (Sz (some ⟨gC,0,none⟩) (n8+1) cB) (n8+1) ((pl++[10]).map (Value.int .u8)):=by rw[List.map_append];exact oB
 clear oA oA2 sB bl2 kA kA2 gB oB y0 y1 y2 y3 y4 y5 y6 y7 y8 y9
 have bB:=HB2.out.1.trans (kB.mono HB2.out.1.size)
 have i4:=HBX.out _ kB
 obtain⟨w8,hw8⟩:∃ U,U=wB.setCell ⟨w.heap.size,8,none⟩ (Sz none 0 0):=⟨_,rfl⟩
 have b8:Below w.heap.size w w8:=by rw[hw8];exact Below.setCell (p:=⟨w.heap.size,8,none⟩) bB (Nat.le_refl _) _
 have z8:W2.heap.size≤w8.heap.size:=by rw[hw8];exact Nat.le_trans kB.size (Below.setCell (p:=⟨w.heap.size,8,none⟩) (Below.refl w.heap.size wB) (Nat.le_refl _) _).size
 have hV8:w8.heap[w.heap.size]?=some (.cells #[I O W,I O H,Sz a n c,I O X,I O Y,.bool wrp,I O st,Sz a7 n7 c7,Sz none 0 0,I O be] 31 (0,0)):=by rw[hw8];exact box_set _ i4.1
 have hR8:w8.heap[w.heap.size+1]?=some (.cells #[I O 0,I O 0,Sz none 0 0,I O 0,I O 0,.bool false,I O 0,Sz none 0 0,Sz none 0 0,I O 0] 31 (0,0)):=by rw[hw8,box_other _ (by omega)];exact i4.2.1
 have hG8:w8.heap[w.heap.size+1+1]?=some (.cells #[I O W,I O H,Sz a n c,I O X,I O Y,.bool wrp] 29 (0,0)):=by rw[hw8,box_other _ (by omega)];exact i4.2.2
 have q0:wB.cell? ⟨w.heap.size,0,none⟩=some (I O W):=bxc i4.1 rfl
 have q1:wB.cell? ⟨w.heap.size,1,none⟩=some (I O H):=bxc i4.1 rfl
 have q2:wB.cell? ⟨w.heap.size,2,none⟩=some (Sz a n c):=bxc i4.1 rfl
 have q3:wB.cell? ⟨w.heap.size,3,none⟩=some (I O X):=bxc i4.1 rfl
 have q4:wB.cell? ⟨w.heap.size,4,none⟩=some (I O Y):=bxc i4.1 rfl
 have q5:wB.cell? ⟨w.heap.size,5,none⟩=some (.bool wrp):=bxc i4.1 rfl
 have q6:wB.cell? ⟨w.heap.size,6,none⟩=some (I O st):=bxc i4.1 rfl
 have q7:wB.cell? ⟨w.heap.size,7,none⟩=some (Sz a7 n7 c7):=bxc i4.1 rfl
 have q8:wB.cell? ⟨w.heap.size,8,none⟩=some (Sz a8 n8 c8):=bxc i4.1 rfl
 have q9:wB.cell? ⟨w.heap.size,9,none⟩=some (I O be):=bxc i4.1 rfl
 have z0:wB.cell? ⟨w.heap.size+1+1,0,none⟩=some (I O W):=bxc i4.2.2 rfl
 have z1:wB.cell? ⟨w.heap.size+1+1,1,none⟩=some (I O H):=bxc i4.2.2 rfl
 have z2:wB.cell? ⟨w.heap.size+1+1,2,none⟩=some (Sz a n c):=bxc i4.2.2 rfl
 have z3:wB.cell? ⟨w.heap.size+1+1,3,none⟩=some (I O X):=bxc i4.2.2 rfl
 have z4:wB.cell? ⟨w.heap.size+1+1,4,none⟩=some (I O Y):=bxc i4.2.2 rfl
 have z5:wB.cell? ⟨w.heap.size+1+1,5,none⟩=some (.bool wrp):=bxc i4.2.2 rfl
 have f8:wB.frozen? ⟨w.heap.size,8,none⟩=false:=box_frozen i4.1
 have HW8:Hid (w8=_):=hw8
 clear i4 bB kB oS hw8
 go_wp2_with fail
 rw[← HW8.out]
 refine(QG.out _ b8).mono ?_
 rintro e w4 ⟨a5,n5,c5',F,rfl,ho,hb4⟩
 clear q0 q1 q2 q3 q4 q5 q6 q7 q8 q9 z0 z1 z2 z3 z4 z5 f8
 have b4:=b8.trans (hb4.mono b8.size)
 have hz:=HB2.out.2
 have hV4:=(hb4.block _ (by omega)).trans hV8
 have hR4:=(hb4.block _ (by omega)).trans hR8
 obtain⟨VV,hVV⟩:∃ U,U=w4.setCells w.heap.size 0 (#[I O D.1,I O D.2.1,Sz a5 n5 c5',I O D.2.2.2.1,I O D.2.2.2.2.1,.bool D.2.2.2.2.2.1]:Array Value).toList:=⟨_,rfl⟩
 have hVb:VV.heap[w.heap.size]?=some (.cells #[I O D.1,I O D.2.1,Sz a5 n5 c5',I O D.2.2.2.1,I O D.2.2.2.2.1,.bool D.2.2.2.2.2.1,I O st,Sz a7 n7 c7,Sz none 0 0,I O be] 31 (0,0)):=by rw[hVV];exact six_in hV4
 have hth:w4.there w.heap.size 0 6:=six_there hV4
 have hVr:VV.heap[w.heap.size+1]?=some (.cells #[I O 0,I O 0,Sz none 0 0,I O 0,I O 0,.bool false,I O 0,Sz none 0 0,Sz none 0 0,I O 0] 31 (0,0)):=by rw[hVV,setCells_other (by omega)];exact hR4
 have q0:VV.cell? ⟨w.heap.size,0,none⟩=some (I O D.1):=bxc hVb rfl
 have q1:VV.cell? ⟨w.heap.size,1,none⟩=some (I O D.2.1):=bxc hVb rfl
 have q2:VV.cell? ⟨w.heap.size,2,none⟩=some (Sz a5 n5 c5'):=bxc hVb rfl
 have q3:VV.cell? ⟨w.heap.size,3,none⟩=some (I O D.2.2.2.1):=bxc hVb rfl
 have q4:VV.cell? ⟨w.heap.size,4,none⟩=some (I O D.2.2.2.2.1):=bxc hVb rfl
 have q5:VV.cell? ⟨w.heap.size,5,none⟩=some (.bool D.2.2.2.2.2.1):=bxc hVb rfl
 have q6:VV.cell? ⟨w.heap.size,6,none⟩=some (I O st):=bxc hVb rfl
 have q7:VV.cell? ⟨w.heap.size,7,none⟩=some (Sz a7 n7 c7):=bxc hVb rfl
 have q8:VV.cell? ⟨w.heap.size,8,none⟩=some (Sz none 0 0):=bxc hVb rfl
 have q9:VV.cell? ⟨w.heap.size,9,none⟩=some (I O be):=bxc hVb rfl
 have HLD:(loadVar 31 ⟨w.heap.size+1,0,none⟩).run Tryd.prog (VV.setRow (w.heap.size+1) #[I O D.1,I O D.2.1,Sz a5 n5 c5',I O D.2.2.2.1,I O D.2.2.2.2.1,.bool D.2.2.2.2.2.1,I O st,Sz a7 n7 c7,Sz none 0 0,I O be])=.ok (.agg #[I O D.1,I O D.2.1,Sz a5 n5 c5',I O D.2.2.2.1,I O D.2.2.2.2.1,.bool D.2.2.2.2.2.1,I O st,Sz a7 n7 c7,Sz none 0 0,I O be]) (VV.setRow (w.heap.size+1) #[I O D.1,I O D.2.1,Sz a5 n5 c5',I O D.2.2.2.1,I O D.2.2.2.2.1,.bool D.2.2.2.2.2.1,I O st,Sz a7 n7 c7,Sz none 0 0,I O be]):=run_loadVar_row _ _ _ _ _ _ _ (setRow_heap _ _ _ _ _ _ hVr) Tryd.underlying31 rfl (by kernel_rfl)
 have bF:Below w.heap.size w (VV.setRow (w.heap.size+1) #[I O D.1,I O D.2.1,Sz a5 n5 c5',I O D.2.2.2.1,I O D.2.2.2.2.1,.bool D.2.2.2.2.2.1,I O st,Sz a7 n7 c7,Sz none 0 0,I O be]):=below_setRow (by rw[hVV];exact below_setCells _ _ _ b4 (Nat.le_refl _)) (Nat.le_add_right _ 1) _
 have rN:Own (.sl .int) (VV.setRow (w.heap.size+1) #[I O D.1,I O D.2.1,Sz a5 n5 c5',I O D.2.2.2.1,I O D.2.2.2.2.1,.bool D.2.2.2.2.2.1,I O st,Sz a7 n7 c7,Sz none 0 0,I O be]) w8.heap.size [Sz a5 n5 c5'] D.2.2.1 F:=ho.keep fun g hg=>by
   have:=(ho.lt g hg).1
   rw[setRow_other _ (w.heap.size+1) g _ (by omega),hVV,setCells_other (by omega)]
 have HSZ:Hid (w.heap.size≤w8.heap.size):=b8.size
 have HF:Hid (_∧_):=⟨bF,rN⟩
 have HVV:Hid (VV=_):=hVV
 have HTH:Hid (w4.there w.heap.size 0 6):=hth
 clear hVV hVb hth b4 bF rN ho hb4 b8 z8 hV8 hR8 hG8 hV4 hR4
 go_wp2_with (first | (refine wpList_store_mid rfl _ _ _ rfl w.heap.size 0 #[I O D.1,I O D.2.1,Sz a5 n5 c5',I O D.2.2.2.1,I O D.2.2.2.2.1,.bool D.2.2.2.2.2.1] rfl rfl HTH.out (by kernel_rfl) (by simp[Value.oneCell']) ?_;rw[← HVV.out]) | (refine wpList_store_row rfl _ _ _ rfl _ _ rfl rfl _ _ hVr (by kernel_rfl) rfl (by simp[Value.oneCell']) ?_))
 (try simp only[Exit.inBlock,Exit.then])
 refine bodyPost_ret (by simp[results,Tryd.results54,asAddr,Act.put,HLD];try rfl) rfl ?_
 refine⟨[I O D.1,I O D.2.1,Sz a5 n5 c5',I O D.2.2.2.1,I O D.2.2.2.2.1,.bool D.2.2.2.2.2.1,I O st,Sz a7 n7 c7,Sz none 0 0,I O be],rfl,?_,HF.out.1⟩
 rw[HE.out]
 intro w'' hk r2 r7 r8
 exact reads_Vt (d:=((D,st,al,[],be,()):TD)) (own_read HF.out.2 HSZ.out hk) r7 (nil_readB _)
theorem spl_down(W H X Y st be:Int)(wrp:Bool)(a a7 a8:Option Addr)(n c n7 c7 n8 c8:Nat)(zs al pl:List Int)(w:World)(hg:gokB (W,H,zs,X,Y,wrp,())=true)(h2:Reads (.sl .int) w [Sz a n c] zs)(h7:Reads (.sl .int) w [Sz a7 n7 c7] al)(h8:Reads (.sl .u8) w [Sz a8 n8 c8] pl)(hpl:pl.length≤3)(hbe:0≤be∧be≤1000000)(hY:Y=H - 1):
   Calls Tryd.prog 54 #[.agg #[I O W,I O H,Sz a n c,I O X,I O Y,.bool wrp,I O st,Sz a7 n7 c7,Sz a8 n8 c8,I O be],I O 10] w fun e w'=>∃ o,e=.returned (.agg o.toArray)∧RK w w' o (plainT (((W,H,zs,X,Y,wrp,()),st,al,pl,be,()):TD) 10) (Sz a n c) (Sz a7 n7 c7) (Sz a8 n8 c8) zs al pl∧Below w.heap.size w w':=by
 obtain⟨i1,ji,jz0,jz1,jz2⟩:=info_parts Tryd.infoB
 obtain⟨W2,hW2,bW2,zW2,hA2,hZ2,hG2,HBX⟩:=mpro2 W H X Y st be wrp a a7 a8 n c n7 c7 n8 c8 w
 have HB2:Hid (Below w.heap.size w W2∧W2.heap.size=w.heap.size+3):=⟨bW2,zW2⟩
 have HW:Hid (W2=_):=hW2
 have HR:Hid (Reads (.sl .int) w [Sz a n c] zs∧Reads (.sl .int) w [Sz a7 n7 c7] al):=⟨h2,h7⟩
 obtain⟨hl8,hr8,_,_⟩:=reads_bytes h8
 have HBY:Hid (∀ i,0≤bt pl i∧bt pl i≤255):=fun i=>hr8.1 i
 have HL:Hid (pl.length=n8):=hl8
 have HSR:Hid (SrcZ w (Sz a8 n8 c8) n8 (pl.map (Value.int .u8))):=srcZ_rd hr8 hl8
 obtain⟨WE,hWE⟩:∃ U,U=W2.alloc (.cells #[] 5):=⟨_,rfl⟩
 have bE:Below W2.heap.size W2 WE:=by rw[hWE];exact(Below.refl _ _).alloc (Nat.le_refl _) _
 have oE:WE.ownsRow W2.heap.size 5 1 (Sz (some ⟨w.heap.size+1+1+1,0,none⟩) 0 0) 0 []:=by
   have h9:=World.ownsRow_lit (base:=W2.heap.size) (e:=5) (size:=1) W2 #[] 0 (Nat.le_refl _) (Nat.zero_le _) rfl
   rw[zW2] at h9
   rw[hWE,zW2]
   exact h9
 have hn83:n8≤3:=by omega
 have HE0:Hid (Below W2.heap.size W2 WE∧WE.ownsRow W2.heap.size 5 1 (Sz (some ⟨w.heap.size+1+1+1,0,none⟩) 0 0) 0 []):=⟨bE,oE⟩
 have HWE:Hid (WE=_):=hWE
 obtain⟨W',H',eW,eH,g1,g2,g3,g4,g5,hlen,hcl,hcu⟩:=gok_parts hg
 obtain⟨c1,c2,c3,c4,c5⟩:=cursB_iff.1 hcu
 have wq:IntKind.i64.wrap (Y+1)=Y+1:=wrap_i64_in _ (by omega) (by omega)
 have wr:IntKind.i64.wrap (H - 1)=H - 1:=by simp[IntKind.wrap,IntKind.bits,IntKind.signed];omega
 have dh:(Y==H - 1)=true:=by simpa using hY
 obtain⟨zS,hzS⟩:∃ z,z=scr 32 W.toNat zs:=⟨_,rfl⟩
 obtain⟨D,hD⟩:∃ D:GrD,D=goD (W,H,zS,X,Y,wrp,()) X (Y+1):=⟨_,rfl⟩
 have HE:Hid (plainT (((W,H,zs,X,Y,wrp,()),st,al,pl,be,()):TD) 10=(D,st,al,[],be,())):=by
   rw[hD]
   show ((downG W H X Y zs,st,al,[],be,()):TD)=_
   unfold downG
   rw[if_pos hY,hzS]
   rfl
 have QS:Hid (∀ w',Below w.heap.size w w'→Calls Tryd.prog 71 #[.agg #[I O W,I O H,Sz a n c,I O X,I O Y,.bool wrp]] w' fun e w''=>∃ a n c F,e=.returned (.agg #[I O W,I O H,Sz a n c,I O X,I O Y,.bool wrp])∧Own (.sl .int) w'' w'.heap.size [Sz a n c] zS F∧Below w'.heap.size w' w''):=fun w' hb=>by rw[hzS];exact sscroll_any (g:=(W,H,zs,X,Y,wrp,())) w' hg (h2.later hb)
 have QG:Hid (∀ (w':World) (a:Option Addr) (n c:Nat),Reads (.sl .int) w' [Sz a n c] zS→Calls Tryd.prog 44 #[.agg #[I O W,I O H,Sz a n c,I O X,I O Y,.bool wrp],I O X,I O (Y+1)] w' fun e w''=>GAns w' w'' e D):=fun w' a n c hr=>by rw[hD];rw[hzS] at hr ⊢;exact sgo_any (g:=(W,H,scr 32 W.toNat zs,X,Y,wrp,())) X (Y+1) w' (scroll_right hg) hr
 clear hg h2 h7 h8 hpl hl8 hr8 hW2 bW2 zW2 hA2 hZ2 hG2 hWE bE oE hD hzS hlen hcl hcu eW eH g1 g2 g3 g4 g5 c1 c2 c3 c4 c5 hY hbe
 have y0:WE.cell? ⟨w.heap.size,0,none⟩=some (I O W):=bxc (HBX.out _ HE0.out.1).1 rfl
 have y1:WE.cell? ⟨w.heap.size,1,none⟩=some (I O H):=bxc (HBX.out _ HE0.out.1).1 rfl
 have y2:WE.cell? ⟨w.heap.size,2,none⟩=some (Sz a n c):=bxc (HBX.out _ HE0.out.1).1 rfl
 have y3:WE.cell? ⟨w.heap.size,3,none⟩=some (I O X):=bxc (HBX.out _ HE0.out.1).1 rfl
 have y4:WE.cell? ⟨w.heap.size,4,none⟩=some (I O Y):=bxc (HBX.out _ HE0.out.1).1 rfl
 have y5:WE.cell? ⟨w.heap.size,5,none⟩=some (.bool wrp):=bxc (HBX.out _ HE0.out.1).1 rfl
 have y6:WE.cell? ⟨w.heap.size,6,none⟩=some (I O st):=bxc (HBX.out _ HE0.out.1).1 rfl
 have y7:WE.cell? ⟨w.heap.size,7,none⟩=some (Sz a7 n7 c7):=bxc (HBX.out _ HE0.out.1).1 rfl
 have y8:WE.cell? ⟨w.heap.size,8,none⟩=some (Sz a8 n8 c8):=bxc (HBX.out _ HE0.out.1).1 rfl
 have y9:WE.cell? ⟨w.heap.size,9,none⟩=some (I O be):=bxc (HBX.out _ HE0.out.1).1 rfl
 have hsE:=srcZ_later HSR.out (HB2.out.1.trans (HE0.out.1.mono HB2.out.1.size))
 have oE:=HE0.out.2
 go_enter Tryd.func54,Tryd.ntmps54
 go_wp2_with (at_builtin;rw[← HW.out,← HWE.out];refine wpList_append_srcZ rfl _ _ 25 rfl W2.heap.size 5 i1 (I .u8 0) 1 1 Tryd.underlying25 ji jz0 jz1 jz2 rfl (by decide) _ 0 [] rfl oE (Sz a8 n8 c8) n8 (pl.map (Value.int .u8)) rfl ?c0 hsE ?c1 ?c3 ?c4 HE0.out.1.size ?_)
 case c0=>(rw[List.length_map,HL.out]) <;> omega
 case c1=>intro u hu;simp at hu;obtain⟨x,_,rfl⟩:=hu;rfl
 case c3=>unfold maxLen;omega
 case c4=>omega
 intro v7 wA oA gA
 (try rw[Nat.zero_add] at oA)
 (try rw[List.nil_append] at oA)
 obtain⟨aA,cA,hvA⟩:=own_formV oA
 subst hvA
 have kA:Below W2.heap.size W2 wA:=HE0.out.1.grown gA HE0.out.1.size (fun k e=>(oE.lt k e).1)
 clear oE gA hsE y0 y1 y2 y3 y4 y5 y6 y7 y8 y9
 have bl2:Below wA.heap.size wA (wA.alloc (.cells #[I .u8 (10)] 5)):=(Below.refl _ _).alloc (Nat.le_refl _) _
 have oA2:=own_later oA bl2
 have sB:SrcZ (wA.alloc (.cells #[I .u8 (10)] 5)) (Sz (some ⟨wA.heap.size,0,none⟩) 1 1) 1 [I .u8 (10)]:=srcZ_lit (cs:=[I .u8 (10)]) (heap_alloc_new wA _)
 have kA2:Below W2.heap.size W2 (wA.alloc (.cells #[I .u8 (10)] 5)):=kA.trans (bl2.mono kA.size)
 have y0:wA.cell? ⟨w.heap.size,0,none⟩=some (I O W):=bxc (HBX.out _ kA).1 rfl
 have y1:wA.cell? ⟨w.heap.size,1,none⟩=some (I O H):=bxc (HBX.out _ kA).1 rfl
 have y2:wA.cell? ⟨w.heap.size,2,none⟩=some (Sz a n c):=bxc (HBX.out _ kA).1 rfl
 have y3:wA.cell? ⟨w.heap.size,3,none⟩=some (I O X):=bxc (HBX.out _ kA).1 rfl
 have y4:wA.cell? ⟨w.heap.size,4,none⟩=some (I O Y):=bxc (HBX.out _ kA).1 rfl
 have y5:wA.cell? ⟨w.heap.size,5,none⟩=some (.bool wrp):=bxc (HBX.out _ kA).1 rfl
 have y6:wA.cell? ⟨w.heap.size,6,none⟩=some (I O st):=bxc (HBX.out _ kA).1 rfl
 have y7:wA.cell? ⟨w.heap.size,7,none⟩=some (Sz a7 n7 c7):=bxc (HBX.out _ kA).1 rfl
 have y8:wA.cell? ⟨w.heap.size,8,none⟩=some (Sz a8 n8 c8):=bxc (HBX.out _ kA).1 rfl
 have y9:wA.cell? ⟨w.heap.size,9,none⟩=some (I O be):=bxc (HBX.out _ kA).1 rfl
 go_wp2_with (at_builtin;refine wpList_append_srcZ rfl _ _ 25 rfl W2.heap.size 5 i1 (I .u8 0) 1 1 Tryd.underlying25 ji jz0 jz1 jz2 rfl (by decide) _ n8 (pl.map (Value.int .u8)) rfl oA2 (Sz (some ⟨wA.heap.size,0,none⟩) 1 1) 1 [I .u8 (10)] rfl rfl sB (by intro u hu;simp at hu;subst hu;rfl) (by unfold maxLen;omega) (by omega) kA2.size ?_)
 intro v8 wB oB gB
 obtain⟨gC,cB,hvB,_,_⟩:=own_form oB (by omega)
 subst hvB
 have kB:Below W2.heap.size W2 wB:=kA2.grown gB kA2.size (fun k e=>(oA2.lt k e).1)
 have oS:wB.ownsRow W2.heap.size 5 1 (Sz (some ⟨gC,0,none⟩) (n8+1) cB) (n8+1) ((pl++[10]).map (Value.int .u8)):=by rw[List.map_append];exact oB
 clear oA oA2 sB bl2 kA kA2 gB oB y0 y1 y2 y3 y4 y5 y6 y7 y8 y9
 have bB:=HB2.out.1.trans (kB.mono HB2.out.1.size)
 have i4:=HBX.out _ kB
 have hz:=HB2.out.2
 obtain⟨u8,hu8⟩:∃ U,U=wB.setCell ⟨w.heap.size,8,none⟩ (Sz none 0 0):=⟨_,rfl⟩
 have e8:Below w.heap.size w u8:=by rw[hu8];exact Below.setCell (p:=⟨w.heap.size,8,none⟩) bB (Nat.le_refl _) _
 have y8:W2.heap.size≤u8.heap.size:=by rw[hu8];exact Nat.le_trans kB.size (Below.setCell (p:=⟨w.heap.size,8,none⟩) (Below.refl w.heap.size wB) (Nat.le_refl _) _).size
 have hV0:u8.heap[w.heap.size]?=some (.cells #[I O W,I O H,Sz a n c,I O X,I O Y,.bool wrp,I O st,Sz a7 n7 c7,Sz none 0 0,I O be] 31 (0,0)):=by rw[hu8];exact box_set _ i4.1
 have hR0:u8.heap[w.heap.size+1]?=some (.cells #[I O 0,I O 0,Sz none 0 0,I O 0,I O 0,.bool false,I O 0,Sz none 0 0,Sz none 0 0,I O 0] 31 (0,0)):=by rw[hu8,box_other _ (by omega)];exact i4.2.1
 have hG0:u8.heap[w.heap.size+1+1]?=some (.cells #[I O W,I O H,Sz a n c,I O X,I O Y,.bool wrp] 29 (0,0)):=by rw[hu8,box_other _ (by omega)];exact i4.2.2
 have q0:wB.cell? ⟨w.heap.size,0,none⟩=some (I O W):=bxc i4.1 rfl
 have q1:wB.cell? ⟨w.heap.size,1,none⟩=some (I O H):=bxc i4.1 rfl
 have q2:wB.cell? ⟨w.heap.size,2,none⟩=some (Sz a n c):=bxc i4.1 rfl
 have q3:wB.cell? ⟨w.heap.size,3,none⟩=some (I O X):=bxc i4.1 rfl
 have q4:wB.cell? ⟨w.heap.size,4,none⟩=some (I O Y):=bxc i4.1 rfl
 have q5:wB.cell? ⟨w.heap.size,5,none⟩=some (.bool wrp):=bxc i4.1 rfl
 have q6:wB.cell? ⟨w.heap.size,6,none⟩=some (I O st):=bxc i4.1 rfl
 have q7:wB.cell? ⟨w.heap.size,7,none⟩=some (Sz a7 n7 c7):=bxc i4.1 rfl
 have q8:wB.cell? ⟨w.heap.size,8,none⟩=some (Sz a8 n8 c8):=bxc i4.1 rfl
 have q9:wB.cell? ⟨w.heap.size,9,none⟩=some (I O be):=bxc i4.1 rfl
 have z0:wB.cell? ⟨w.heap.size+1+1,0,none⟩=some (I O W):=bxc i4.2.2 rfl
 have z1:wB.cell? ⟨w.heap.size+1+1,1,none⟩=some (I O H):=bxc i4.2.2 rfl
 have z2:wB.cell? ⟨w.heap.size+1+1,2,none⟩=some (Sz a n c):=bxc i4.2.2 rfl
 have z3:wB.cell? ⟨w.heap.size+1+1,3,none⟩=some (I O X):=bxc i4.2.2 rfl
 have z4:wB.cell? ⟨w.heap.size+1+1,4,none⟩=some (I O Y):=bxc i4.2.2 rfl
 have z5:wB.cell? ⟨w.heap.size+1+1,5,none⟩=some (.bool wrp):=bxc i4.2.2 rfl
 have f8:wB.frozen? ⟨w.heap.size,8,none⟩=false:=box_frozen i4.1
 have HW8:Hid (u8=_):=hu8
 clear i4 bB kB oS hu8
 go_wp2_with fail
 rw[← HW8.out]
 refine(QS.out _ e8).mono ?_
 rintro e u4 ⟨a4,n4,c4',F4,rfl,ho4,hu4⟩
 clear q0 q1 q2 q3 q4 q5 q6 q7 q8 q9 z0 z1 z2 z3 z4 z5 f8
 have hG4:=(hu4.block _ (by omega)).trans hG0
 obtain⟨w8,hw8⟩:∃ U,U=u4.setRow (w.heap.size+1+1) #[I O W,I O H,Sz a4 n4 c4',I O X,I O Y,.bool wrp]:=⟨_,rfl⟩
 have b8:Below w.heap.size w w8:=by rw[hw8];exact below_setRow (e8.trans (hu4.mono e8.size)) (by omega) _
 have z8:W2.heap.size≤w8.heap.size:=by rw[hw8];have:=hu4.size;simp[World.setRow];omega
 have hV8:w8.heap[w.heap.size]?=some (.cells #[I O W,I O H,Sz a n c,I O X,I O Y,.bool wrp,I O st,Sz a7 n7 c7,Sz none 0 0,I O be] 31 (0,0)):=by rw[hw8,setRow_other _ (w.heap.size+1+1) _ _ (by omega)];exact(hu4.block _ (by omega)).trans hV0
 have hR8:w8.heap[w.heap.size+1]?=some (.cells #[I O 0,I O 0,Sz none 0 0,I O 0,I O 0,.bool false,I O 0,Sz none 0 0,Sz none 0 0,I O 0] 31 (0,0)):=by rw[hw8,setRow_other _ (w.heap.size+1+1) _ _ (by omega)];exact(hu4.block _ (by omega)).trans hR0
 have hG8:w8.heap[w.heap.size+1+1]?=some (.cells #[I O W,I O H,Sz a4 n4 c4',I O X,I O Y,.bool wrp] 29 (0,0)):=by rw[hw8];exact setRow_heap _ _ _ _ _ _ hG4
 have r4:Reads (.sl .int) w8 [Sz a4 n4 c4'] zS:=(ho4.keep fun g hg=>by
   have:=(ho4.lt g hg).1
   rw[hw8,setRow_other _ (w.heap.size+1+1) g _ (by omega)]).reads
 have z0:w8.cell? ⟨w.heap.size+1+1,0,none⟩=some (I O W):=bxc hG8 rfl
 have z1:w8.cell? ⟨w.heap.size+1+1,1,none⟩=some (I O H):=bxc hG8 rfl
 have z2:w8.cell? ⟨w.heap.size+1+1,2,none⟩=some (Sz a4 n4 c4'):=bxc hG8 rfl
 have z3:w8.cell? ⟨w.heap.size+1+1,3,none⟩=some (I O X):=bxc hG8 rfl
 have z4:w8.cell? ⟨w.heap.size+1+1,4,none⟩=some (I O Y):=bxc hG8 rfl
 have z5:w8.cell? ⟨w.heap.size+1+1,5,none⟩=some (.bool wrp):=bxc hG8 rfl
 have HW9:Hid (w8=_):=hw8
 clear hw8 ho4 hu4 e8 y8 hV0 hR0 hG0
 go_wp2_with (refine wpList_store_row rfl _ _ _ rfl _ _ rfl rfl _ _ hG4 (by kernel_rfl) rfl (by simp[Value.oneCell']) ?_;rw[← HW9.out])
 refine(QG.out _ _ _ _ r4).mono ?_
 rintro e w4 ⟨a5,n5,c5',F,rfl,ho,hb4⟩
 clear z0 z1 z2 z3 z4 z5 hG4 r4
 have b4:=b8.trans (hb4.mono b8.size)
 have hV4:=(hb4.block _ (by omega)).trans hV8
 have hR4:=(hb4.block _ (by omega)).trans hR8
 obtain⟨VV,hVV⟩:∃ U,U=w4.setCells w.heap.size 0 (#[I O D.1,I O D.2.1,Sz a5 n5 c5',I O D.2.2.2.1,I O D.2.2.2.2.1,.bool D.2.2.2.2.2.1]:Array Value).toList:=⟨_,rfl⟩
 have hVb:VV.heap[w.heap.size]?=some (.cells #[I O D.1,I O D.2.1,Sz a5 n5 c5',I O D.2.2.2.1,I O D.2.2.2.2.1,.bool D.2.2.2.2.2.1,I O st,Sz a7 n7 c7,Sz none 0 0,I O be] 31 (0,0)):=by rw[hVV];exact six_in hV4
 have hth:w4.there w.heap.size 0 6:=six_there hV4
 have hVr:VV.heap[w.heap.size+1]?=some (.cells #[I O 0,I O 0,Sz none 0 0,I O 0,I O 0,.bool false,I O 0,Sz none 0 0,Sz none 0 0,I O 0] 31 (0,0)):=by rw[hVV,setCells_other (by omega)];exact hR4
 have q0:VV.cell? ⟨w.heap.size,0,none⟩=some (I O D.1):=bxc hVb rfl
 have q1:VV.cell? ⟨w.heap.size,1,none⟩=some (I O D.2.1):=bxc hVb rfl
 have q2:VV.cell? ⟨w.heap.size,2,none⟩=some (Sz a5 n5 c5'):=bxc hVb rfl
 have q3:VV.cell? ⟨w.heap.size,3,none⟩=some (I O D.2.2.2.1):=bxc hVb rfl
 have q4:VV.cell? ⟨w.heap.size,4,none⟩=some (I O D.2.2.2.2.1):=bxc hVb rfl
 have q5:VV.cell? ⟨w.heap.size,5,none⟩=some (.bool D.2.2.2.2.2.1):=bxc hVb rfl
 have q6:VV.cell? ⟨w.heap.size,6,none⟩=some (I O st):=bxc hVb rfl
 have q7:VV.cell? ⟨w.heap.size,7,none⟩=some (Sz a7 n7 c7):=bxc hVb rfl
 have q8:VV.cell? ⟨w.heap.size,8,none⟩=some (Sz none 0 0):=bxc hVb rfl
 have q9:VV.cell? ⟨w.heap.size,9,none⟩=some (I O be):=bxc hVb rfl
 have HLD:(loadVar 31 ⟨w.heap.size+1,0,none⟩).run Tryd.prog (VV.setRow (w.heap.size+1) #[I O D.1,I O D.2.1,Sz a5 n5 c5',I O D.2.2.2.1,I O D.2.2.2.2.1,.bool D.2.2.2.2.2.1,I O st,Sz a7 n7 c7,Sz none 0 0,I O be])=.ok (.agg #[I O D.1,I O D.2.1,Sz a5 n5 c5',I O D.2.2.2.1,I O D.2.2.2.2.1,.bool D.2.2.2.2.2.1,I O st,Sz a7 n7 c7,Sz none 0 0,I O be]) (VV.setRow (w.heap.size+1) #[I O D.1,I O D.2.1,Sz a5 n5 c5',I O D.2.2.2.1,I O D.2.2.2.2.1,.bool D.2.2.2.2.2.1,I O st,Sz a7 n7 c7,Sz none 0 0,I O be]):=run_loadVar_row _ _ _ _ _ _ _ (setRow_heap _ _ _ _ _ _ hVr) Tryd.underlying31 rfl (by kernel_rfl)
 have bF:Below w.heap.size w (VV.setRow (w.heap.size+1) #[I O D.1,I O D.2.1,Sz a5 n5 c5',I O D.2.2.2.1,I O D.2.2.2.2.1,.bool D.2.2.2.2.2.1,I O st,Sz a7 n7 c7,Sz none 0 0,I O be]):=below_setRow (by rw[hVV];exact below_setCells _ _ _ b4 (Nat.le_refl _)) (Nat.le_add_right _ 1) _
 have rN:Own (.sl .int) (VV.setRow (w.heap.size+1) #[I O D.1,I O D.2.1,Sz a5 n5 c5',I O D.2.2.2.1,I O D.2.2.2.2.1,.bool D.2.2.2.2.2.1,I O st,Sz a7 n7 c7,Sz none 0 0,I O be]) w8.heap.size [Sz a5 n5 c5'] D.2.2.1 F:=ho.keep fun g hg=>by
   have:=(ho.lt g hg).1
   rw[setRow_other _ (w.heap.size+1) g _ (by omega),hVV,setCells_other (by omega)]
 have HSZ:Hid (w.heap.size≤w8.heap.size):=b8.size
 have HF:Hid (_∧_):=⟨bF,rN⟩
 have HVV:Hid (VV=_):=hVV
 have HTH:Hid (w4.there w.heap.size 0 6):=hth
 clear hVV hVb hth b4 bF rN ho hb4 b8 z8 hV8 hR8 hG8 hV4 hR4
 go_wp2_with (first | (refine wpList_store_mid rfl _ _ _ rfl w.heap.size 0 #[I O D.1,I O D.2.1,Sz a5 n5 c5',I O D.2.2.2.1,I O D.2.2.2.2.1,.bool D.2.2.2.2.2.1] rfl rfl HTH.out (by kernel_rfl) (by simp[Value.oneCell']) ?_;rw[← HVV.out]) | (refine wpList_store_row rfl _ _ _ rfl _ _ rfl rfl _ _ hVr (by kernel_rfl) rfl (by simp[Value.oneCell']) ?_))
 (try simp only[Exit.inBlock,Exit.then])
 refine bodyPost_ret (by simp[results,Tryd.results54,asAddr,Act.put,HLD];try rfl) rfl ?_
 refine⟨[I O D.1,I O D.2.1,Sz a5 n5 c5',I O D.2.2.2.1,I O D.2.2.2.2.1,.bool D.2.2.2.2.2.1,I O st,Sz a7 n7 c7,Sz none 0 0,I O be],rfl,?_,HF.out.1⟩
 rw[HE.out]
 intro w'' hk r2 r7 r8
 exact reads_Vt (d:=((D,st,al,[],be,()):TD)) (own_read HF.out.2 HSZ.out hk) r7 (nil_readB _)
end Go.Proofs.YthodinpflcbklaaDoor
namespace Go.Proofs.YthodinpflcbklaaDoor
open Go.RowKit
theorem own_capB{w:World}{base:Nat}{e:TypeId}{size g n cap:Nat}{xs:List Value}(h:w.ownsRow base e size (Sz (some ⟨g,0,none⟩) n cap) n xs):n≤cap∧cap≤maxLen:=by
 rcases h.2 with ⟨h1,_⟩ | ⟨g',cap',cur,hv,hb,hg,hr,hm,_⟩
 · simp at h1
 · simp only[Value.slice.injEq,Option.some.injEq,Addr.mk.injEq,and_true,true_and] at hv
   obtain⟨rfl,rfl⟩:=hv
   exact⟨hr,hm⟩
theorem rra_size{zs:List Int}{k:Nat}(hb:∀ i,0≤bt zs i∧bt zs i≤255)(hl:zs.length=k)(h1:1≤k)(h4:k≤4):(rra zs 0).2=(k:Int)↔hit zs 0 k:=by
 have e:rra zs 0=rrd zs 0:=by unfold rra;rw[if_neg (by omega)];rfl
 rw[e]
 constructor
 · intro h
   by_cases hn:∃ j,1≤j∧j≤4∧0+j≤zs.length∧hit zs 0 j
   · obtain⟨j,j1,j4,jl,hj⟩:=hn
     rw[rrd_hit zs 0 j hb j1 j4 jl hj] at h
     have:j=k:=by simp at h;omega
     subst this;exact hj
   · rw[rrd_none zs 0 hb (by omega) (fun j j1 j4 jl hj=>hn ⟨j,j1,j4,jl,hj⟩)] at h
     simp at h;omega
 · intro h
   rw[rrd_hit zs 0 k hb h1 h4 (by omega) h]
theorem fillB_self(zs:List Int)(v:Int):fillB zs zs.length v=zs:=by simp[fillB]
theorem fillB_succ{zs:List Int}{j:Nat}(v:Int)(h:zs.length≤j):fillB zs (j+1) v=fillB zs j v++[v]:=by
 unfold fillB
 rw[show j+1 - zs.length=(j - zs.length)+1 by omega,List.replicate_succ',List.append_assoc]
theorem own_lowB{w:World}{B B' n:Nat}{e:TypeId}{size:Nat}{v:Value}{xs:List Value}(h:w.ownsRow B e size v n xs)(hb:B'≤B):w.ownsRow B' e size v n xs:=by
 refine⟨h.1,?_⟩
 rcases h.2 with h1 | ⟨g,cap,cur,hv,hg,r⟩
 · exact .inl h1
 · exact .inr ⟨g,cap,cur,hv,Nat.le_trans hb hg,r⟩
def slen:Value→Nat
 | Sz _ n _=>n
 | _=>0
theorem bt_fill{zs:List Int}(hz:∀ i:Nat,0≤zs[i]?.getD 0∧zs[i]?.getD 0≤255)(s:Nat){v:Int}(hv:0≤v∧v≤255):∀ i:Nat,0≤(fillB zs s v)[i]?.getD 0∧(fillB zs s v)[i]?.getD 0≤255:=
 fun i=>fillB_bytes (zs:=zs) s hv (fun i=>hz i) i
set_option maxRecDepth 100000 in
theorem specRbg_mid (b off n cap:Nat) (zs:List Int) (w:World) (hl:zs.length=n) (hz:∀ i:Nat,0≤zs[i]?.getD 0∧zs[i]?.getD 0≤255) (hlt:b < w.heap.size)
   (hc:∀ i,i < zs.length→w.cell? ⟨b,off+i,none⟩=some (I .u8 (zs[i]?.getD 0))) (hn1:1≤n) (hn3:n≤3) (hcap:n≤cap) (hcm:cap≤maxLen) :
   Calls Tryd.prog 53 #[Sz (some ⟨b,off,none⟩) n cap] w fun e w'=>e=.returned (.bool (rbgB zs))∧Below w.heap.size w w':=by
 obtain⟨i0,hi,hz0,hz1,hz2⟩:=info_parts Tryd.infoB
 unfold maxLen at hcm
 have HL:Hid (zs.length=n):=hl
 have HZ:Hid (∀ i:Nat,0≤zs[i]?.getD 0∧zs[i]?.getD 0≤255):=hz
 have HC:Hid (∀ i,i < zs.length→w.cell? ⟨b,off+i,none⟩=some (I .u8 (zs[i]?.getD 0))):=hc
 have HI:Hid (rbgB zs=true↔(0 < zs.length∧zs.length≤3∧∃ s,zs.length < s∧s≤4∧sizeP zs s)):=rbg_iff zs (fun i=>hz i)
 have wn:IntKind.i64.wrap ((n:Int)+1)=(n:Int)+1:=wrap_i64_in _ (by omega) (by omega)
 clear hl hz hc
 go_enter Tryd.func53,Tryd.ntmps53
 go_wp2
 go_loopw [3] (fun i wr=>∃ k:Nat,i=I O k∧n+1≤k∧k≤5∧(∀ s,n < s→s < k→¬ sizeP zs s)∧Below w.heap.size w wr) (fun i _=>5 - (intOf i).toNat)
 case atStart=>exact⟨n+1,by simp,by omega,by omega,fun s h1 h2=>by omega,Below.refl _ _⟩
 case round =>
   rename World=>wo
   obtain⟨k,rfl,hk1,hk5,hno,hbel⟩:=hrel
   have HNO:Hid (∀ s,n < s→s < k→¬ sizeP zs s):=hno
   have HB:Hid (Below w.heap.size w wo):=hbel
   have hws:=hbel.size
   clear hno hbel
   by_cases hlt4:k≤4
   · have src0:∀ w',Below w.heap.size w w'→∀ (j:Nat) (u:Value),(zs.map (Value.int .u8))[j]?=some u→w'.cell? ((⟨b,off,none⟩:Addr).add j)=some u:=by
       intro w' hb' j u hu
       have hj:j < zs.length:=by have:=(List.getElem?_eq_some_iff.1 hu).1;simpa using this
       have e:(⟨b,off,none⟩:Addr).add j=⟨b,off+j,none⟩:=by cases j <;> simp[Addr.add]
       rw[e,hb'.cell (p:=⟨b,off+j,none⟩) hlt,HC.out j hj,← hu]
       simp[hj]
     have SRC:Hid (∀ w',Below w.heap.size w w'→∀ (j:Nat) (u:Value),(zs.map (Value.int .u8))[j]?=some u→w'.cell? ((⟨b,off,none⟩:Addr).add j)=some u):=src0
     have hl1:(zs.map (Value.int .u8)).length=n*1:=by simp[HL.out]
     have HL1:Hid _:=hl1
     clear src0 hl1
     have o00:=World.ownsRow_lit (base:=wo.heap.size) (e:=5) (size:=1) wo #[] 0 (Nat.le_refl _) (Nat.zero_le _) rfl
     go_wp2_with (at_builtin;refine wpList_append_lies _ rfl _ _ 25 rfl wo.heap.size 5 i0 (I .u8 0) 1 1 Tryd.underlying25 hi hz0 hz1 hz2 rfl (by decide) _ 0 [] rfl o00 ⟨b,off,none⟩ n _ (zs.map (Value.int .u8)) rfl HL1.out (SRC.out _ (HB.out.alloc hws _)) (ints_oneCell _ _) (by omega) ?c3 ?c4 (by simp) _ rfl ?_)
     case c3=>unfold maxLen;omega
     case c4=>omega
     intro ga ca w1 o1 hg1 hx1 hlt1
     have b1:Below wo.heap.size wo w1:=((Below.refl _ _).alloc (Nat.le_refl _) _).grown hg1 (by simp) (fun z h=>by cases h;exact Nat.le_refl _)
     have hga:=o1.lt ga rfl
     have hs1:=b1.size
     have O1:Hid (w1.ownsRow wo.heap.size 5 1 (Sz (some ⟨ga,0,none⟩) n ca) n (zs.map (Value.int .u8))):=by show World.ownsRow _ _ _ _ _ _ _;simpa using o1
     have B1:Hid (Below wo.heap.size wo w1):=b1
     clear o00 o1 hg1 hx1 b1
     have o00:=World.ownsRow_lit (base:=w1.heap.size) (e:=5) (size:=1) w1 #[] 0 (Nat.le_refl _) (Nat.zero_le _) rfl
     go_wp2_with (at_builtin;refine wpList_append_lies _ rfl _ _ 25 rfl w1.heap.size 5 i0 (I .u8 0) 1 1 Tryd.underlying25 hi hz0 hz1 hz2 rfl (by decide) _ 0 [] rfl o00 ⟨b,off,none⟩ n _ (zs.map (Value.int .u8)) rfl HL1.out (SRC.out _ ((HB.out.trans (B1.out.mono hws)).alloc (by omega) _)) (ints_oneCell _ _) (by omega) ?c3 ?c4 (by simp) _ rfl ?_)
     case c3=>unfold maxLen;omega
     case c4=>omega
     intro gb cb w2 o2 hg2 hx2 hlt2
     have b2:Below w1.heap.size w1 w2:=((Below.refl _ _).alloc (Nat.le_refl _) _).grown hg2 (by simp) (fun z h=>by cases h;exact Nat.le_refl _)
     have hgb:=o2.lt gb rfl
     have hs2:=b2.size
     have OA:w2.ownsRow wo.heap.size 5 1 (Sz (some ⟨ga,0,none⟩) n ca) n ((fillB zs n 128).map (Value.int .u8)):=by
       rw[← HL.out,fillB_self];rw[HL.out];exact own_later O1.out b2
     have OB:w2.ownsRow wo.heap.size 5 1 (Sz (some ⟨gb,0,none⟩) n cb) n ((fillB zs n 191).map (Value.int .u8)):=by
       rw[← HL.out,fillB_self];rw[HL.out]
       have o3:w2.ownsRow w1.heap.size 5 1 (Sz (some ⟨gb,0,none⟩) n cb) n (zs.map (Value.int .u8)):=by simpa using o2
       exact own_lowB o3 hs1
     have BT:Below wo.heap.size wo w2:=B1.out.trans (b2.mono hs1)
     have hne:ga≠gb:=by omega
     have HS:Hid (w2.ownsRow wo.heap.size 5 1 (Sz (some ⟨ga,0,none⟩) n ca) n ((fillB zs n 128).map (Value.int .u8))∧w2.ownsRow wo.heap.size 5 1 (Sz (some ⟨gb,0,none⟩) n cb) n ((fillB zs n 191).map (Value.int .u8))∧Below wo.heap.size wo w2∧ga≠gb):=⟨OA,OB,BT,hne⟩
     clear o00 o2 hg2 hx2 b2 OA OB BT hne O1 B1 hga hgb hlt1 hlt2 hs1 hs2
     go_wp2
     go_loopw [4,5] (fun x y wr=>∃ (j g1 c1 g2 c2:Nat),n≤j∧j≤k∧x=Sz (some ⟨g1,0,none⟩) j c1∧y=Sz (some ⟨g2,0,none⟩) j c2∧wr.ownsRow wo.heap.size 5 1 (Sz (some ⟨g1,0,none⟩) j c1) j ((fillB zs j 128).map (Value.int .u8))∧wr.ownsRow wo.heap.size 5 1 (Sz (some ⟨g2,0,none⟩) j c2) j ((fillB zs j 191).map (Value.int .u8))∧g1≠g2∧Below wo.heap.size wo wr) (fun x _ _=>5 - slen x)
     case atStart=>exact⟨n,ga,ca,gb,cb,Nat.le_refl _,by omega,rfl,rfl,HS.out.1,HS.out.2.1,HS.out.2.2.2,HS.out.2.2.1⟩
     case round =>
       obtain⟨j,g1,c1,g2,c2,hj1,hj2,rfl,rfl,oa,ob,hne,hbq⟩:=hrel
       have hfl1:(fillB zs j 128).length=j:=fillB_len _ (by rw[HL.out];exact hj1)
       have hfl2:(fillB zs j 191).length=j:=fillB_len _ (by rw[HL.out];exact hj1)
       have hga:=oa.lt g1 rfl
       have hgb:=ob.lt g2 rfl
       have hsq:=hbq.size
       have HQ:Hid (wr.ownsRow wo.heap.size 5 1 (Sz (some ⟨g1,0,none⟩) j c1) j ((fillB zs j 128).map (Value.int .u8))∧wr.ownsRow wo.heap.size 5 1 (Sz (some ⟨g2,0,none⟩) j c2) j ((fillB zs j 191).map (Value.int .u8))∧Below wo.heap.size wo wr):=⟨oa,ob,hbq⟩
       clear oa ob hbq
       by_cases hlt2:j < k
       · have oa1:=HQ.out.1.alloc (.cells #[I .u8 128] 5)
         have ob1:=HQ.out.2.1.alloc (.cells #[I .u8 128] 5)
         go_wp2_with (at_builtin;refine wpList_append_lies _ rfl _ _ 25 rfl wo.heap.size 5 i0 (I .u8 0) 1 1 Tryd.underlying25 hi hz0 hz1 hz2 rfl (by decide) _ j _ rfl oa1 ⟨wr.heap.size,0,none⟩ 1 _ [I .u8 128] rfl rfl (World.news_of_block (heap_alloc_new wr _)) (by simp;rfl) (by decide) ?c3 ?c4 (by simp;omega) _ rfl ?_)
         case c3=>unfold maxLen;omega
         case c4=>omega
         intro ga ca w1 o1 hg1 hx1 hlt1
         have b1:Below wo.heap.size wo w1:=(HQ.out.2.2.alloc hsq _).grown hg1 (by simp;omega) (fun z h=>by cases h;exact hga.1)
         have hax:g1=ga∨ga=wr.heap.size+1:=by simpa [Value.ownBlock] using hx1
         have hs1:wr.heap.size+1≤w1.heap.size:=by have:=hg1.size;simpa using this
         have ob2:w1.ownsRow wo.heap.size 5 1 (Sz (some ⟨g2,0,none⟩) j c2) j ((fillB zs j 191).map (Value.int .u8)):=ob1.kept hg1 (.inr (by simp[Value.ownBlock];exact fun e=>hne e.symm))
         have e1:(fillB zs j 128).map (Value.int .u8)++[I .u8 128]=(fillB zs (j+1) 128).map (Value.int .u8):=by rw[fillB_succ _ (by rw[HL.out];exact hj1)];simp
         rw[e1] at o1
         have hg1':=o1.lt ga rfl
         have H1:Hid (w1.ownsRow wo.heap.size 5 1 (Sz (some ⟨ga,0,none⟩) (j+1) ca) (j+1) ((fillB zs (j+1) 128).map (Value.int .u8))∧w1.ownsRow wo.heap.size 5 1 (Sz (some ⟨g2,0,none⟩) j c2) j ((fillB zs j 191).map (Value.int .u8))∧Below wo.heap.size wo w1):=⟨o1,ob2,b1⟩
         have oa3:=o1.alloc (.cells #[I .u8 191] 5)
         have ob3:=ob2.alloc (.cells #[I .u8 191] 5)
         have hne1:ga≠g2:=by omega
         clear oa1 ob1 o1 hg1 hx1 b1 ob2 e1 hax
         go_wp2_with (at_builtin;refine wpList_append_lies _ rfl _ _ 25 rfl wo.heap.size 5 i0 (I .u8 0) 1 1 Tryd.underlying25 hi hz0 hz1 hz2 rfl (by decide) _ j _ rfl ob3 ⟨w1.heap.size,0,none⟩ 1 _ [I .u8 191] rfl rfl (World.news_of_block (heap_alloc_new w1 _)) (by simp;rfl) (by decide) ?c3 ?c4 (by simp;omega) _ rfl ?_)
         case c3=>unfold maxLen;omega
         case c4=>omega
         intro gb cb w2 o2 hg2 hx2 hlt3
         have b2:Below wo.heap.size wo w2:=(H1.out.2.2.alloc (by omega) _).grown hg2 (by simp;omega) (fun z h=>by cases h;exact hgb.1)
         have hbx:g2=gb∨gb=w1.heap.size+1:=by simpa [Value.ownBlock] using hx2
         have oa4:w2.ownsRow wo.heap.size 5 1 (Sz (some ⟨ga,0,none⟩) (j+1) ca) (j+1) ((fillB zs (j+1) 128).map (Value.int .u8)):=oa3.kept hg2 (.inr (by simp[Value.ownBlock];exact hne1))
         have e2:(fillB zs j 191).map (Value.int .u8)++[I .u8 191]=(fillB zs (j+1) 191).map (Value.int .u8):=by rw[fillB_succ _ (by rw[HL.out];exact hj1)];simp
         rw[e2] at o2
         have HF:Hid (w2.ownsRow wo.heap.size 5 1 (Sz (some ⟨ga,0,none⟩) (j+1) ca) (j+1) ((fillB zs (j+1) 128).map (Value.int .u8))∧w2.ownsRow wo.heap.size 5 1 (Sz (some ⟨gb,0,none⟩) (j+1) cb) (j+1) ((fillB zs (j+1) 191).map (Value.int .u8))∧ga≠gb∧Below wo.heap.size wo w2):=⟨oa4,o2,by omega,b2⟩
         clear oa3 ob3 o2 hg2 hx2 b2 oa4 e2 hbx hg1'
         go_wp2
         go_roundw
         case rel=>exact⟨j+1,ga,ca,gb,cb,by omega,by omega,rfl,rfl,HF.out.1,HF.out.2.1,HF.out.2.2.1,HF.out.2.2.2⟩
         case measure=>simp[slen];omega
       · obtain rfl:j=k:=by omega
         have cpa:=own_capB HQ.out.1
         have cpb:=own_capB HQ.out.2.1
         obtain⟨x1,hx1⟩:∃ x:Int,x=(rra (fillB zs j 128) 0).1:=⟨_,rfl⟩
         obtain⟨p1,hp1⟩:∃ x:Int,x=(rra (fillB zs j 128) 0).2:=⟨_,rfl⟩
         obtain⟨x2,hx2⟩:∃ x:Int,x=(rra (fillB zs j 191) 0).1:=⟨_,rfl⟩
         obtain⟨p2,hp2⟩:∃ x:Int,x=(rra (fillB zs j 191) 0).2:=⟨_,rfl⟩
         have f1:p1=(j:Int)↔hit (fillB zs j 128) 0 j:=by rw[hp1];exact rra_size (fillB_bytes j (by omega) (fun i=>HZ.out i)) hfl1 (by omega) hlt4
         have f2:p2=(j:Int)↔hit (fillB zs j 191) 0 j:=by rw[hp2];exact rra_size (fillB_bytes j (by omega) (fun i=>HZ.out i)) hfl2 (by omega) hlt4
         have HSZ:Hid (sizeP zs j↔(p1=(j:Int)∨p2=(j:Int))):=by show _↔_;rw[f1,f2];exact Iff.rfl
         have qa:Hid (∀ w',Below wr.heap.size wr w'→Calls Tryd.prog 70 #[Sz (some ⟨g1,0,none⟩) j c1,I O 0] w' fun e w''=>e=.returned (.tuple #[I O x1,I O p1])∧Below w'.heap.size w' w''):=fun w' hb=>by
           rw[hx1,hp1];exact specRrd_any _ j c1 (fillB zs j 128) 0 w' hfl1 ((rd_own hfl1 (bt_fill HZ.out j (by omega)) HQ.out.1).later hb) (by omega) cpa.1 cpa.2
         have qb:Hid (∀ w',Below wr.heap.size wr w'→Calls Tryd.prog 70 #[Sz (some ⟨g2,0,none⟩) j c2,I O 0] w' fun e w''=>e=.returned (.tuple #[I O x2,I O p2])∧Below w'.heap.size w' w''):=fun w' hb=>by
           rw[hx2,hp2];exact specRrd_any _ j c2 (fillB zs j 191) 0 w' hfl2 ((rd_own hfl2 (bt_fill HZ.out j (by omega)) HQ.out.2.1).later hb) (by omega) cpb.1 cpb.2
         clear hx1 hp1 hx2 hp2 f1 f2 cpa cpb hfl1 hfl2
         go_wp2_with fail
         refine(qa.out _ (Below.refl _ _)).mono ?_
         rintro e w1 ⟨rfl,hb1⟩
         have B1:Hid (Below wr.heap.size wr w1):=hb1
         clear hb1
         go_wp2_with fail
         refine(qb.out _ B1.out).mono ?_
         rintro e w2 ⟨rfl,hb2⟩
         have B2:Hid (Below w.heap.size w w2):=HB.out.trans ((HQ.out.2.2.trans ((B1.out.trans (hb2.mono B1.out.size)).mono hsq)).mono hws)
         clear hb2 B1
         by_cases h1:p1=(j:Int)
         · have hr:Hid (rbgB zs=true):=HI.out.2 ⟨by rw[HL.out];exact hn1,by rw[HL.out];exact hn3,j,by rw[HL.out];exact hk1,hlt4,HSZ.out.2 (.inl h1)⟩
           subst h1
           go_wp2
           go_ret
           exact⟨by rw[hr.out];rfl,B2.out⟩
         · have d1:(p1==(j:Int))=false:=by simpa using h1
           by_cases h2:p2=(j:Int)
           · have hr:Hid (rbgB zs=true):=HI.out.2 ⟨by rw[HL.out];exact hn1,by rw[HL.out];exact hn3,j,by rw[HL.out];exact hk1,hlt4,HSZ.out.2 (.inr h2)⟩
             subst h2
             clear h1
             go_wp2
             go_ret
             exact⟨by rw[hr.out];rfl,B2.out⟩
           · have d2:(p2==(j:Int))=false:=by simpa using h2
             have HN:Hid (¬ sizeP zs j):=fun h=>(HSZ.out.1 h).elim h1 h2
             clear h1 h2
             go_wp2
             go_roundw
             case rel=>exact⟨j+1,by go_num,by omega,by omega,fun s hs1 hs2=>by
               by_cases e:s=j
               · subst e;exact HN.out
               · exact HNO.out s hs1 (by omega),B2.out⟩
             case measure=>simp[intOf];omega
   · have hr:rbgB zs=false:=by
       cases h:rbgB zs with
       | false=>rfl
       | true =>
         obtain⟨_,_,s,h1,h2,h3⟩:=HI.out.1 h
         exact absurd h3 (HNO.out s (by rw[← HL.out];exact h1) (by omega))
     have HR:Hid (rbgB zs=false):=hr
     clear hr
     go_wp2
     go_ret
     exact⟨by rw[HR.out];rfl,HB.out⟩
set_option maxRecDepth 100000 in
theorem specRbg_any (a:Option Addr) (n cap:Nat) (zs:List Int) (w:World) (hl:zs.length=n) (hr:Rd w a zs) (hn:n≤2097152) (hcap:n≤cap) (hcm:cap≤maxLen) :
   Calls Tryd.prog 53 #[Sz a n cap] w fun e w'=>e=.returned (.bool (rbgB zs))∧Below w.heap.size w w':=by
 have HI:=rbg_iff zs (fun i=>hr.1 i)
 by_cases h1:n < 1
 · have hf:Hid (rbgB zs=false):=by
     show _=_
     cases h:rbgB zs with
     | false=>rfl
     | true=>have:=HI.1 h;omega
   clear HI hr
   go_enter Tryd.func53,Tryd.ntmps53
   go_wp2
   go_ret
   exact⟨by rw[hf.out];rfl,Below.refl _ _⟩
 · by_cases h3:3 < n
   · have hf:Hid (rbgB zs=false):=by
       show _=_
       cases h:rbgB zs with
       | false=>rfl
       | true=>have:=HI.1 h;omega
     clear HI hr
     go_enter Tryd.func53,Tryd.ntmps53
     go_wp2
     go_ret
     exact⟨by rw[hf.out];rfl,Below.refl _ _⟩
   · have hne:zs≠[]:=by intro h';subst h';simp at hl;omega
     obtain⟨b,off,rfl,hb,hc⟩:=hr.2.resolve_left hne
     exact specRbg_mid b off n cap zs w hl hr.1 hb hc (by omega) (by omega) hcap hcm
end Go.Proofs.YthodinpflcbklaaDoor
namespace Go.Proofs.YthodinpflcbklaaDoor
open Go.RowKit
theorem beg_need{zs:List Int}(h:rbgB zs=true):0 < zs.length∧(zs.length:Int) < needI (bt zs 0):=by
 unfold rbgB at h
 simp only[Bool.and_eq_true,decide_eq_true_eq,Bool.not_eq_true'] at h
 refine⟨h.1,?_⟩
 have h2:=h.2
 unfold frB at h2
 simp at h2
 omega
theorem beg_hit{zs:List Int}{k:Nat}(hb:∀ i,0≤bt zs i∧bt zs i≤255)(h1:1≤k)(h4:k≤4)(hl:k≤zs.length)(hh:hit zs 0 k):rbgB zs=false:=by
 cases hr:rbgB zs with
 | false=>rfl
 | true =>
   exfalso
   obtain⟨_,hn⟩:=beg_need hr
   have hc:=need_cases (hb 0)
   have hk:k=1∨k=2∨k=3∨k=4:=by omega
   rcases hk with rfl | rfl | rfl | rfl
   · rw[hit1 zs 0 hb (by omega)] at hh;omega
   · rw[hit2 zs 0 hb (by omega)] at hh;omega
   · rw[hit3 zs 0 hb (by omega)] at hh;omega
   · rw[hit4 zs 0 hb (by omega)] at hh;omega
theorem hit_cut{pl:List Int}{b:Int}{k:Nat}(h:k≤pl.length)(hh:hit (pl++[b]) 0 k)(hb:∀ i,0≤bt pl i∧bt pl i≤255)(hb2:∀ i,0≤bt (pl++[b]) i∧bt (pl++[b]) i≤255)(h1:1≤k)(h4:k≤4):hit pl 0 k:=by
 have e:∀ i,i < pl.length→bt (pl++[b]) i=bt pl i:=fun i hi=>by unfold bt;rw[List.getElem?_append_left hi]
 have hk:k=1∨k=2∨k=3∨k=4:=by omega
 have hL:(pl++[b]).length=pl.length+1:=by simp
 rcases hk with rfl | rfl | rfl | rfl
 · rw[hit1 _ 0 hb2 (by omega),e 0 (by omega)] at hh
   rw[hit1 pl 0 hb (by omega)];exact hh
 · rw[hit2 _ 0 hb2 (by omega),e 0 (by omega),e (0+1) (by omega)] at hh
   rw[hit2 pl 0 hb (by omega)];exact hh
 · rw[hit3 _ 0 hb2 (by omega),e 0 (by omega),e (0+1) (by omega),e (0+2) (by omega)] at hh
   rw[hit3 pl 0 hb (by omega)];exact hh
 · rw[hit4 _ 0 hb2 (by omega),e 0 (by omega),e (0+1) (by omega),e (0+2) (by omega),e (0+3) (by omega)] at hh
   rw[hit4 pl 0 hb (by omega)];exact hh
theorem app_bt{pl:List Int}{b:Int}(hb:∀ i,0≤bt pl i∧bt pl i≤255)(h:0≤b∧b≤255):∀ i,0≤bt (pl++[b]) i∧bt (pl++[b]) i≤255:=
 fun i=>bt_byte (fun x hx=>by
   rcases List.mem_append.1 hx with h1 | h1
   · exact byte_bt hb x h1
   · rw[List.mem_singleton.1 h1];exact h) i
theorem full_gaP{pl:List Int}{b:Int}(hb:∀ i,0≤bt pl i∧bt pl i≤255)(h:0≤b∧b≤255)(h3:pl.length≤3)(he:(rra (pl++[b]) 0).2=(pl.length:Int)+1):gaP pl b=[]∧∀ d,gaD d pl b=putN d (rra (pl++[b]) 0).1:=by
 have hL:(pl++[b]).length=pl.length+1:=by simp
 have hh:=(rra_size (app_bt hb h) hL (by omega) (by omega)).1 (by rw[he];omega)
 have hr:=beg_hit (app_bt hb h) (by omega) (by omega) (by omega) hh
 refine⟨by unfold gaP;rw[hr];rfl,fun d=>?_⟩
 unfold gaD
 rw[if_pos (by omega)]
theorem part_gaD{pl:List Int}{b:Int}(hb:∀ i,0≤bt pl i∧bt pl i≤255)(h:0≤b∧b≤255)(h3:pl.length≤3)(hp:pl=[]∨rbgB pl=true)(he:(rra (pl++[b]) 0).2≠(pl.length:Int)+1)(d:GrD):gaD d pl b=d:=by
 have hL:(pl++[b]).length=pl.length+1:=by simp
 have hb2:=app_bt hb h
 unfold gaD
 refine if_neg fun h0=>?_
 have e:rra (pl++[b]) 0=rrd (pl++[b]) 0:=by unfold rra;rw[if_neg (by omega)];rfl
 rw[e] at he h0
 by_cases hn:∃ j,1≤j∧j≤4∧0+j≤(pl++[b]).length∧hit (pl++[b]) 0 j
 · obtain⟨j,j1,j4,jl,hj⟩:=hn
   rw[rrd_hit _ 0 j hb2 j1 j4 jl hj] at he
   have he:(j:Int)≠(pl.length:Int)+1:=he
   have hj2:j≤pl.length:=by omega
   have hh:=hit_cut hj2 hj hb hb2 j1 j4
   have hf:=beg_hit hb j1 j4 hj2 hh
   rcases hp with rfl | hp
   · simp at hj2;omega
   · rw[hp] at hf;exact absurd hf (by decide)
 · rw[rrd_none _ 0 hb2 (by omega) (fun j j1 j4 jl hj=>hn ⟨j,j1,j4,jl,hj⟩)] at h0
   simp at h0
end Go.Proofs.YthodinpflcbklaaDoor
