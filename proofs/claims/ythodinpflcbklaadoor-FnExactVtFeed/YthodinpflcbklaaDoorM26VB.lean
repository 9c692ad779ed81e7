/-
  Parts of the road to VB, joined: SvP1.
-/
import Derived.Test.YthodinpflcbklaaDoorM25VB
import Derived.Test.YthodinpflcbklaaDoorM21VB
open Go.Value renaming int → I,slice → Sz
open Go.IntKind renaming i64 → O
open List renaming setIfInBounds_toArray → lA,getElem_toArray → lB,getElem_cons_succ → lC,getElem_cons_zero → lD,set_cons_zero → lE,set_cons_succ → lF
set_option linter.unusedVariables false
set_option linter.unusedSimpArgs false
set_option maxHeartbeats 40000000
namespace Go.Proofs.YthodinpflcbklaaDoor
open Go.RowKit
set_option maxRecDepth 100000
theorem wd_no{b:Int}(h:b < 32∨b=127):wd b=0:=by
 rcases h with h | rfl
 · by_cases h0:wd b=0
   · exact h0
   · have:=(wd_rune h0).1;omega
 · decide +kernel
theorem nil_readB(w:World):Reads (.sl .u8) w [Sz none 0 0] []:=⟨none,0,rfl,Nat.le_refl _,Nat.zero_le _,.inl rfl⟩
theorem spl_esc(W H X Y st be:Int)(wrp:Bool)(a a7 a8:Option Addr)(n c n7 c7 n8 c8:Nat)(zs al pl:List Int)(w:World)(hg:gokB (W,H,zs,X,Y,wrp,())=true)(h2:Reads (.sl .int) w [Sz a n c] zs)(h7:Reads (.sl .int) w [Sz a7 n7 c7] al)(h8:Reads (.sl .u8) w [Sz a8 n8 c8] pl)(hpl:pl.length≤3)(hbe:0≤be∧be≤1000000):
   Calls Tryd.prog 54 #[.agg #[I O W,I O H,Sz a n c,I O X,I O Y,.bool wrp,I O st,Sz a7 n7 c7,Sz a8 n8 c8,I O be],I O 27] w fun e w'=>∃ o,e=.returned (.agg o.toArray)∧RK w w' o (plainT (((W,H,zs,X,Y,wrp,()),st,al,pl,be,()):TD) 27) (Sz a n c) (Sz a7 n7 c7) (Sz a8 n8 c8) zs al pl∧Below w.heap.size w w':=by
 obtain⟨i1,ji,jz0,jz1,jz2⟩:=info_parts Tryd.infoB
 obtain⟨W2,hW2,bW2,zW2,hA2,hZ2,hG2,HBX⟩:=mpro2 W H X Y st be wrp a a7 a8 n c n7 c7 n8 c8 w
 have HB2:Hid (Below w.heap.size w W2∧W2.heap.size=w.heap.size+3):=⟨bW2,zW2⟩
 have HW:Hid (W2=_):=hW2
 have HR:Hid (Reads (.sl .int) w [Sz a n c] zs∧Reads (.sl .int) w [Sz a7 n7 c7] al):=⟨h2,h7⟩
 obtain⟨hl8,hr8,_,_⟩:=reads_bytes h8
 have HBY:Hid (∀ i,0≤bt pl i∧bt pl i≤255):=fun i=>hr8.1 i
 have HL:Hid (pl.length=n8):=hl8
 have HSR:Hid (SrcZ w (Sz a8 n8 c8) n8 (pl.map (Value.int .u8))):=srcZ_rd hr8 hl8
 obtain⟨WE,hWE⟩:∃ U,U=W2.alloc (.cells #[] 5):=⟨_,rfl⟩
 have bE:Below W2.heap.size W2 WE:=by rw[hWE];exact(Below.refl _ _).alloc (Nat.le_refl _) _
 have oE:WE.ownsRow W2.heap.size 5 1 (Sz (some ⟨w.heap.size+1+1+1,0,none⟩) 0 0) 0 []:=by
   have h9:=World.ownsRow_lit (base:=W2.heap.size) (e:=5) (size:=1) W2 #[] 0 (Nat.le_refl _) (Nat.zero_le _) rfl
   rw[zW2] at h9
   rw[hWE,zW2]
   exact h9
 have hn83:n8≤3:=by omega
 have HE0:Hid (Below W2.heap.size W2 WE∧WE.ownsRow W2.heap.size 5 1 (Sz (some ⟨w.heap.size+1+1+1,0,none⟩) 0 0) 0 []):=⟨bE,oE⟩
 have HWE:Hid (WE=_):=hWE
 have HE:Hid (plainT (((W,H,zs,X,Y,wrp,()),st,al,pl,be,()):TD) 27=((W,H,zs,X,Y,wrp,()),(1:Int),al,[],be,())):=by
   rfl
 clear hg h2 h7 h8 hpl hl8 hr8 hW2 bW2 zW2 hA2 hZ2 hG2 hWE bE oE 
 have y0:WE.cell? ⟨w.heap.size,0,none⟩=some (I O W):=bxc (HBX.out _ HE0.out.1).1 rfl
 have y1:WE.cell? ⟨w.heap.size,1,none⟩=some (I O H):=bxc (HBX.out _ HE0.out.1).1 rfl
 have y2:WE.cell? ⟨w.heap.size,2,none⟩=some (Sz a n c):=bxc (HBX.out _ HE0.out.1).1 rfl
 have y3:WE.cell? ⟨w.heap.size,3,none⟩=some (I O X):=bxc (HBX.out _ HE0.out.1).1 rfl
 have y4:WE.cell? ⟨w.heap.size,4,none⟩=some (I O Y):=bxc (HBX.out _ HE0.out.1).1 rfl
 have y5:WE.cell? ⟨w.heap.size,5,none⟩=some (.bool wrp):=bxc (HBX.out _ HE0.out.1).1 rfl
 have y6:WE.cell? ⟨w.heap.size,6,none⟩=some (I O st):=bxc (HBX.out _ HE0.out.1).1 rfl
 have y7:WE.cell? ⟨w.heap.size,7,none⟩=some (Sz a7 n7 c7):=bxc (HBX.out _ HE0.out.1).1 rfl
 have y8:WE.cell? ⟨w.heap.size,8,none⟩=some (Sz a8 n8 c8):=bxc (HBX.out _ HE0.out.1).1 rfl
 have y9:WE.cell? ⟨w.heap.size,9,none⟩=some (I O be):=bxc (HBX.out _ HE0.out.1).1 rfl
 have hsE:=srcZ_later HSR.out (HB2.out.1.trans (HE0.out.1.mono HB2.out.1.size))
 have oE:=HE0.out.2
 go_enter Tryd.func54,Tryd.ntmps54
 go_wp2_with (at_builtin;rw[← HW.out,← HWE.out];refine wpList_append_srcZ rfl _ _ 25 rfl W2.heap.size 5 i1 (I .u8 0) 1 1 Tryd.underlying25 ji jz0 jz1 jz2 rfl (by decide) _ 0 [] rfl oE (Sz a8 n8 c8) n8 (pl.map (Value.int .u8)) rfl ?c0 hsE ?c1 ?c3 ?c4 HE0.out.1.size ?_)
 case c0=>(rw[List.length_map,HL.out]) <;> omega
 case c1=>intro u hu;simp at hu;obtain⟨x,_,rfl⟩:=hu;rfl
 case c3=>unfold maxLen;omega
 case c4=>omega
 intro v7 wA oA gA
 (try rw[Nat.zero_add] at oA)
 (try rw[List.nil_append] at oA)
 obtain⟨aA,cA,hvA⟩:=own_formV oA
 subst hvA
 have kA:Below W2.heap.size W2 wA:=HE0.out.1.grown gA HE0.out.1.size (fun k e=>(oE.lt k e).1)
 clear oE gA hsE y0 y1 y2 y3 y4 y5 y6 y7 y8 y9
 have bl2:Below wA.heap.size wA (wA.alloc (.cells #[I .u8 (27)] 5)):=(Below.refl _ _).alloc (Nat.le_refl _) _
 have oA2:=own_later oA bl2
 have sB:SrcZ (wA.alloc (.cells #[I .u8 (27)] 5)) (Sz (some ⟨wA.heap.size,0,none⟩) 1 1) 1 [I .u8 (27)]:=srcZ_lit (cs:=[I .u8 (27)]) (heap_alloc_new wA _)
 have kA2:Below W2.heap.size W2 (wA.alloc (.cells #[I .u8 (27)] 5)):=kA.trans (bl2.mono kA.size)
 have y0:wA.cell? ⟨w.heap.size,0,none⟩=some (I O W):=bxc (HBX.out _ kA).1 rfl
 have y1:wA.cell? ⟨w.heap.size,1,none⟩=some (I O H):=bxc (HBX.out _ kA).1 rfl
 have y2:wA.cell? ⟨w.heap.size,2,none⟩=some (Sz a n c):=bxc (HBX.out _ kA).1 rfl
 have y3:wA.cell? ⟨w.heap.size,3,none⟩=some (I O X):=bxc (HBX.out _ kA).1 rfl
 have y4:wA.cell? ⟨w.heap.size,4,none⟩=some (I O Y):=bxc (HBX.out _ kA).1 rfl
 have y5:wA.cell? ⟨w.heap.size,5,none⟩=some (.bool wrp):=bxc (HBX.out _ kA).1 rfl
 have y6:wA.cell? ⟨w.heap.size,6,none⟩=some (I O st):=bxc (HBX.out _ kA).1 rfl
 have y7:wA.cell? ⟨w.heap.size,7,none⟩=some (Sz a7 n7 c7):=bxc (HBX.out _ kA).1 rfl
 have y8:wA.cell? ⟨w.heap.size,8,none⟩=some (Sz a8 n8 c8):=bxc (HBX.out _ kA).1 rfl
 have y9:wA.cell? ⟨w.heap.size,9,none⟩=some (I O be):=bxc (HBX.out _ kA).1 rfl
 go_wp2_with (at_builtin;refine wpList_append_srcZ rfl _ _ 25 rfl W2.heap.size 5 i1 (I .u8 0) 1 1 Tryd.underlying25 ji jz0 jz1 jz2 rfl (by decide) _ n8 (pl.map (Value.int .u8)) rfl oA2 (Sz (some ⟨wA.heap.size,0,none⟩) 1 1) 1 [I .u8 (27)] rfl rfl sB (by intro u hu;simp at hu;subst hu;rfl) (by unfold maxLen;omega) (by omega) kA2.size ?_)
 intro v8 wB oB gB
 obtain⟨gC,cB,hvB,_,_⟩:=own_form oB (by omega)
 subst hvB
 have kB:Below W2.heap.size W2 wB:=kA2.grown gB kA2.size (fun k e=>(oA2.lt k e).1)
 have oS:wB.ownsRow W2.heap.size 5 1 (Sz (some ⟨gC,0,none⟩) (n8+1) cB) (n8+1) ((pl++[27]).map (Value.int .u8)):=by rw[List.map_append];exact oB
 clear oA oA2 sB bl2 kA kA2 gB oB y0 y1 y2 y3 y4 y5 y6 y7 y8 y9
 have bB:=HB2.out.1.trans (kB.mono HB2.out.1.size)
 have i4:=HBX.out _ kB
 have hVr:((wB.setCell ⟨w.heap.size,8,none⟩ (Sz none 0 0)).setCell ⟨w.heap.size,6,none⟩ (I O 1)).heap[w.heap.size+1]?=some (.cells #[I O 0,I O 0,Sz none 0 0,I O 0,I O 0,.bool false,I O 0,Sz none 0 0,Sz none 0 0,I O 0] 31 (0,0)):=by rw[box_other _ (by omega)];rw[box_other _ (by omega)];exact i4.2.1
 have HLD:(loadVar 31 ⟨w.heap.size+1,0,none⟩).run Tryd.prog (((wB.setCell ⟨w.heap.size,8,none⟩ (Sz none 0 0)).setCell ⟨w.heap.size,6,none⟩ (I O 1)).setRow (w.heap.size+1) #[I O W,I O H,Sz a n c,I O X,I O Y,.bool wrp,I O 1,Sz a7 n7 c7,Sz none 0 0,I O be])=.ok (.agg #[I O W,I O H,Sz a n c,I O X,I O Y,.bool wrp,I O 1,Sz a7 n7 c7,Sz none 0 0,I O be]) (((wB.setCell ⟨w.heap.size,8,none⟩ (Sz none 0 0)).setCell ⟨w.heap.size,6,none⟩ (I O 1)).setRow (w.heap.size+1) #[I O W,I O H,Sz a n c,I O X,I O Y,.bool wrp,I O 1,Sz a7 n7 c7,Sz none 0 0,I O be]):=run_loadVar_row _ _ _ _ _ _ _ (setRow_heap _ _ _ _ _ _ hVr) Tryd.underlying31 rfl (by kernel_rfl)
 have HF:Hid (Below w.heap.size w (((wB.setCell ⟨w.heap.size,8,none⟩ (Sz none 0 0)).setCell ⟨w.heap.size,6,none⟩ (I O 1)).setRow (w.heap.size+1) #[I O W,I O H,Sz a n c,I O X,I O Y,.bool wrp,I O 1,Sz a7 n7 c7,Sz none 0 0,I O be])):=below_setRow (Below.setCell (p:=⟨w.heap.size,6,none⟩) (Below.setCell (p:=⟨w.heap.size,8,none⟩) bB (Nat.le_refl _) _) (Nat.le_refl _) _) (Nat.le_add_right _ 1) _
 have q0:wB.cell? ⟨w.heap.size,0,none⟩=some (I O W):=bxc i4.1 rfl
 have q1:wB.cell? ⟨w.heap.size,1,none⟩=some (I O H):=bxc i4.1 rfl
 have q2:wB.cell? ⟨w.heap.size,2,none⟩=some (Sz a n c):=bxc i4.1 rfl
 have q3:wB.cell? ⟨w.heap.size,3,none⟩=some (I O X):=bxc i4.1 rfl
 have q4:wB.cell? ⟨w.heap.size,4,none⟩=some (I O Y):=bxc i4.1 rfl
 have q5:wB.cell? ⟨w.heap.size,5,none⟩=some (.bool wrp):=bxc i4.1 rfl
 have q6:wB.cell? ⟨w.heap.size,6,none⟩=some (I O st):=bxc i4.1 rfl
 have q7:wB.cell? ⟨w.heap.size,7,none⟩=some (Sz a7 n7 c7):=bxc i4.1 rfl
 have q8:wB.cell? ⟨w.heap.size,8,none⟩=some (Sz a8 n8 c8):=bxc i4.1 rfl
 have q9:wB.cell? ⟨w.heap.size,9,none⟩=some (I O be):=bxc i4.1 rfl
 have f6:wB.frozen? ⟨w.heap.size,6,none⟩=false:=box_frozen i4.1
 have f8:wB.frozen? ⟨w.heap.size,8,none⟩=false:=box_frozen i4.1
 clear i4 bB kB oS
 go_wp2_with (refine wpList_store_row rfl _ _ _ rfl _ _ rfl rfl _ _ hVr (by kernel_rfl) rfl (by simp[Value.oneCell']) ?_)
 (try simp only[Exit.inBlock,Exit.then])
 refine bodyPost_ret (by simp[results,Tryd.results54,asAddr,Act.put,HLD];try rfl) rfl ?_
 refine⟨[I O W,I O H,Sz a n c,I O X,I O Y,.bool wrp,I O 1,Sz a7 n7 c7,Sz none 0 0,I O be],rfl,?_,HF.out⟩
 rw[HE.out]
 intro w'' hk r2 r7 r8
 exact reads_Vt (d:=(((W,H,zs,X,Y,wrp,()),(1:Int),al,[],be,()):TD)) r2 r7 (nil_readB _)
theorem spl_bell(W H X Y st be:Int)(wrp:Bool)(a a7 a8:Option Addr)(n c n7 c7 n8 c8:Nat)(zs al pl:List Int)(w:World)(hg:gokB (W,H,zs,X,Y,wrp,())=true)(h2:Reads (.sl .int) w [Sz a n c] zs)(h7:Reads (.sl .int) w [Sz a7 n7 c7] al)(h8:Reads (.sl .u8) w [Sz a8 n8 c8] pl)(hpl:pl.length≤3)(hbe:0≤be∧be≤1000000)(hm:be < 1000000):
   Calls Tryd.prog 54 #[.agg #[I O W,I O H,Sz a n c,I O X,I O Y,.bool wrp,I O st,Sz a7 n7 c7,Sz a8 n8 c8,I O be],I O 7] w fun e w'=>∃ o,e=.returned (.agg o.toArray)∧RK w w' o (plainT (((W,H,zs,X,Y,wrp,()),st,al,pl,be,()):TD) 7) (Sz a n c) (Sz a7 n7 c7) (Sz a8 n8 c8) zs al pl∧Below w.heap.size w w':=by
 obtain⟨i1,ji,jz0,jz1,jz2⟩:=info_parts Tryd.infoB
 obtain⟨W2,hW2,bW2,zW2,hA2,hZ2,hG2,HBX⟩:=mpro2 W H X Y st be wrp a a7 a8 n c n7 c7 n8 c8 w
 have HB2:Hid (Below w.heap.size w W2∧W2.heap.size=w.heap.size+3):=⟨bW2,zW2⟩
 have HW:Hid (W2=_):=hW2
 have HR:Hid (Reads (.sl .int) w [Sz a n c] zs∧Reads (.sl .int) w [Sz a7 n7 c7] al):=⟨h2,h7⟩
 obtain⟨hl8,hr8,_,_⟩:=reads_bytes h8
 have HBY:Hid (∀ i,0≤bt pl i∧bt pl i≤255):=fun i=>hr8.1 i
 have HL:Hid (pl.length=n8):=hl8
 have HSR:Hid (SrcZ w (Sz a8 n8 c8) n8 (pl.map (Value.int .u8))):=srcZ_rd hr8 hl8
 obtain⟨WE,hWE⟩:∃ U,U=W2.alloc (.cells #[] 5):=⟨_,rfl⟩
 have bE:Below W2.heap.size W2 WE:=by rw[hWE];exact(Below.refl _ _).alloc (Nat.le_refl _) _
 have oE:WE.ownsRow W2.heap.size 5 1 (Sz (some ⟨w.heap.size+1+1+1,0,none⟩) 0 0) 0 []:=by
   have h9:=World.ownsRow_lit (base:=W2.heap.size) (e:=5) (size:=1) W2 #[] 0 (Nat.le_refl _) (Nat.zero_le _) rfl
   rw[zW2] at h9
   rw[hWE,zW2]
   exact h9
 have hn83:n8≤3:=by omega
 have HE0:Hid (Below W2.heap.size W2 WE∧WE.ownsRow W2.heap.size 5 1 (Sz (some ⟨w.heap.size+1+1+1,0,none⟩) 0 0) 0 []):=⟨bE,oE⟩
 have HWE:Hid (WE=_):=hWE
 have HE:Hid (plainT (((W,H,zs,X,Y,wrp,()),st,al,pl,be,()):TD) 7=((W,H,zs,X,Y,wrp,()),st,al,[],be+1,())):=by
   show (((W,H,zs,X,Y,wrp,()),st,al,[],ringN be,()):TD)=_
   unfold ringN
   rw[if_pos (by omega)]
 have wq:IntKind.i64.wrap (be+1)=be+1:=wrap_i64_in _ (by omega) (by omega)
 clear hg h2 h7 h8 hpl hl8 hr8 hW2 bW2 zW2 hA2 hZ2 hG2 hWE bE oE 
 have y0:WE.cell? ⟨w.heap.size,0,none⟩=some (I O W):=bxc (HBX.out _ HE0.out.1).1 rfl
 have y1:WE.cell? ⟨w.heap.size,1,none⟩=some (I O H):=bxc (HBX.out _ HE0.out.1).1 rfl
 have y2:WE.cell? ⟨w.heap.size,2,none⟩=some (Sz a n c):=bxc (HBX.out _ HE0.out.1).1 rfl
 have y3:WE.cell? ⟨w.heap.size,3,none⟩=some (I O X):=bxc (HBX.out _ HE0.out.1).1 rfl
 have y4:WE.cell? ⟨w.heap.size,4,none⟩=some (I O Y):=bxc (HBX.out _ HE0.out.1).1 rfl
 have y5:WE.cell? ⟨w.heap.size,5,none⟩=some (.bool wrp):=bxc (HBX.out _ HE0.out.1).1 rfl
 have y6:WE.cell? ⟨w.heap.size,6,none⟩=some (I O st):=bxc (HBX.out _ HE0.out.1).1 rfl
 have y7:WE.cell? ⟨w.heap.size,7,none⟩=some (Sz a7 n7 c7):=bxc (HBX.out _ HE0.out.1).1 rfl
 have y8:WE.cell? ⟨w.heap.size,8,none⟩=some (Sz a8 n8 c8):=bxc (HBX.out _ HE0.out.1).1 rfl
 have y9:WE.cell? ⟨w.heap.size,9,none⟩=some (I O be):=bxc (HBX.out _ HE0.out.1).1 rfl
 have hsE:=srcZ_later HSR.out (HB2.out.1.trans (HE0.out.1.mono HB2.out.1.size))
 have oE:=HE0.out.2
 go_enter Tryd.func54,Tryd.ntmps54
 go_wp2_with (at_builtin;rw[← HW.out,← HWE.out];refine wpList_append_srcZ rfl _ _ 25 rfl W2.heap.size 5 i1 (I .u8 0) 1 1 Tryd.underlying25 ji jz0 jz1 jz2 rfl (by decide) _ 0 [] rfl oE (Sz a8 n8 c8) n8 (pl.map (Value.int .u8)) rfl ?c0 hsE ?c1 ?c3 ?c4 HE0.out.1.size ?_)
 case c0=>(rw[List.length_map,HL.out]) <;> omega
 case c1=>intro u hu;simp at hu;obtain⟨x,_,rfl⟩:=hu;rfl
 case c3=>unfold maxLen;omega
 case c4=>omega
 intro v7 wA oA gA
 (try rw[Nat.zero_add] at oA)
 (try rw[List.nil_append] at oA)
 obtain⟨aA,cA,hvA⟩:=own_formV oA
 subst hvA
 have kA:Below W2.heap.size W2 wA:=HE0.out.1.grown gA HE0.out.1.size (fun k e=>(oE.lt k e).1)
 clear oE gA hsE y0 y1 y2 y3 y4 y5 y6 y7 y8 y9
 have bl2:Below wA.heap.size wA (wA.alloc (.cells #[I .u8 (7)] 5)):=(Below.refl _ _).alloc (Nat.le_refl _) _
 have oA2:=own_later oA bl2
 have sB:SrcZ (wA.alloc (.cells #[I .u8 (7)] 5)) (Sz (some ⟨wA.heap.size,0,none⟩) 1 1) 1 [I .u8 (7)]:=srcZ_lit (cs:=[I .u8 (7)]) (heap_alloc_new wA _)
 have kA2:Below W2.heap.size W2 (wA.alloc (.cells #[I .u8 (7)] 5)):=kA.trans (bl2.mono kA.size)
 have y0:wA.cell? ⟨w.heap.size,0,none⟩=some (I O W):=bxc (HBX.out _ kA).1 rfl
 have y1:wA.cell? ⟨w.heap.size,1,none⟩=some (I O H):=bxc (HBX.out _ kA).1 rfl
 have y2:wA.cell? ⟨w.heap.size,2,none⟩=some (Sz a n c):=bxc (HBX.out _ kA).1 rfl
 have y3:wA.cell? ⟨w.heap.size,3,none⟩=some (I O X):=bxc (HBX.out _ kA).1 rfl
 have y4:wA.cell? ⟨w.heap.size,4,none⟩=some (I O Y):=bxc (HBX.out _ kA).1 rfl
 have y5:wA.cell? ⟨w.heap.size,5,none⟩=some (.bool wrp):=bxc (HBX.out _ kA).1 rfl
 have y6:wA.cell? ⟨w.heap.size,6,none⟩=some (I O st):=bxc (HBX.out _ kA).1 rfl
 have y7:wA.cell? ⟨w.heap.size,7,none⟩=some (Sz a7 n7 c7):=bxc (HBX.out _ kA).1 rfl
 have y8:wA.cell? ⟨w.heap.size,8,none⟩=some (Sz a8 n8 c8):=bxc (HBX.out _ kA).1 rfl
 have y9:wA.cell? ⟨w.heap.size,9,none⟩=some (I O be):=bxc (HBX.out _ kA).1 rfl
 go_wp2_with (at_builtin;refine wpList_append_srcZ rfl _ _ 25 rfl W2.heap.size 5 i1 (I .u8 0) 1 1 Tryd.underlying25 ji jz0 jz1 jz2 rfl (by decide) _ n8 (pl.map (Value.int .u8)) rfl oA2 (Sz (some ⟨wA.heap.size,0,none⟩) 1 1) 1 [I .u8 (7)] rfl rfl sB (by intro u hu;simp at hu;subst hu;rfl) (by unfold maxLen;omega) (by omega) kA2.size ?_)
 intro v8 wB oB gB
 obtain⟨gC,cB,hvB,_,_⟩:=own_form oB (by omega)
 subst hvB
 have kB:Below W2.heap.size W2 wB:=kA2.grown gB kA2.size (fun k e=>(oA2.lt k e).1)
 have oS:wB.ownsRow W2.heap.size 5 1 (Sz (some ⟨gC,0,none⟩) (n8+1) cB) (n8+1) ((pl++[7]).map (Value.int .u8)):=by rw[List.map_append];exact oB
 clear oA oA2 sB bl2 kA kA2 gB oB y0 y1 y2 y3 y4 y5 y6 y7 y8 y9
 have bB:=HB2.out.1.trans (kB.mono HB2.out.1.size)
 have i4:=HBX.out _ kB
 have hVr:((wB.setCell ⟨w.heap.size,8,none⟩ (Sz none 0 0)).setCell ⟨w.heap.size,9,none⟩ (I O (be+1))).heap[w.heap.size+1]?=some (.cells #[I O 0,I O 0,Sz none 0 0,I O 0,I O 0,.bool false,I O 0,Sz none 0 0,Sz none 0 0,I O 0] 31 (0,0)):=by rw[box_other _ (by omega)];rw[box_other _ (by omega)];exact i4.2.1
 have HLD:(loadVar 31 ⟨w.heap.size+1,0,none⟩).run Tryd.prog (((wB.setCell ⟨w.heap.size,8,none⟩ (Sz none 0 0)).setCell ⟨w.heap.size,9,none⟩ (I O (be+1))).setRow (w.heap.size+1) #[I O W,I O H,Sz a n c,I O X,I O Y,.bool wrp,I O st,Sz a7 n7 c7,Sz none 0 0,I O (be+1)])=.ok (.agg #[I O W,I O H,Sz a n c,I O X,I O Y,.bool wrp,I O st,Sz a7 n7 c7,Sz none 0 0,I O (be+1)]) (((wB.setCell ⟨w.heap.size,8,none⟩ (Sz none 0 0)).setCell ⟨w.heap.size,9,none⟩ (I O (be+1))).setRow (w.heap.size+1) #[I O W,I O H,Sz a n c,I O X,I O Y,.bool wrp,I O st,Sz a7 n7 c7,Sz none 0 0,I O (be+1)]):=run_loadVar_row _ _ _ _ _ _ _ (setRow_heap _ _ _ _ _ _ hVr) Tryd.underlying31 rfl (by kernel_rfl)
 have HF:Hid (Below w.heap.size w (((wB.setCell ⟨w.heap.size,8,none⟩ (Sz none 0 0)).setCell ⟨w.heap.size,9,none⟩ (I O (be+1))).setRow (w.heap.size+1) #[I O W,I O H,Sz a n c,I O X,I O Y,.bool wrp,I O st,Sz a7 n7 c7,Sz none 0 0,I O (be+1)])):=below_setRow (Below.setCell (p:=⟨w.heap.size,9,none⟩) (Below.setCell (p:=⟨w.heap.size,8,none⟩) bB (Nat.le_refl _) _) (Nat.le_refl _) _) (Nat.le_add_right _ 1) _
 have q0:wB.cell? ⟨w.heap.size,0,none⟩=some (I O W):=bxc i4.1 rfl
 have q1:wB.cell? ⟨w.heap.size,1,none⟩=some (I O H):=bxc i4.1 rfl
 have q2:wB.cell? ⟨w.heap.size,2,none⟩=some (Sz a n c):=bxc i4.1 rfl
 have q3:wB.cell? ⟨w.heap.size,3,none⟩=some (I O X):=bxc i4.1 rfl
 have q4:wB.cell? ⟨w.heap.size,4,none⟩=some (I O Y):=bxc i4.1 rfl
 have q5:wB.cell? ⟨w.heap.size,5,none⟩=some (.bool wrp):=bxc i4.1 rfl
 have q6:wB.cell? ⟨w.heap.size,6,none⟩=some (I O st):=bxc i4.1 rfl
 have q7:wB.cell? ⟨w.heap.size,7,none⟩=some (Sz a7 n7 c7):=bxc i4.1 rfl
 have q8:wB.cell? ⟨w.heap.size,8,none⟩=some (Sz a8 n8 c8):=bxc i4.1 rfl
 have q9:wB.cell? ⟨w.heap.size,9,none⟩=some (I O be):=bxc i4.1 rfl
 have f8:wB.frozen? ⟨w.heap.size,8,none⟩=false:=box_frozen i4.1
 have f9:wB.frozen? ⟨w.heap.size,9,none⟩=false:=box_frozen i4.1
 clear i4 bB kB oS
 go_wp2_with (refine wpList_store_row rfl _ _ _ rfl _ _ rfl rfl _ _ hVr (by kernel_rfl) rfl (by simp[Value.oneCell']) ?_)
 (try simp only[Exit.inBlock,Exit.then])
 refine bodyPost_ret (by simp[results,Tryd.results54,asAddr,Act.put,HLD];try rfl) rfl ?_
 refine⟨[I O W,I O H,Sz a n c,I O X,I O Y,.bool wrp,I O st,Sz a7 n7 c7,Sz none 0 0,I O (be+1)],rfl,?_,HF.out⟩
 rw[HE.out]
 intro w'' hk r2 r7 r8
 exact reads_Vt (d:=(((W,H,zs,X,Y,wrp,()),st,al,[],be+1,()):TD)) r2 r7 (nil_readB _)
theorem spl_ring(W H X Y st be:Int)(wrp:Bool)(a a7 a8:Option Addr)(n c n7 c7 n8 c8:Nat)(zs al pl:List Int)(w:World)(hg:gokB (W,H,zs,X,Y,wrp,())=true)(h2:Reads (.sl .int) w [Sz a n c] zs)(h7:Reads (.sl .int) w [Sz a7 n7 c7] al)(h8:Reads (.sl .u8) w [Sz a8 n8 c8] pl)(hpl:pl.length≤3)(hbe:0≤be∧be≤1000000)(hm:¬ be < 1000000):
   Calls Tryd.prog 54 #[.agg #[I O W,I O H,Sz a n c,I O X,I O Y,.bool wrp,I O st,Sz a7 n7 c7,Sz a8 n8 c8,I O be],I O 7] w fun e w'=>∃ o,e=.returned (.agg o.toArray)∧RK w w' o (plainT (((W,H,zs,X,Y,wrp,()),st,al,pl,be,()):TD) 7) (Sz a n c) (Sz a7 n7 c7) (Sz a8 n8 c8) zs al pl∧Below w.heap.size w w':=by
 obtain⟨i1,ji,jz0,jz1,jz2⟩:=info_parts Tryd.infoB
 obtain⟨W2,hW2,bW2,zW2,hA2,hZ2,hG2,HBX⟩:=mpro2 W H X Y st be wrp a a7 a8 n c n7 c7 n8 c8 w
 have HB2:Hid (Below w.heap.size w W2∧W2.heap.size=w.heap.size+3):=⟨bW2,zW2⟩
 have HW:Hid (W2=_):=hW2
 have HR:Hid (Reads (.sl .int) w [Sz a n c] zs∧Reads (.sl .int) w [Sz a7 n7 c7] al):=⟨h2,h7⟩
 obtain⟨hl8,hr8,_,_⟩:=reads_bytes h8
 have HBY:Hid (∀ i,0≤bt pl i∧bt pl i≤255):=fun i=>hr8.1 i
 have HL:Hid (pl.length=n8):=hl8
 have HSR:Hid (SrcZ w (Sz a8 n8 c8) n8 (pl.map (Value.int .u8))):=srcZ_rd hr8 hl8
 obtain⟨WE,hWE⟩:∃ U,U=W2.alloc (.cells #[] 5):=⟨_,rfl⟩
 have bE:Below W2.heap.size W2 WE:=by rw[hWE];exact(Below.refl _ _).alloc (Nat.le_refl _) _
 have oE:WE.ownsRow W2.heap.size 5 1 (Sz (some ⟨w.heap.size+1+1+1,0,none⟩) 0 0) 0 []:=by
   have h9:=World.ownsRow_lit (base:=W2.heap.size) (e:=5) (size:=1) W2 #[] 0 (Nat.le_refl _) (Nat.zero_le _) rfl
   rw[zW2] at h9
   rw[hWE,zW2]
   exact h9
 have hn83:n8≤3:=by omega
 have HE0:Hid (Below W2.heap.size W2 WE∧WE.ownsRow W2.heap.size 5 1 (Sz (some ⟨w.heap.size+1+1+1,0,none⟩) 0 0) 0 []):=⟨bE,oE⟩
 have HWE:Hid (WE=_):=hWE
 have HE:Hid (plainT (((W,H,zs,X,Y,wrp,()),st,al,pl,be,()):TD) 7=((W,H,zs,X,Y,wrp,()),st,al,[],be,())):=by
   show (((W,H,zs,X,Y,wrp,()),st,al,[],ringN be,()):TD)=_
   unfold ringN
   rw[if_neg (by omega),show (1000000:Int)=be by omega]
 have dm:decide (be < (1000000:Int))=false:=decide_eq_false hm
 clear hg h2 h7 h8 hpl hl8 hr8 hW2 bW2 zW2 hA2 hZ2 hG2 hWE bE oE hm hbe
 have y0:WE.cell? ⟨w.heap.size,0,none⟩=some (I O W):=bxc (HBX.out _ HE0.out.1).1 rfl
 have y1:WE.cell? ⟨w.heap.size,1,none⟩=some (I O H):=bxc (HBX.out _ HE0.out.1).1 rfl
 have y2:WE.cell? ⟨w.heap.size,2,none⟩=some (Sz a n c):=bxc (HBX.out _ HE0.out.1).1 rfl
 have y3:WE.cell? ⟨w.heap.size,3,none⟩=some (I O X):=bxc (HBX.out _ HE0.out.1).1 rfl
 have y4:WE.cell? ⟨w.heap.size,4,none⟩=some (I O Y):=bxc (HBX.out _ HE0.out.1).1 rfl
 have y5:WE.cell? ⟨w.heap.size,5,none⟩=some (.bool wrp):=bxc (HBX.out _ HE0.out.1).1 rfl
 have y6:WE.cell? ⟨w.heap.size,6,none⟩=some (I O st):=bxc (HBX.out _ HE0.out.1).1 rfl
 have y7:WE.cell? ⟨w.heap.size,7,none⟩=some (Sz a7 n7 c7):=bxc (HBX.out _ HE0.out.1).1 rfl
 have y8:WE.cell? ⟨w.heap.size,8,none⟩=some (Sz a8 n8 c8):=bxc (HBX.out _ HE0.out.1).1 rfl
 have y9:WE.cell? ⟨w.heap.size,9,none⟩=some (I O be):=bxc (HBX.out _ HE0.out.1).1 rfl
 have hsE:=srcZ_later HSR.out (HB2.out.1.trans (HE0.out.1.mono HB2.out.1.size))
 have oE:=HE0.out.2
 go_enter Tryd.func54,Tryd.ntmps54
 go_wp2_with (at_builtin;rw[← HW.out,← HWE.out];refine wpList_append_srcZ rfl _ _ 25 rfl W2.heap.size 5 i1 (I .u8 0) 1 1 Tryd.underlying25 ji jz0 jz1 jz2 rfl (by decide) _ 0 [] rfl oE (Sz a8 n8 c8) n8 (pl.map (Value.int .u8)) rfl ?c0 hsE ?c1 ?c3 ?c4 HE0.out.1.size ?_)
 case c0=>(rw[List.length_map,HL.out]) <;> omega
 case c1=>intro u hu;simp at hu;obtain⟨x,_,rfl⟩:=hu;rfl
 case c3=>unfold maxLen;omega
 case c4=>omega
 intro v7 wA oA gA
 (try rw[Nat.zero_add] at oA)
 (try rw[List.nil_append] at oA)
 obtain⟨aA,cA,hvA⟩:=own_formV oA
 subst hvA
 have kA:Below W2.heap.size W2 wA:=HE0.out.1.grown gA HE0.out.1.size (fun k e=>(oE.lt k e).1)
 clear oE gA hsE y0 y1 y2 y3 y4 y5 y6 y7 y8 y9
 have bl2:Below wA.heap.size wA (wA.alloc (.cells #[I .u8 (7)] 5)):=(Below.refl _ _).alloc (Nat.le_refl _) _
 have oA2:=own_later oA bl2
 have sB:SrcZ (wA.alloc (.cells #[I .u8 (7)] 5)) (Sz (some ⟨wA.heap.size,0,none⟩) 1 1) 1 [I .u8 (7)]:=srcZ_lit (cs:=[I .u8 (7)]) (heap_alloc_new wA _)
 have kA2:Below W2.heap.size W2 (wA.alloc (.cells #[I .u8 (7)] 5)):=kA.trans (bl2.mono kA.size)
 have y0:wA.cell? ⟨w.heap.size,0,none⟩=some (I O W):=bxc (HBX.out _ kA).1 rfl
 have y1:wA.cell? ⟨w.heap.size,1,none⟩=some (I O H):=bxc (HBX.out _ kA).1 rfl
 have y2:wA.cell? ⟨w.heap.size,2,none⟩=some (Sz a n c):=bxc (HBX.out _ kA).1 rfl
 have y3:wA.cell? ⟨w.heap.size,3,none⟩=some (I O X):=bxc (HBX.out _ kA).1 rfl
 have y4:wA.cell? ⟨w.heap.size,4,none⟩=some (I O Y):=bxc (HBX.out _ kA).1 rfl
 have y5:wA.cell? ⟨w.heap.size,5,none⟩=some (.bool wrp):=bxc (HBX.out _ kA).1 rfl
 have y6:wA.cell? ⟨w.heap.size,6,none⟩=some (I O st):=bxc (HBX.out _ kA).1 rfl
 have y7:wA.cell? ⟨w.heap.size,7,none⟩=some (Sz a7 n7 c7):=bxc (HBX.out _ kA).1 rfl
 have y8:wA.cell? ⟨w.heap.size,8,none⟩=some (Sz a8 n8 c8):=bxc (HBX.out _ kA).1 rfl
 have y9:wA.cell? ⟨w.heap.size,9,none⟩=some (I O be):=bxc (HBX.out _ kA).1 rfl
 go_wp2_with (at_builtin;refine wpList_append_srcZ rfl _ _ 25 rfl W2.heap.size 5 i1 (I .u8 0) 1 1 Tryd.underlying25 ji jz0 jz1 jz2 rfl (by decide) _ n8 (pl.map (Value.int .u8)) rfl oA2 (Sz (some ⟨wA.heap.size,0,none⟩) 1 1) 1 [I .u8 (7)] rfl rfl sB (by intro u hu;simp at hu;subst hu;rfl) (by unfold maxLen;omega) (by omega) kA2.size ?_)
 intro v8 wB oB gB
 obtain⟨gC,cB,hvB,_,_⟩:=own_form oB (by omega)
 subst hvB
 have kB:Below W2.heap.size W2 wB:=kA2.grown gB kA2.size (fun k e=>(oA2.lt k e).1)
 have oS:wB.ownsRow W2.heap.size 5 1 (Sz (some ⟨gC,0,none⟩) (n8+1) cB) (n8+1) ((pl++[7]).map (Value.int .u8)):=by rw[List.map_append];exact oB
 clear oA oA2 sB bl2 kA kA2 gB oB y0 y1 y2 y3 y4 y5 y6 y7 y8 y9
 have bB:=HB2.out.1.trans (kB.mono HB2.out.1.size)
 have i4:=HBX.out _ kB
 have hVr:(wB.setCell ⟨w.heap.size,8,none⟩ (Sz none 0 0)).heap[w.heap.size+1]?=some (.cells #[I O 0,I O 0,Sz none 0 0,I O 0,I O 0,.bool false,I O 0,Sz none 0 0,Sz none 0 0,I O 0] 31 (0,0)):=by rw[box_other _ (by omega)];exact i4.2.1
 have HLD:(loadVar 31 ⟨w.heap.size+1,0,none⟩).run Tryd.prog ((wB.setCell ⟨w.heap.size,8,none⟩ (Sz none 0 0)).setRow (w.heap.size+1) #[I O W,I O H,Sz a n c,I O X,I O Y,.bool wrp,I O st,Sz a7 n7 c7,Sz none 0 0,I O be])=.ok (.agg #[I O W,I O H,Sz a n c,I O X,I O Y,.bool wrp,I O st,Sz a7 n7 c7,Sz none 0 0,I O be]) ((wB.setCell ⟨w.heap.size,8,none⟩ (Sz none 0 0)).setRow (w.heap.size+1) #[I O W,I O H,Sz a n c,I O X,I O Y,.bool wrp,I O st,Sz a7 n7 c7,Sz none 0 0,I O be]):=run_loadVar_row _ _ _ _ _ _ _ (setRow_heap _ _ _ _ _ _ hVr) Tryd.underlying31 rfl (by kernel_rfl)
 have HF:Hid (Below w.heap.size w ((wB.setCell ⟨w.heap.size,8,none⟩ (Sz none 0 0)).setRow (w.heap.size+1) #[I O W,I O H,Sz a n c,I O X,I O Y,.bool wrp,I O st,Sz a7 n7 c7,Sz none 0 0,I O be])):=below_setRow (Below.setCell (p:=⟨w.heap.size,8,none⟩) bB (Nat.le_refl _) _) (Nat.le_add_right _ 1) _
 have q0:wB.cell? ⟨w.heap.size,0,none⟩=some (I O W):=bxc i4.1 rfl
 have q1:wB.cell? ⟨w.heap.size,1,none⟩=some (I O H):=bxc i4.1 rfl
 have q2:wB.cell? ⟨w.heap.size,2,none⟩=some (Sz a n c):=bxc i4.1 rfl
 have q3:wB.cell? ⟨w.heap.size,3,none⟩=some (I O X):=bxc i4.1 rfl
 have q4:wB.cell? ⟨w.heap.size,4,none⟩=some (I O Y):=bxc i4.1 rfl
 have q5:wB.cell? ⟨w.heap.size,5,none⟩=some (.bool wrp):=bxc i4.1 rfl
 have q6:wB.cell? ⟨w.heap.size,6,none⟩=some (I O st):=bxc i4.1 rfl
 have q7:wB.cell? ⟨w.heap.size,7,none⟩=some (Sz a7 n7 c7):=bxc i4.1 rfl
 have q8:wB.cell? ⟨w.heap.size,8,none⟩=some (Sz a8 n8 c8):=bxc i4.1 rfl
 have q9:wB.cell? ⟨w.heap.size,9,none⟩=some (I O be):=bxc i4.1 rfl
 have f8:wB.frozen? ⟨w.heap.size,8,none⟩=false:=box_frozen i4.1
 clear i4 bB kB oS
 go_wp2_with (refine wpList_store_row rfl _ _ _ rfl _ _ rfl rfl _ _ hVr (by kernel_rfl) rfl (by simp[Value.oneCell']) ?_)
 (try simp only[Exit.inBlock,Exit.then])
 refine bodyPost_ret (by simp[results,Tryd.results54,asAddr,Act.put,HLD];try rfl) rfl ?_
 refine⟨[I O W,I O H,Sz a n c,I O X,I O Y,.bool wrp,I O st,Sz a7 n7 c7,Sz none 0 0,I O be],rfl,?_,HF.out⟩
 rw[HE.out]
 intro w'' hk r2 r7 r8
 exact reads_Vt (d:=(((W,H,zs,X,Y,wrp,()),st,al,[],be,()):TD)) r2 r7 (nil_readB _)
theorem spl_lo(W H X Y st be:Int)(wrp:Bool)(a a7 a8:Option Addr)(n c n7 c7 n8 c8:Nat)(zs al pl:List Int)(b:Int)(w:World)(hg:gokB (W,H,zs,X,Y,wrp,())=true)(h2:Reads (.sl .int) w [Sz a n c] zs)(h7:Reads (.sl .int) w [Sz a7 n7 c7] al)(h8:Reads (.sl .u8) w [Sz a8 n8 c8] pl)(hpl:pl.length≤3)(hbe:0≤be∧be≤1000000)(hb:0≤b∧b < 128)(k7:b≠7)(k8:b≠8)(k10:b≠10)(k13:b≠13)(k27:b≠27)(hn:b < 32):
   Calls Tryd.prog 54 #[.agg #[I O W,I O H,Sz a n c,I O X,I O Y,.bool wrp,I O st,Sz a7 n7 c7,Sz a8 n8 c8,I O be],I O b] w fun e w'=>∃ o,e=.returned (.agg o.toArray)∧RK w w' o (plainT (((W,H,zs,X,Y,wrp,()),st,al,pl,be,()):TD) b) (Sz a n c) (Sz a7 n7 c7) (Sz a8 n8 c8) zs al pl∧Below w.heap.size w w':=by
 obtain⟨i1,ji,jz0,jz1,jz2⟩:=info_parts Tryd.infoB
 obtain⟨W2,hW2,bW2,zW2,hA2,hZ2,hG2,HBX⟩:=mpro2 W H X Y st be wrp a a7 a8 n c n7 c7 n8 c8 w
 have HB2:Hid (Below w.heap.size w W2∧W2.heap.size=w.heap.size+3):=⟨bW2,zW2⟩
 have HW:Hid (W2=_):=hW2
 have HR:Hid (Reads (.sl .int) w [Sz a n c] zs∧Reads (.sl .int) w [Sz a7 n7 c7] al):=⟨h2,h7⟩
 obtain⟨hl8,hr8,_,_⟩:=reads_bytes h8
 have HBY:Hid (∀ i,0≤bt pl i∧bt pl i≤255):=fun i=>hr8.1 i
 have HL:Hid (pl.length=n8):=hl8
 have HSR:Hid (SrcZ w (Sz a8 n8 c8) n8 (pl.map (Value.int .u8))):=srcZ_rd hr8 hl8
 obtain⟨WE,hWE⟩:∃ U,U=W2.alloc (.cells #[] 5):=⟨_,rfl⟩
 have bE:Below W2.heap.size W2 WE:=by rw[hWE];exact(Below.refl _ _).alloc (Nat.le_refl _) _
 have oE:WE.ownsRow W2.heap.size 5 1 (Sz (some ⟨w.heap.size+1+1+1,0,none⟩) 0 0) 0 []:=by
   have h9:=World.ownsRow_lit (base:=W2.heap.size) (e:=5) (size:=1) W2 #[] 0 (Nat.le_refl _) (Nat.zero_le _) rfl
   rw[zW2] at h9
   rw[hWE,zW2]
   exact h9
 have hn83:n8≤3:=by omega
 have HE0:Hid (Below W2.heap.size W2 WE∧WE.ownsRow W2.heap.size 5 1 (Sz (some ⟨w.heap.size+1+1+1,0,none⟩) 0 0) 0 []):=⟨bE,oE⟩
 have HWE:Hid (WE=_):=hWE
 have HE:Hid (plainT (((W,H,zs,X,Y,wrp,()),st,al,pl,be,()):TD) b=((W,H,zs,X,Y,wrp,()),st,al,[],be,())):=by
   show _=_
   unfold plainT
   rw[if_neg (by omega),if_neg k7,if_neg k8,if_neg k10,if_neg k13,if_neg k27]
   rw[putN_zero (wd_no (.inl hn))]
 have e7:(b==7)=false:=by simpa using k7
 have e8:(b==8)=false:=by simpa using k8
 have e10:(b==10)=false:=by simpa using k10
 have e13:(b==13)=false:=by simpa using k13
 have e27:(b==27)=false:=by simpa using k27
 have d1:decide ((128:Int)≤b)=false:=decide_eq_false (by omega)
 have wb:IntKind.u8.wrap b=b:=by simp[IntKind.wrap,IntKind.bits,IntKind.signed];omega
 have d2:decide ((32:Int)≤b)=false:=decide_eq_false (by omega)
 clear hg h2 h7 h8 hpl hl8 hr8 hW2 bW2 zW2 hA2 hZ2 hG2 hWE bE oE hb k7 k8 k10 k13 k27 hn hbe
 have y0:WE.cell? ⟨w.heap.size,0,none⟩=some (I O W):=bxc (HBX.out _ HE0.out.1).1 rfl
 have y1:WE.cell? ⟨w.heap.size,1,none⟩=some (I O H):=bxc (HBX.out _ HE0.out.1).1 rfl
 have y2:WE.cell? ⟨w.heap.size,2,none⟩=some (Sz a n c):=bxc (HBX.out _ HE0.out.1).1 rfl
 have y3:WE.cell? ⟨w.heap.size,3,none⟩=some (I O X):=bxc (HBX.out _ HE0.out.1).1 rfl
 have y4:WE.cell? ⟨w.heap.size,4,none⟩=some (I O Y):=bxc (HBX.out _ HE0.out.1).1 rfl
 have y5:WE.cell? ⟨w.heap.size,5,none⟩=some (.bool wrp):=bxc (HBX.out _ HE0.out.1).1 rfl
 have y6:WE.cell? ⟨w.heap.size,6,none⟩=some (I O st):=bxc (HBX.out _ HE0.out.1).1 rfl
 have y7:WE.cell? ⟨w.heap.size,7,none⟩=some (Sz a7 n7 c7):=bxc (HBX.out _ HE0.out.1).1 rfl
 have y8:WE.cell? ⟨w.heap.size,8,none⟩=some (Sz a8 n8 c8):=bxc (HBX.out _ HE0.out.1).1 rfl
 have y9:WE.cell? ⟨w.heap.size,9,none⟩=some (I O be):=bxc (HBX.out _ HE0.out.1).1 rfl
 have hsE:=srcZ_later HSR.out (HB2.out.1.trans (HE0.out.1.mono HB2.out.1.size))
 have oE:=HE0.out.2
 go_enter Tryd.func54,Tryd.ntmps54
 go_wp2_with (at_builtin;rw[← HW.out,← HWE.out];refine wpList_append_srcZ rfl _ _ 25 rfl W2.heap.size 5 i1 (I .u8 0) 1 1 Tryd.underlying25 ji jz0 jz1 jz2 rfl (by decide) _ 0 [] rfl oE (Sz a8 n8 c8) n8 (pl.map (Value.int .u8)) rfl ?c0 hsE ?c1 ?c3 ?c4 HE0.out.1.size ?_)
 case c0=>(rw[List.length_map,HL.out]) <;> omega
 case c1=>intro u hu;simp at hu;obtain⟨x,_,rfl⟩:=hu;rfl
 case c3=>unfold maxLen;omega
 case c4=>omega
 intro v7 wA oA gA
 (try rw[Nat.zero_add] at oA)
 (try rw[List.nil_append] at oA)
 obtain⟨aA,cA,hvA⟩:=own_formV oA
 subst hvA
 have kA:Below W2.heap.size W2 wA:=HE0.out.1.grown gA HE0.out.1.size (fun k e=>(oE.lt k e).1)
 clear oE gA hsE y0 y1 y2 y3 y4 y5 y6 y7 y8 y9
 have bl2:Below wA.heap.size wA (wA.alloc (.cells #[I .u8 (b)] 5)):=(Below.refl _ _).alloc (Nat.le_refl _) _
 have oA2:=own_later oA bl2
 have sB:SrcZ (wA.alloc (.cells #[I .u8 (b)] 5)) (Sz (some ⟨wA.heap.size,0,none⟩) 1 1) 1 [I .u8 (b)]:=srcZ_lit (cs:=[I .u8 (b)]) (heap_alloc_new wA _)
 have kA2:Below W2.heap.size W2 (wA.alloc (.cells #[I .u8 (b)] 5)):=kA.trans (bl2.mono kA.size)
 have y0:wA.cell? ⟨w.heap.size,0,none⟩=some (I O W):=bxc (HBX.out _ kA).1 rfl
 have y1:wA.cell? ⟨w.heap.size,1,none⟩=some (I O H):=bxc (HBX.out _ kA).1 rfl
 have y2:wA.cell? ⟨w.heap.size,2,none⟩=some (Sz a n c):=bxc (HBX.out _ kA).1 rfl
 have y3:wA.cell? ⟨w.heap.size,3,none⟩=some (I O X):=bxc (HBX.out _ kA).1 rfl
 have y4:wA.cell? ⟨w.heap.size,4,none⟩=some (I O Y):=bxc (HBX.out _ kA).1 rfl
 have y5:wA.cell? ⟨w.heap.size,5,none⟩=some (.bool wrp):=bxc (HBX.out _ kA).1 rfl
 have y6:wA.cell? ⟨w.heap.size,6,none⟩=some (I O st):=bxc (HBX.out _ kA).1 rfl
 have y7:wA.cell? ⟨w.heap.size,7,none⟩=some (Sz a7 n7 c7):=bxc (HBX.out _ kA).1 rfl
 have y8:wA.cell? ⟨w.heap.size,8,none⟩=some (Sz a8 n8 c8):=bxc (HBX.out _ kA).1 rfl
 have y9:wA.cell? ⟨w.heap.size,9,none⟩=some (I O be):=bxc (HBX.out _ kA).1 rfl
 go_wp2_with (at_builtin;refine wpList_append_srcZ rfl _ _ 25 rfl W2.heap.size 5 i1 (I .u8 0) 1 1 Tryd.underlying25 ji jz0 jz1 jz2 rfl (by decide) _ n8 (pl.map (Value.int .u8)) rfl oA2 (Sz (some ⟨wA.heap.size,0,none⟩) 1 1) 1 [I .u8 (b)] rfl rfl sB (by intro u hu;simp at hu;subst hu;rfl) (by unfold maxLen;omega) (by omega) kA2.size ?_)
 intro v8 wB oB gB
 obtain⟨gC,cB,hvB,_,_⟩:=own_form oB (by omega)
 subst hvB
 have kB:Below W2.heap.size W2 wB:=kA2.grown gB kA2.size (fun k e=>(oA2.lt k e).1)
 have oS:wB.ownsRow W2.heap.size 5 1 (Sz (some ⟨gC,0,none⟩) (n8+1) cB) (n8+1) ((pl++[b]).map (Value.int .u8)):=by rw[List.map_append];exact oB
 clear oA oA2 sB bl2 kA kA2 gB oB y0 y1 y2 y3 y4 y5 y6 y7 y8 y9
 have bB:=HB2.out.1.trans (kB.mono HB2.out.1.size)
 have i4:=HBX.out _ kB
 have hVr:(wB.setCell ⟨w.heap.size,8,none⟩ (Sz none 0 0)).heap[w.heap.size+1]?=some (.cells #[I O 0,I O 0,Sz none 0 0,I O 0,I O 0,.bool false,I O 0,Sz none 0 0,Sz none 0 0,I O 0] 31 (0,0)):=by rw[box_other _ (by omega)];exact i4.2.1
 have HLD:(loadVar 31 ⟨w.heap.size+1,0,none⟩).run Tryd.prog ((wB.setCell ⟨w.heap.size,8,none⟩ (Sz none 0 0)).setRow (w.heap.size+1) #[I O W,I O H,Sz a n c,I O X,I O Y,.bool wrp,I O st,Sz a7 n7 c7,Sz none 0 0,I O be])=.ok (.agg #[I O W,I O H,Sz a n c,I O X,I O Y,.bool wrp,I O st,Sz a7 n7 c7,Sz none 0 0,I O be]) ((wB.setCell ⟨w.heap.size,8,none⟩ (Sz none 0 0)).setRow (w.heap.size+1) #[I O W,I O H,Sz a n c,I O X,I O Y,.bool wrp,I O st,Sz a7 n7 c7,Sz none 0 0,I O be]):=run_loadVar_row _ _ _ _ _ _ _ (setRow_heap _ _ _ _ _ _ hVr) Tryd.underlying31 rfl (by kernel_rfl)
 have HF:Hid (Below w.heap.size w ((wB.setCell ⟨w.heap.size,8,none⟩ (Sz none 0 0)).setRow (w.heap.size+1) #[I O W,I O H,Sz a n c,I O X,I O Y,.bool wrp,I O st,Sz a7 n7 c7,Sz none 0 0,I O be])):=below_setRow (Below.setCell (p:=⟨w.heap.size,8,none⟩) bB (Nat.le_refl _) _) (Nat.le_add_right _ 1) _
 have q0:wB.cell? ⟨w.heap.size,0,none⟩=some (I O W):=bxc i4.1 rfl
 have q1:wB.cell? ⟨w.heap.size,1,none⟩=some (I O H):=bxc i4.1 rfl
 have q2:wB.cell? ⟨w.heap.size,2,none⟩=some (Sz a n c):=bxc i4.1 rfl
 have q3:wB.cell? ⟨w.heap.size,3,none⟩=some (I O X):=bxc i4.1 rfl
 have q4:wB.cell? ⟨w.heap.size,4,none⟩=some (I O Y):=bxc i4.1 rfl
 have q5:wB.cell? ⟨w.heap.size,5,none⟩=some (.bool wrp):=bxc i4.1 rfl
 have q6:wB.cell? ⟨w.heap.size,6,none⟩=some (I O st):=bxc i4.1 rfl
 have q7:wB.cell? ⟨w.heap.size,7,none⟩=some (Sz a7 n7 c7):=bxc i4.1 rfl
 have q8:wB.cell? ⟨w.heap.size,8,none⟩=some (Sz a8 n8 c8):=bxc i4.1 rfl
 have q9:wB.cell? ⟨w.heap.size,9,none⟩=some (I O be):=bxc i4.1 rfl
 have f8:wB.frozen? ⟨w.heap.size,8,none⟩=false:=box_frozen i4.1
 clear i4 bB kB oS
 go_wp2_with (refine wpList_store_row rfl _ _ _ rfl _ _ rfl rfl _ _ hVr (by kernel_rfl) rfl (by simp[Value.oneCell']) ?_)
 (try simp only[Exit.inBlock,Exit.then])
 refine bodyPost_ret (by simp[results,Tryd.results54,asAddr,Act.put,HLD];try rfl) rfl ?_
 refine⟨[I O W,I O H,Sz a n c,I O X,I O Y,.bool wrp,I O st,Sz a7 n7 c7,Sz none 0 0,I O be],rfl,?_,HF.out⟩
 rw[HE.out]
 intro w'' hk r2 r7 r8
 exact reads_Vt (d:=(((W,H,zs,X,Y,wrp,()),st,al,[],be,()):TD)) r2 r7 (nil_readB _)
theorem spl_del(W H X Y st be:Int)(wrp:Bool)(a a7 a8:Option Addr)(n c n7 c7 n8 c8:Nat)(zs al pl:List Int)(w:World)(hg:gokB (W,H,zs,X,Y,wrp,())=true)(h2:Reads (.sl .int) w [Sz a n c] zs)(h7:Reads (.sl .int) w [Sz a7 n7 c7] al)(h8:Reads (.sl .u8) w [Sz a8 n8 c8] pl)(hpl:pl.length≤3)(hbe:0≤be∧be≤1000000):
   Calls Tryd.prog 54 #[.agg #[I O W,I O H,Sz a n c,I O X,I O Y,.bool wrp,I O st,Sz a7 n7 c7,Sz a8 n8 c8,I O be],I O 127] w fun e w'=>∃ o,e=.returned (.agg o.toArray)∧RK w w' o (plainT (((W,H,zs,X,Y,wrp,()),st,al,pl,be,()):TD) 127) (Sz a n c) (Sz a7 n7 c7) (Sz a8 n8 c8) zs al pl∧Below w.heap.size w w':=by
 obtain⟨i1,ji,jz0,jz1,jz2⟩:=info_parts Tryd.infoB
 obtain⟨W2,hW2,bW2,zW2,hA2,hZ2,hG2,HBX⟩:=mpro2 W H X Y st be wrp a a7 a8 n c n7 c7 n8 c8 w
 have HB2:Hid (Below w.heap.size w W2∧W2.heap.size=w.heap.size+3):=⟨bW2,zW2⟩
 have HW:Hid (W2=_):=hW2
 have HR:Hid (Reads (.sl .int) w [Sz a n c] zs∧Reads (.sl .int) w [Sz a7 n7 c7] al):=⟨h2,h7⟩
 obtain⟨hl8,hr8,_,_⟩:=reads_bytes h8
 have HBY:Hid (∀ i,0≤bt pl i∧bt pl i≤255):=fun i=>hr8.1 i
 have HL:Hid (pl.length=n8):=hl8
 have HSR:Hid (SrcZ w (Sz a8 n8 c8) n8 (pl.map (Value.int .u8))):=srcZ_rd hr8 hl8
 obtain⟨WE,hWE⟩:∃ U,U=W2.alloc (.cells #[] 5):=⟨_,rfl⟩
 have bE:Below W2.heap.size W2 WE:=by rw[hWE];exact(Below.refl _ _).alloc (Nat.le_refl _) _
 have oE:WE.ownsRow W2.heap.size 5 1 (Sz (some ⟨w.heap.size+1+1+1,0,none⟩) 0 0) 0 []:=by
   have h9:=World.ownsRow_lit (base:=W2.heap.size) (e:=5) (size:=1) W2 #[] 0 (Nat.le_refl _) (Nat.zero_le _) rfl
   rw[zW2] at h9
   rw[hWE,zW2]
   exact h9
 have hn83:n8≤3:=by omega
 have HE0:Hid (Below W2.heap.size W2 WE∧WE.ownsRow W2.heap.size 5 1 (Sz (some ⟨w.heap.size+1+1+1,0,none⟩) 0 0) 0 []):=⟨bE,oE⟩
 have HWE:Hid (WE=_):=hWE
 have HE:Hid (plainT (((W,H,zs,X,Y,wrp,()),st,al,pl,be,()):TD) 127=((W,H,zs,X,Y,wrp,()),st,al,[],be,())):=by
   show _=_
   unfold plainT
   rw[if_neg (by decide),if_neg (by decide),if_neg (by decide),if_neg (by decide),if_neg (by decide),if_neg (by decide),putN_zero (wd_no (.inr rfl))]
 clear hg h2 h7 h8 hpl hl8 hr8 hW2 bW2 zW2 hA2 hZ2 hG2 hWE bE oE 
 have y0:WE.cell? ⟨w.heap.size,0,none⟩=some (I O W):=bxc (HBX.out _ HE0.out.1).1 rfl
 have y1:WE.cell? ⟨w.heap.size,1,none⟩=some (I O H):=bxc (HBX.out _ HE0.out.1).1 rfl
 have y2:WE.cell? ⟨w.heap.size,2,none⟩=some (Sz a n c):=bxc (HBX.out _ HE0.out.1).1 rfl
 have y3:WE.cell? ⟨w.heap.size,3,none⟩=some (I O X):=bxc (HBX.out _ HE0.out.1).1 rfl
 have y4:WE.cell? ⟨w.heap.size,4,none⟩=some (I O Y):=bxc (HBX.out _ HE0.out.1).1 rfl
 have y5:WE.cell? ⟨w.heap.size,5,none⟩=some (.bool wrp):=bxc (HBX.out _ HE0.out.1).1 rfl
 have y6:WE.cell? ⟨w.heap.size,6,none⟩=some (I O st):=bxc (HBX.out _ HE0.out.1).1 rfl
 have y7:WE.cell? ⟨w.heap.size,7,none⟩=some (Sz a7 n7 c7):=bxc (HBX.out _ HE0.out.1).1 rfl
 have y8:WE.cell? ⟨w.heap.size,8,none⟩=some (Sz a8 n8 c8):=bxc (HBX.out _ HE0.out.1).1 rfl
 have y9:WE.cell? ⟨w.heap.size,9,none⟩=some (I O be):=bxc (HBX.out _ HE0.out.1).1 rfl
 have hsE:=srcZ_later HSR.out (HB2.out.1.trans (HE0.out.1.mono HB2.out.1.size))
 have oE:=HE0.out.2
 go_enter Tryd.func54,Tryd.ntmps54
 go_wp2_with (at_builtin;rw[← HW.out,← HWE.out];refine wpList_append_srcZ rfl _ _ 25 rfl W2.heap.size 5 i1 (I .u8 0) 1 1 Tryd.underlying25 ji jz0 jz1 jz2 rfl (by decide) _ 0 [] rfl oE (Sz a8 n8 c8) n8 (pl.map (Value.int .u8)) rfl ?c0 hsE ?c1 ?c3 ?c4 HE0.out.1.size ?_)
 case c0=>(rw[List.length_map,HL.out]) <;> omega
 case c1=>intro u hu;simp at hu;obtain⟨x,_,rfl⟩:=hu;rfl
 case c3=>unfold maxLen;omega
 case c4=>omega
 intro v7 wA oA gA
 (try rw[Nat.zero_add] at oA)
 (try rw[List.nil_append] at oA)
 obtain⟨aA,cA,hvA⟩:=own_formV oA
 subst hvA
 have kA:Below W2.heap.size W2 wA:=HE0.out.1.grown gA HE0.out.1.size (fun k e=>(oE.lt k e).1)
 clear oE gA hsE y0 y1 y2 y3 y4 y5 y6 y7 y8 y9
 have bl2:Below wA.heap.size wA (wA.alloc (.cells #[I .u8 (127)] 5)):=(Below.refl _ _).alloc (Nat.le_refl _) _
 have oA2:=own_later oA bl2
 have sB:SrcZ (wA.alloc (.cells #[I .u8 (127)] 5)) (Sz (some ⟨wA.heap.size,0,none⟩) 1 1) 1 [I .u8 (127)]:=srcZ_lit (cs:=[I .u8 (127)]) (heap_alloc_new wA _)
 have kA2:Below W2.heap.size W2 (wA.alloc (.cells #[I .u8 (127)] 5)):=kA.trans (bl2.mono kA.size)
 have y0:wA.cell? ⟨w.heap.size,0,none⟩=some (I O W):=bxc (HBX.out _ kA).1 rfl
 have y1:wA.cell? ⟨w.heap.size,1,none⟩=some (I O H):=bxc (HBX.out _ kA).1 rfl
 have y2:wA.cell? ⟨w.heap.size,2,none⟩=some (Sz a n c):=bxc (HBX.out _ kA).1 rfl
 have y3:wA.cell? ⟨w.heap.size,3,none⟩=some (I O X):=bxc (HBX.out _ kA).1 rfl
 have y4:wA.cell? ⟨w.heap.size,4,none⟩=some (I O Y):=bxc (HBX.out _ kA).1 rfl
 have y5:wA.cell? ⟨w.heap.size,5,none⟩=some (.bool wrp):=bxc (HBX.out _ kA).1 rfl
 have y6:wA.cell? ⟨w.heap.size,6,none⟩=some (I O st):=bxc (HBX.out _ kA).1 rfl
 have y7:wA.cell? ⟨w.heap.size,7,none⟩=some (Sz a7 n7 c7):=bxc (HBX.out _ kA).1 rfl
 have y8:wA.cell? ⟨w.heap.size,8,none⟩=some (Sz a8 n8 c8):=bxc (HBX.out _ kA).1 rfl
 have y9:wA.cell? ⟨w.heap.size,9,none⟩=some (I O be):=bxc (HBX.out _ kA).1 rfl
 go_wp2_with (at_builtin;refine wpList_append_srcZ rfl _ _ 25 rfl W2.heap.size 5 i1 (I .u8 0) 1 1 Tryd.underlying25 ji jz0 jz1 jz2 rfl (by decide) _ n8 (pl.map (Value.int .u8)) rfl oA2 (Sz (some ⟨wA.heap.size,0,none⟩) 1 1) 1 [I .u8 (127)] rfl rfl sB (by intro u hu;simp at hu;subst hu;rfl) (by unfold maxLen;omega) (by omega) kA2.size ?_)
 intro v8 wB oB gB
 obtain⟨gC,cB,hvB,_,_⟩:=own_form oB (by omega)
 subst hvB
 have kB:Below W2.heap.size W2 wB:=kA2.grown gB kA2.size (fun k e=>(oA2.lt k e).1)
 have oS:wB.ownsRow W2.heap.size 5 1 (Sz (some ⟨gC,0,none⟩) (n8+1) cB) (n8+1) ((pl++[127]).map (Value.int .u8)):=by rw[List.map_append];exact oB
 clear oA oA2 sB bl2 kA kA2 gB oB y0 y1 y2 y3 y4 y5 y6 y7 y8 y9
 have bB:=HB2.out.1.trans (kB.mono HB2.out.1.size)
 have i4:=HBX.out _ kB
 have hVr:(wB.setCell ⟨w.heap.size,8,none⟩ (Sz none 0 0)).heap[w.heap.size+1]?=some (.cells #[I O 0,I O 0,Sz none 0 0,I O 0,I O 0,.bool false,I O 0,Sz none 0 0,Sz none 0 0,I O 0] 31 (0,0)):=by rw[box_other _ (by omega)];exact i4.2.1
 have HLD:(loadVar 31 ⟨w.heap.size+1,0,none⟩).run Tryd.prog ((wB.setCell ⟨w.heap.size,8,none⟩ (Sz none 0 0)).setRow (w.heap.size+1) #[I O W,I O H,Sz a n c,I O X,I O Y,.bool wrp,I O st,Sz a7 n7 c7,Sz none 0 0,I O be])=.ok (.agg #[I O W,I O H,Sz a n c,I O X,I O Y,.bool wrp,I O st,Sz a7 n7 c7,Sz none 0 0,I O be]) ((wB.setCell ⟨w.heap.size,8,none⟩ (Sz none 0 0)).setRow (w.heap.size+1) #[I O W,I O H,Sz a n c,I O X,I O Y,.bool wrp,I O st,Sz a7 n7 c7,Sz none 0 0,I O be]):=run_loadVar_row _ _ _ _ _ _ _ (setRow_heap _ _ _ _ _ _ hVr) Tryd.underlying31 rfl (by kernel_rfl)
 have HF:Hid (Below w.heap.size w ((wB.setCell ⟨w.heap.size,8,none⟩ (Sz none 0 0)).setRow (w.heap.size+1) #[I O W,I O H,Sz a n c,I O X,I O Y,.bool wrp,I O st,Sz a7 n7 c7,Sz none 0 0,I O be])):=below_setRow (Below.setCell (p:=⟨w.heap.size,8,none⟩) bB (Nat.le_refl _) _) (Nat.le_add_right _ 1) _
 have q0:wB.cell? ⟨w.heap.size,0,none⟩=some (I O W):=bxc i4.1 rfl
 have q1:wB.cell? ⟨w.heap.size,1,none⟩=some (I O H):=bxc i4.1 rfl
 have q2:wB.cell? ⟨w.heap.size,2,none⟩=some (Sz a n c):=bxc i4.1 rfl
 have q3:wB.cell? ⟨w.heap.size,3,none⟩=some (I O X):=bxc i4.1 rfl
 have q4:wB.cell? ⟨w.heap.size,4,none⟩=some (I O Y):=bxc i4.1 rfl
 have q5:wB.cell? ⟨w.heap.size,5,none⟩=some (.bool wrp):=bxc i4.1 rfl
 have q6:wB.cell? ⟨w.heap.size,6,none⟩=some (I O st):=bxc i4.1 rfl
 have q7:wB.cell? ⟨w.heap.size,7,none⟩=some (Sz a7 n7 c7):=bxc i4.1 rfl
 have q8:wB.cell? ⟨w.heap.size,8,none⟩=some (Sz a8 n8 c8):=bxc i4.1 rfl
 have q9:wB.cell? ⟨w.heap.size,9,none⟩=some (I O be):=bxc i4.1 rfl
 have f8:wB.frozen? ⟨w.heap.size,8,none⟩=false:=box_frozen i4.1
 clear i4 bB kB oS
 go_wp2_with (refine wpList_store_row rfl _ _ _ rfl _ _ rfl rfl _ _ hVr (by kernel_rfl) rfl (by simp[Value.oneCell']) ?_)
 (try simp only[Exit.inBlock,Exit.then])
 refine bodyPost_ret (by simp[results,Tryd.results54,asAddr,Act.put,HLD];try rfl) rfl ?_
 refine⟨[I O W,I O H,Sz a n c,I O X,I O Y,.bool wrp,I O st,Sz a7 n7 c7,Sz none 0 0,I O be],rfl,?_,HF.out⟩
 rw[HE.out]
 intro w'' hk r2 r7 r8
 exact reads_Vt (d:=(((W,H,zs,X,Y,wrp,()),st,al,[],be,()):TD)) r2 r7 (nil_readB _)
end Go.Proofs.YthodinpflcbklaaDoor
