/-
  Parts of the road to VB, joined: SvW, TmQ.
-/
import Derived.Test.YthodinpflcbklaaDoorM37VB
import Derived.Test.YthodinpflcbklaaDoorM18VB
import Derived.Test.YthodinpflcbklaaDoorM34VB
import Derived.Test.YthodinpflcbklaaDoorM21VB
open Go.Value renaming int → I,slice → Sz
open Go.IntKind renaming i64 → O
open List renaming setIfInBounds_toArray → lA,getElem_toArray → lB,getElem_cons_succ → lC,getElem_cons_zero → lD,set_cons_zero → lE,set_cons_succ → lF
set_option linter.unusedVariables false
set_option linter.unusedSimpArgs false
set_option maxHeartbeats 40000000
namespace Go.Proofs.YthodinpflcbklaaDoor
open Go.RowKit
set_option maxRecDepth 100000
def RO(w w':World)(o:List Value)(D:TD):Prop:=∀ w'':World,(∀ g,w.heap.size≤g→g < w'.heap.size→w''.heap[g]?=w'.heap[g]?)→Reads shVt w'' o D
theorem scopy_any(W H X Y st be:Int)(wrp:Bool)(a a7 a8:Option Addr)(n c n7 c7 n8 c8:Nat)(zs al pl:List Int)(w:World)(hn:1≤n∧n≤1048576)(h2:Reads (.sl .int) w [Sz a n c] zs)(h7:Reads (.sl .int) w [Sz a7 n7 c7] al)(h8:Reads (.sl .u8) w [Sz a8 n8 c8] pl)(hal4:al.length≤4)(hpl:pl.length≤3):
   Calls Tryd.prog 27 #[.agg #[I O W,I O H,Sz a n c,I O X,I O Y,.bool wrp,I O st,Sz a7 n7 c7,Sz a8 n8 c8,I O be]] w fun e w'=>∃ o,e=.returned (.agg o.toArray)∧RO w w' o (((W,H,zs,X,Y,wrp,()),st,al,pl,be,()):TD)∧Below w.heap.size w w':=by
 obtain⟨i1,ji,jz0,jz1,jz2⟩:=info_parts Tryd.infoI
 obtain⟨i5,hi5,hz0,hz1,hz2⟩:=info_parts Tryd.infoB
 obtain⟨W1,hW1⟩:∃ U,U=(w.alloc (.cells #[I O W,I O H,Sz a n c,I O X,I O Y,.bool wrp,I O st,Sz a7 n7 c7,Sz a8 n8 c8,I O be] 31)).alloc (.cells #[I O 0,I O 0,Sz none 0 0,I O 0,I O 0,.bool false,I O 0,Sz none 0 0,Sz none 0 0,I O 0] 31):=⟨_,rfl⟩
 have bW1:Below w.heap.size w W1:=by rw[hW1];exact((Below.refl _ _).alloc (Nat.le_refl _) _).alloc (by simp) _
 have zW1:W1.heap.size=w.heap.size+2:=by rw[hW1];simp
 have hA1:W1.heap[w.heap.size]?=some (.cells #[I O W,I O H,Sz a n c,I O X,I O Y,.bool wrp,I O st,Sz a7 n7 c7,Sz a8 n8 c8,I O be] 31 (0,0)):=by rw[hW1,heap_alloc_old _ _ (by simp)];exact heap_alloc_new w _
 have hZ1:W1.heap[w.heap.size+1]?=some (.cells #[I O 0,I O 0,Sz none 0 0,I O 0,I O 0,.bool false,I O 0,Sz none 0 0,Sz none 0 0,I O 0] 31 (0,0)):=by rw[hW1];have:=heap_alloc_new (w.alloc (.cells #[I O W,I O H,Sz a n c,I O X,I O Y,.bool wrp,I O st,Sz a7 n7 c7,Sz a8 n8 c8,I O be] 31)) (.cells #[I O 0,I O 0,Sz none 0 0,I O 0,I O 0,.bool false,I O 0,Sz none 0 0,Sz none 0 0,I O 0] 31);simpa using this
 have HW:Hid (W1=_):=hW1
 obtain⟨hl7,hr7,_,_⟩:=reads_ints h7
 obtain⟨hl8,hr8,_,_⟩:=reads_bytes h8
 have hl2:=(reads_ints h2).1
 have HL:Hid (al.length=n7∧pl.length=n8∧zs.length=n∧∀ i,0≤bt pl i∧bt pl i≤255):=⟨hl7,hl8,hl2,fun i=>hr8.1 i⟩
 have HS7:Hid (SrcZ w (Sz a7 n7 c7) n7 (al.map (Value.int .i64))):=srcZ_rdI hr7 hl7
 have HS8:Hid (SrcZ w (Sz a8 n8 c8) n8 (pl.map (Value.int .u8))):=srcZ_rd hr8 hl8
 have hn74:n7≤4:=by omega
 have hn83:n8≤3:=by omega
 have QC:Hid (Calls Tryd.prog 43 #[.agg #[I O W,I O H,Sz a n c,I O X,I O Y,.bool wrp]] W1 fun e w'=>∃ k kc,e=.returned (.agg #[I O W,I O H,Sz (some ⟨k,0,none⟩) n kc,I O X,I O Y,.bool wrp])∧w'.ownsRow W1.heap.size 3 1 (Sz (some ⟨k,0,none⟩) n kc) n (zs.map (Value.int .i64))∧Below W1.heap.size W1 w'):=specGcopy_any W H X Y a n c wrp zs W1 (h2.later bW1) hn.1 hn.2
 have y0:W1.cell? ⟨w.heap.size,0,none⟩=some (I O W):=bxc hA1 rfl
 have y1:W1.cell? ⟨w.heap.size,1,none⟩=some (I O H):=bxc hA1 rfl
 have y2:W1.cell? ⟨w.heap.size,2,none⟩=some (Sz a n c):=bxc hA1 rfl
 have y3:W1.cell? ⟨w.heap.size,3,none⟩=some (I O X):=bxc hA1 rfl
 have y4:W1.cell? ⟨w.heap.size,4,none⟩=some (I O Y):=bxc hA1 rfl
 have y5:W1.cell? ⟨w.heap.size,5,none⟩=some (.bool wrp):=bxc hA1 rfl
 have y6:W1.cell? ⟨w.heap.size,6,none⟩=some (I O st):=bxc hA1 rfl
 have y7:W1.cell? ⟨w.heap.size,7,none⟩=some (Sz a7 n7 c7):=bxc hA1 rfl
 have y8:W1.cell? ⟨w.heap.size,8,none⟩=some (Sz a8 n8 c8):=bxc hA1 rfl
 have y9:W1.cell? ⟨w.heap.size,9,none⟩=some (I O be):=bxc hA1 rfl
 clear hn h2 h7 h8 hal4 hpl hl7 hr7 hl8 hr8 hl2 hW1
 go_enter Tryd.func27,Tryd.ntmps27
 go_wp2_with fail
 rw[← HW.out]
 refine QC.out.mono ?_
 rintro e w2 ⟨gk,kc,rfl,og,hb2⟩
 clear y0 y1 y2 y3 y4 y5 y6 y7 y8 y9
 have z2:=hb2.size
 have hA2:=(hb2.block _ (by omega)).trans hA1
 have hZ2:=(hb2.block _ (by omega)).trans hZ1
 have b2:=bW1.trans (hb2.mono bW1.size)
 obtain⟨VV,hVV⟩:∃ U,U=w2.setCells w.heap.size 0 (#[I O W,I O H,Sz (some ⟨gk,0,none⟩) n kc,I O X,I O Y,.bool wrp]:Array Value).toList:=⟨_,rfl⟩
 have hVb:VV.heap[w.heap.size]?=some (.cells #[I O W,I O H,Sz (some ⟨gk,0,none⟩) n kc,I O X,I O Y,.bool wrp,I O st,Sz a7 n7 c7,Sz a8 n8 c8,I O be] 31 (0,0)):=by rw[hVV];exact six_in hA2
 have hVr:VV.heap[w.heap.size+1]?=some (.cells #[I O 0,I O 0,Sz none 0 0,I O 0,I O 0,.bool false,I O 0,Sz none 0 0,Sz none 0 0,I O 0] 31 (0,0)):=by rw[hVV,setCells_other (by omega)];exact hZ2
 have bV:Below w.heap.size w VV:=by rw[hVV];exact below_setCells _ _ _ b2 (Nat.le_refl _)
 have kV:∀ g,W1.heap.size≤g→VV.heap[g]?=w2.heap[g]?:=fun g hg=>by rw[hVV,setCells_other (by omega)]
 have zV:w2.heap.size≤VV.heap.size:=by rw[hVV];exact(below_setCells (#[I O W,I O H,Sz (some ⟨gk,0,none⟩) n kc,I O X,I O Y,.bool wrp]:Array Value).toList 0 w2 (Below.refl w.heap.size w2) (Nat.le_refl _)).size
 have HTH:Hid (w2.there w.heap.size 0 6):=six_there hA2
 have HVV:Hid (VV=_):=hVV
 obtain⟨WE,hWE⟩:∃ U,U=VV.alloc (.cells #[] 3):=⟨_,rfl⟩
 have bE:Below VV.heap.size VV WE:=by rw[hWE];exact(Below.refl _ _).alloc (Nat.le_refl _) _
 have oE:WE.ownsRow VV.heap.size 3 1 (Sz (some ⟨VV.heap.size,0,none⟩) 0 0) 0 []:=by
   have h9:=World.ownsRow_lit (base:=VV.heap.size) (e:=3) (size:=1) VV #[] 0 (Nat.le_refl _) (Nat.zero_le _) rfl
   rw[hWE]
   exact h9
 have HWE:Hid (WE=_):=hWE
 have iE:=(bE.block _ (by omega)).trans hVb
 have y0:WE.cell? ⟨w.heap.size,0,none⟩=some (I O W):=bxc iE rfl
 have y1:WE.cell? ⟨w.heap.size,1,none⟩=some (I O H):=bxc iE rfl
 have y2:WE.cell? ⟨w.heap.size,2,none⟩=some (Sz (some ⟨gk,0,none⟩) n kc):=bxc iE rfl
 have y3:WE.cell? ⟨w.heap.size,3,none⟩=some (I O X):=bxc iE rfl
 have y4:WE.cell? ⟨w.heap.size,4,none⟩=some (I O Y):=bxc iE rfl
 have y5:WE.cell? ⟨w.heap.size,5,none⟩=some (.bool wrp):=bxc iE rfl
 have y6:WE.cell? ⟨w.heap.size,6,none⟩=some (I O st):=bxc iE rfl
 have y7:WE.cell? ⟨w.heap.size,7,none⟩=some (Sz a7 n7 c7):=bxc iE rfl
 have y8:WE.cell? ⟨w.heap.size,8,none⟩=some (Sz a8 n8 c8):=bxc iE rfl
 have y9:WE.cell? ⟨w.heap.size,9,none⟩=some (I O be):=bxc iE rfl
 have u7:(VV.alloc (.cells #[] 3)).cell? ⟨w.heap.size,7,none⟩=some (Sz a7 n7 c7):=by rw[← HWE.out];exact y7
 have hsE:=srcZ_later HS7.out (bV.trans (bE.mono bV.size))
 clear hVV hWE
 go_wp2_with (first | (refine wpList_store_mid rfl _ _ _ rfl w.heap.size 0 #[I O W,I O H,Sz (some ⟨gk,0,none⟩) n kc,I O X,I O Y,.bool wrp] rfl rfl HTH.out (by kernel_rfl) (by simp[Value.oneCell']) ?_;rw[← HVV.out]) | (at_builtin;rw[← HWE.out];refine wpList_append_srcZ rfl _ _ 22 rfl VV.heap.size 3 i1 (I O 0) 1 8 Tryd.underlying22 ji jz0 jz1 jz2 rfl (by decide) _ 0 [] rfl oE (Sz a7 n7 c7) n7 (al.map (Value.int .i64)) rfl ?c0 hsE ?c1 ?c3 ?c4 bE.size ?_))
 case c0=>(rw[List.length_map,HL.out.1]) <;> omega
 case c1=>intro u hu;simp at hu;obtain⟨x,_,rfl⟩:=hu;rfl
 case c3=>unfold maxLen;omega
 case c4=>omega
 intro v7 wA oA gA
 (try rw[Nat.zero_add] at oA)
 (try rw[List.nil_append] at oA)
 obtain⟨aA,cA,hvA⟩:=own_formV oA
 subst hvA
 have kA:Below VV.heap.size VV wA:=bE.grown gA bE.size (fun k e=>(oE.lt k e).1)
 clear oE gA hsE u7 y0 y1 y2 y3 y4 y5 y6 y7 y8 y9
 have zA:=kA.size
 have iA:=(kA.block _ (by omega)).trans hVb
 have rA:=(kA.block _ (by omega)).trans hVr
 have bA:=bV.trans (kA.mono bV.size)
 obtain⟨UA,hUA⟩:∃ U,U=wA.setCell ⟨w.heap.size,7,none⟩ (Sz aA n7 cA):=⟨_,rfl⟩
 have iU:UA.heap[w.heap.size]?=some (.cells #[I O W,I O H,Sz (some ⟨gk,0,none⟩) n kc,I O X,I O Y,.bool wrp,I O st,Sz aA n7 cA,Sz a8 n8 c8,I O be] 31 (0,0)):=by rw[hUA];exact box_set _ iA
 have rU:UA.heap[w.heap.size+1]?=some (.cells #[I O 0,I O 0,Sz none 0 0,I O 0,I O 0,.bool false,I O 0,Sz none 0 0,Sz none 0 0,I O 0] 31 (0,0)):=by rw[hUA,box_other _ (by omega)];exact rA
 have bU:Below w.heap.size w UA:=by rw[hUA];exact Below.setCell (p:=⟨w.heap.size,7,none⟩) bA (Nat.le_refl _) _
 have zU:wA.heap.size≤UA.heap.size:=by rw[hUA];exact(Below.setCell (p:=⟨w.heap.size,7,none⟩) (Below.refl w.heap.size wA) (Nat.le_refl _) _).size
 have kU:∀ g,W1.heap.size≤g→UA.heap[g]?=wA.heap[g]?:=fun g hg=>by rw[hUA,box_other _ (by omega)]
 obtain⟨WF,hWF⟩:∃ U,U=UA.alloc (.cells #[] 5):=⟨_,rfl⟩
 have bF5:Below UA.heap.size UA WF:=by rw[hWF];exact(Below.refl _ _).alloc (Nat.le_refl _) _
 have eU:UA.heap.size=wA.heap.size:=by rw[hUA];simp
 have oF5:WF.ownsRow UA.heap.size 5 1 (Sz (some ⟨wA.heap.size,0,none⟩) 0 0) 0 []:=by
   have h9:=World.ownsRow_lit (base:=UA.heap.size) (e:=5) (size:=1) UA #[] 0 (Nat.le_refl _) (Nat.zero_le _) rfl
   rw[hWF,← eU]
   exact h9
 have HUA:Hid (UA=_):=hUA
 have HWF:Hid (WF=_):=hWF
 have iF:=(bF5.block _ (by omega)).trans iU
 have f7:wA.frozen? ⟨w.heap.size,7,none⟩=false:=box_frozen iA
 have hsF:=srcZ_later HS8.out (bU.trans (bF5.mono bU.size))
 have x7:wA.cell? ⟨w.heap.size,7,none⟩=some (Sz a7 n7 c7):=bxc iA rfl
 have x8:wA.cell? ⟨w.heap.size,8,none⟩=some (Sz a8 n8 c8):=bxc iA rfl
 have y0:WF.cell? ⟨w.heap.size,0,none⟩=some (I O W):=bxc iF rfl
 have y1:WF.cell? ⟨w.heap.size,1,none⟩=some (I O H):=bxc iF rfl
 have y2:WF.cell? ⟨w.heap.size,2,none⟩=some (Sz (some ⟨gk,0,none⟩) n kc):=bxc iF rfl
 have y3:WF.cell? ⟨w.heap.size,3,none⟩=some (I O X):=bxc iF rfl
 have y4:WF.cell? ⟨w.heap.size,4,none⟩=some (I O Y):=bxc iF rfl
 have y5:WF.cell? ⟨w.heap.size,5,none⟩=some (.bool wrp):=bxc iF rfl
 have y6:WF.cell? ⟨w.heap.size,6,none⟩=some (I O st):=bxc iF rfl
 have y7:WF.cell? ⟨w.heap.size,7,none⟩=some (Sz aA n7 cA):=bxc iF rfl
 have y8:WF.cell? ⟨w.heap.size,8,none⟩=some (Sz a8 n8 c8):=bxc iF rfl
 have y9:WF.cell? ⟨w.heap.size,9,none⟩=some (I O be):=bxc iF rfl
 have u8:((wA.setCell ⟨w.heap.size,7,none⟩ (Sz aA n7 cA)).alloc (.cells #[] 5)).cell? ⟨w.heap.size,8,none⟩=some (Sz a8 n8 c8):=by rw[← HUA.out,← HWF.out];exact y8
 clear hUA hWF
 go_wp2_with (at_builtin;rw[← HUA.out,← HWF.out];refine wpList_append_srcZ rfl _ _ 25 rfl UA.heap.size 5 i5 (I .u8 0) 1 1 Tryd.underlying25 hi5 hz0 hz1 hz2 rfl (by decide) _ 0 [] rfl oF5 (Sz a8 n8 c8) n8 (pl.map (Value.int .u8)) rfl ?c0 hsF ?c1 ?c3 ?c4 bF5.size ?_)
 case c0=>(rw[List.length_map,HL.out.2.1]) <;> omega
 case c1=>intro u hu;simp at hu;obtain⟨x,_,rfl⟩:=hu;rfl
 case c3=>unfold maxLen;omega
 case c4=>omega
 intro v8 wB oB gB
 (try rw[Nat.zero_add] at oB)
 (try rw[List.nil_append] at oB)
 obtain⟨aB,cB,hvB⟩:=own_formV oB
 subst hvB
 have kB:Below UA.heap.size UA wB:=bF5.grown gB bF5.size (fun k e=>(oF5.lt k e).1)
 clear oF5 gB hsF x7 x8 u8 f7 y0 y1 y2 y3 y4 y5 y6 y7 y8 y9
 have zB:=kB.size
 have iB:=(kB.block _ (by omega)).trans iU
 have rB:=(kB.block _ (by omega)).trans rU
 have bB:=bU.trans (kB.mono bU.size)
 have hVr9:(wB.setCell ⟨w.heap.size,8,none⟩ (Sz aB n8 cB)).heap[w.heap.size+1]?=some (.cells #[I O 0,I O 0,Sz none 0 0,I O 0,I O 0,.bool false,I O 0,Sz none 0 0,Sz none 0 0,I O 0] 31 (0,0)):=by rw[box_other _ (by omega)];exact rB
 have HLD:(loadVar 31 ⟨w.heap.size+1,0,none⟩).run Tryd.prog ((wB.setCell ⟨w.heap.size,8,none⟩ (Sz aB n8 cB)).setRow (w.heap.size+1) #[I O W,I O H,Sz (some ⟨gk,0,none⟩) n kc,I O X,I O Y,.bool wrp,I O st,Sz aA n7 cA,Sz aB n8 cB,I O be])=.ok (.agg #[I O W,I O H,Sz (some ⟨gk,0,none⟩) n kc,I O X,I O Y,.bool wrp,I O st,Sz aA n7 cA,Sz aB n8 cB,I O be]) ((wB.setCell ⟨w.heap.size,8,none⟩ (Sz aB n8 cB)).setRow (w.heap.size+1) #[I O W,I O H,Sz (some ⟨gk,0,none⟩) n kc,I O X,I O Y,.bool wrp,I O st,Sz aA n7 cA,Sz aB n8 cB,I O be]):=run_loadVar_row _ _ _ _ _ _ _ (setRow_heap _ _ _ _ _ _ hVr9) Tryd.underlying31 rfl (by kernel_rfl)
 have bF:Below w.heap.size w ((wB.setCell ⟨w.heap.size,8,none⟩ (Sz aB n8 cB)).setRow (w.heap.size+1) #[I O W,I O H,Sz (some ⟨gk,0,none⟩) n kc,I O X,I O Y,.bool wrp,I O st,Sz aA n7 cA,Sz aB n8 cB,I O be]):=below_setRow (Below.setCell (p:=⟨w.heap.size,8,none⟩) bB (Nat.le_refl _) _) (Nat.le_add_right _ 1) _
 have hF:∀ g,W1.heap.size≤g→((wB.setCell ⟨w.heap.size,8,none⟩ (Sz aB n8 cB)).setRow (w.heap.size+1) #[I O W,I O H,Sz (some ⟨gk,0,none⟩) n kc,I O X,I O Y,.bool wrp,I O st,Sz aA n7 cA,Sz aB n8 cB,I O be]).heap[g]?=wB.heap[g]?:=fun g hg=>by rw[setRow_other _ (w.heap.size+1) g _ (by omega),box_other _ (by omega)]
 have o2:=(own_ints HL.out.2.2.1 og).keep (w':=(wB.setCell ⟨w.heap.size,8,none⟩ (Sz aB n8 cB)).setRow (w.heap.size+1) #[I O W,I O H,Sz (some ⟨gk,0,none⟩) n kc,I O X,I O Y,.bool wrp,I O st,Sz aA n7 cA,Sz aB n8 cB,I O be]) fun g hg=>by
   have hq:=(own_ints HL.out.2.2.1 og).lt g hg
   rw[hF g hq.1,kB.block g (by omega),kU g hq.1,kA.block g (by omega),kV g hq.1]
 obtain⟨F7,o7⟩:=rowI_ownS HL.out.1 oA
 have o7:=o7.keep (w':=(wB.setCell ⟨w.heap.size,8,none⟩ (Sz aB n8 cB)).setRow (w.heap.size+1) #[I O W,I O H,Sz (some ⟨gk,0,none⟩) n kc,I O X,I O Y,.bool wrp,I O st,Sz aA n7 cA,Sz aB n8 cB,I O be]) fun g hg=>by
   have hq:=o7.lt g hg
   rw[hF g (by omega),kB.block g (by omega),kU g (by omega)]
 obtain⟨F8,o8,_⟩:=rowB_own HL.out.2.1 (fun i=>HL.out.2.2.2 i) oB
 have o8:=o8.keep (w':=(wB.setCell ⟨w.heap.size,8,none⟩ (Sz aB n8 cB)).setRow (w.heap.size+1) #[I O W,I O H,Sz (some ⟨gk,0,none⟩) n kc,I O X,I O Y,.bool wrp,I O st,Sz aA n7 cA,Sz aB n8 cB,I O be]) fun g hg=>by
   have hq:=o8.lt g hg
   rw[hF g (by omega)]
 have hs1:=bW1.size
 have HF:Hid (Below w.heap.size w ((wB.setCell ⟨w.heap.size,8,none⟩ (Sz aB n8 cB)).setRow (w.heap.size+1) #[I O W,I O H,Sz (some ⟨gk,0,none⟩) n kc,I O X,I O Y,.bool wrp,I O st,Sz aA n7 cA,Sz aB n8 cB,I O be])∧RO w ((wB.setCell ⟨w.heap.size,8,none⟩ (Sz aB n8 cB)).setRow (w.heap.size+1) #[I O W,I O H,Sz (some ⟨gk,0,none⟩) n kc,I O X,I O Y,.bool wrp,I O st,Sz aA n7 cA,Sz aB n8 cB,I O be]) [I O W,I O H,Sz (some ⟨gk,0,none⟩) n kc,I O X,I O Y,.bool wrp,I O st,Sz aA n7 cA,Sz aB n8 cB,I O be] (((W,H,zs,X,Y,wrp,()),st,al,pl,be,()):TD)):=
   ⟨bF,fun w'' hk=>reads_Vt (d:=(((W,H,zs,X,Y,wrp,()),st,al,pl,be,()):TD)) (own_read o2 hs1 hk) (own_read o7 (by omega) hk) (own_read o8 (by omega) hk)⟩
 have f8:wB.frozen? ⟨w.heap.size,8,none⟩=false:=box_frozen iB
 have q0:wB.cell? ⟨w.heap.size,0,none⟩=some (I O W):=bxc iB rfl
 have q1:wB.cell? ⟨w.heap.size,1,none⟩=some (I O H):=bxc iB rfl
 have q2:wB.cell? ⟨w.heap.size,2,none⟩=some (Sz (some ⟨gk,0,none⟩) n kc):=bxc iB rfl
 have q3:wB.cell? ⟨w.heap.size,3,none⟩=some (I O X):=bxc iB rfl
 have q4:wB.cell? ⟨w.heap.size,4,none⟩=some (I O Y):=bxc iB rfl
 have q5:wB.cell? ⟨w.heap.size,5,none⟩=some (.bool wrp):=bxc iB rfl
 have q6:wB.cell? ⟨w.heap.size,6,none⟩=some (I O st):=bxc iB rfl
 have q7:wB.cell? ⟨w.heap.size,7,none⟩=some (Sz aA n7 cA):=bxc iB rfl
 have q8:wB.cell? ⟨w.heap.size,8,none⟩=some (Sz a8 n8 c8):=bxc iB rfl
 have q9:wB.cell? ⟨w.heap.size,9,none⟩=some (I O be):=bxc iB rfl
 clear bF hF o2 o7 o8 oA oB og kA kB kU kV iA rA iU rU iF iB rB bB bU bA bV b2 hb2 bE bF5 hVb hVr hA1 hZ1 hA2 hZ2
 go_wp2_with (refine wpList_store_row rfl _ _ _ rfl _ _ rfl rfl _ _ hVr9 (by kernel_rfl) rfl (by simp[Value.oneCell']) ?_)
 (try simp only[Exit.inBlock,Exit.then])
 refine bodyPost_ret (by simp[results,Tryd.results27,asAddr,Act.put,HLD];try rfl) rfl ?_
 exact⟨[I O W,I O H,Sz (some ⟨gk,0,none⟩) n kc,I O X,I O Y,.bool wrp,I O st,Sz aA n7 cA,Sz aB n8 cB,I O be],rfl,HF.out.2,HF.out.1⟩
end Go.Proofs.YthodinpflcbklaaDoor
namespace Go.Proofs.YthodinpflcbklaaDoor
open Go.RowKit
set_option maxRecDepth 100000
def oneB(b:Int):List Int:=if 0≤b∧b≤255 then [b] else []
def byteA(d:TD)(b:Int):TD:=feedA d (oneB b)
theorem implFeed_any(W H X Y st be:Int)(wrp:Bool)(a2 a7 a8 bb:Option Addr)(n c2 n7 c7 n8 c8 m cm:Nat)(zs al pl l:List Int)(w:World)(hT:Tabs w)(hg:Reads (.sl .int) w [Sz a2 n c2] zs)(ha:Reads (.sl .int) w [Sz a7 n7 c7] al)(hp:Reads (.sl .u8) w [Sz a8 n8 c8] pl)(hb:Reads (.sl .u8) w [Sz bb m cm] l)(h07:a7=none→n7=0∧c7=0)(h08:a8=none→n8=0∧c8=0)(hm:m≤1048576)(hn8:n8≤1048576):
   Calls Tryd.prog 15 #[.agg #[I O W,I O H,Sz a2 n c2,I O X,I O Y,.bool wrp,I O st,Sz a7 n7 c7,Sz a8 n8 c8,I O be],Sz bb m cm] w fun e w'=>∃ o F,e=.returned (.agg o.toArray)∧Own shVt w' w.heap.size o (feedA (((W,H,zs,X,Y,wrp,()),st,al,pl,be,()):TD) l) F∧F.Nodup∧Below w.heap.size w w':=by
 cases hv:vtB (((W,H,zs,X,Y,wrp,()),st,al,pl,be,()):TD) with
 | true=>exact implFeed_yes W H X Y st be wrp a2 a7 a8 bb n c2 n7 c7 n8 c8 m cm zs al pl l w hT hg ha hp hb h07 h08 hm hn8 hv
 | false=>exact implFeed_no W H X Y st be wrp a2 a7 a8 bb n c2 n7 c7 n8 c8 m cm zs al pl l w hT hg ha hp hb h07 h08 hm hn8 hv
theorem implByte_lo(W H X Y st be:Int)(wrp:Bool)(a2 a7 a8:Option Addr)(n c2 n7 c7 n8 c8:Nat)(zs al pl:List Int)(b:Int)(w:World)(hT:Tabs w)(hg:Reads (.sl .int) w [Sz a2 n c2] zs)(ha:Reads (.sl .int) w [Sz a7 n7 c7] al)(hp:Reads (.sl .u8) w [Sz a8 n8 c8] pl)(h07:a7=none→n7=0∧c7=0)(h08:a8=none→n8=0∧c8=0)(hn8:n8≤1048576)(hr:¬ (0≤b∧b≤255))(h1:b < 0):
   Calls Tryd.prog 9 #[.agg #[I O W,I O H,Sz a2 n c2,I O X,I O Y,.bool wrp,I O st,Sz a7 n7 c7,Sz a8 n8 c8,I O be],I O b] w fun e w'=>∃ o F,e=.returned (.agg o.toArray)∧Own shVt w' w.heap.size o (byteA (((W,H,zs,X,Y,wrp,()),st,al,pl,be,()):TD) b) F∧F.Nodup∧Below w.heap.size w w':=by
 obtain⟨W1,hW1,bW1,zW1,hA1,hZ1,HBX⟩:=mpro1 W H X Y st be wrp a2 a7 a8 n c2 n7 c7 n8 c8 w
 have HB1:Hid (Below w.heap.size w W1∧W1.heap.size=w.heap.size+2):=⟨bW1,zW1⟩
 have HW:Hid (W1=_):=hW1
 obtain⟨D,hD⟩:∃ D:TD,D=byteA (((W,H,zs,X,Y,wrp,()),st,al,pl,be,()):TD) b:=⟨_,rfl⟩
 have hD':D=feedA (((W,H,zs,X,Y,wrp,()),st,al,pl,be,()):TD) []:=by rw[hD];unfold byteA oneB;rw[if_neg hr]
 have QF:Hid (Calls Tryd.prog 15 #[.agg #[I O W,I O H,Sz a2 n c2,I O X,I O Y,.bool wrp,I O st,Sz a7 n7 c7,Sz a8 n8 c8,I O be],Sz none 0 0] W1 fun e w'=>∃ o F,e=.returned (.agg o.toArray)∧Own shVt w' W1.heap.size o D F∧F.Nodup∧Below W1.heap.size W1 w'):=by
   have h9:=implFeed_any W H X Y st be wrp a2 a7 a8 none n c2 n7 c7 n8 c8 0 0 zs al pl [] W1 (hT.later bW1) (hg.later bW1) (ha.later bW1) (hp.later bW1) (reads_mk (zs:=[]) ⟨by simp,.inl rfl⟩ rfl (Nat.le_refl _) (Nat.zero_le _)) h07 h08 (by omega) hn8
   rw[← hD'] at h9
   exact h9
 clear hD'
 obtain⟨g0,e0⟩:∃ x:Int,x=D.1.1:=⟨_,rfl⟩
 obtain⟨g1,e1⟩:∃ x:Int,x=D.1.2.1:=⟨_,rfl⟩
 obtain⟨g3,e3⟩:∃ x:Int,x=D.1.2.2.2.1:=⟨_,rfl⟩
 obtain⟨g4,e4⟩:∃ x:Int,x=D.1.2.2.2.2.1:=⟨_,rfl⟩
 obtain⟨g5,e5⟩:∃ x:Bool,x=D.1.2.2.2.2.2.1:=⟨_,rfl⟩
 obtain⟨g6,e6⟩:∃ x:Int,x=D.2.1:=⟨_,rfl⟩
 obtain⟨g9,e9⟩:∃ x:Int,x=D.2.2.2.2.1:=⟨_,rfl⟩
 have HE:Hid (g0=D.1.1∧g1=D.1.2.1∧g3=D.1.2.2.2.1∧g4=D.1.2.2.2.2.1∧g5=D.1.2.2.2.2.2.1∧g6=D.2.1∧g9=D.2.2.2.2.1):=⟨e0,e1,e3,e4,e5,e6,e9⟩
 have HD:Hid (D=byteA (((W,H,zs,X,Y,wrp,()),st,al,pl,be,()):TD) b):=hD
 have d1:decide (b < 0)=true:=decide_eq_true h1
 clear hr h1
 clear hD e0 e1 e3 e4 e5 e6 e9 hT hg ha hp h07 h08 hW1 bW1 zW1 hA1 hZ1
 have i_1:=HBX.out _ (Below.refl _ W1)
 have y0:W1.cell? ⟨w.heap.size,0,none⟩=some (I O W):=bxc i_1.1 rfl
 have y1:W1.cell? ⟨w.heap.size,1,none⟩=some (I O H):=bxc i_1.1 rfl
 have y2:W1.cell? ⟨w.heap.size,2,none⟩=some (Sz a2 n c2):=bxc i_1.1 rfl
 have y3:W1.cell? ⟨w.heap.size,3,none⟩=some (I O X):=bxc i_1.1 rfl
 have y4:W1.cell? ⟨w.heap.size,4,none⟩=some (I O Y):=bxc i_1.1 rfl
 have y5:W1.cell? ⟨w.heap.size,5,none⟩=some (.bool wrp):=bxc i_1.1 rfl
 have y6:W1.cell? ⟨w.heap.size,6,none⟩=some (I O st):=bxc i_1.1 rfl
 have y7:W1.cell? ⟨w.heap.size,7,none⟩=some (Sz a7 n7 c7):=bxc i_1.1 rfl
 have y8:W1.cell? ⟨w.heap.size,8,none⟩=some (Sz a8 n8 c8):=bxc i_1.1 rfl
 have y9:W1.cell? ⟨w.heap.size,9,none⟩=some (I O be):=bxc i_1.1 rfl
 go_enter Tryd.func9,Tryd.ntmps9
 go_wp2_with fail
 rw[← HW.out]
 refine QF.out.mono ?_
 rintro e w2 ⟨o,F,rfl,ho,hnd,hb2⟩
 obtain⟨b2,m2,k2,F0,b7,m7,k7,F2,b8,m8,k8,F3,hcs,_⟩:=openO_Vt ho
 rw[← HE.out.1,← HE.out.2.1,← HE.out.2.2.1,← HE.out.2.2.2.1,← HE.out.2.2.2.2.1,← HE.out.2.2.2.2.2.1,← HE.out.2.2.2.2.2.2] at hcs
 subst hcs
 have i2:=HBX.out _ hb2
 have bw2:=HB1.out.1.trans (hb2.mono HB1.out.1.size)
 have HLD:(loadVar 31 ⟨w.heap.size+1,0,none⟩).run Tryd.prog (w2.setRow (w.heap.size+1) #[I O g0,I O g1,Sz b2 m2 k2,I O g3,I O g4,.bool g5,I O g6,Sz b7 m7 k7,Sz b8 m8 k8,I O g9])=.ok (.agg #[I O g0,I O g1,Sz b2 m2 k2,I O g3,I O g4,.bool g5,I O g6,Sz b7 m7 k7,Sz b8 m8 k8,I O g9]) (w2.setRow (w.heap.size+1) #[I O g0,I O g1,Sz b2 m2 k2,I O g3,I O g4,.bool g5,I O g6,Sz b7 m7 k7,Sz b8 m8 k8,I O g9]):=run_loadVar_row _ _ _ _ _ _ _ (setRow_heap _ _ _ _ _ _ i2.2) Tryd.underlying31 rfl (by kernel_rfl)
 have HO:Hid (Below w.heap.size w (w2.setRow (w.heap.size+1) #[I O g0,I O g1,Sz b2 m2 k2,I O g3,I O g4,.bool g5,I O g6,Sz b7 m7 k7,Sz b8 m8 k8,I O g9])∧Own shVt (w2.setRow (w.heap.size+1) #[I O g0,I O g1,Sz b2 m2 k2,I O g3,I O g4,.bool g5,I O g6,Sz b7 m7 k7,Sz b8 m8 k8,I O g9]) w.heap.size [I O g0,I O g1,Sz b2 m2 k2,I O g3,I O g4,.bool g5,I O g6,Sz b7 m7 k7,Sz b8 m8 k8,I O g9] D F∧F.Nodup):=
   ⟨below_setRow bw2 (Nat.le_add_right _ 1) _,(own_setRowLo ho _ (by have:=HB1.out.2;omega)).base (by have:=HB1.out.2;omega),hnd⟩
 clear bw2 ho hnd hb2
 go_wp2_with (refine wpList_store_row rfl _ _ _ rfl _ _ rfl rfl _ _ i2.2 (by kernel_rfl) rfl (by simp[Value.oneCell']) ?_)
 (try simp only[Exit.inBlock,Exit.then])
 refine bodyPost_ret (by simp[results,Tryd.results9,asAddr,Act.put,HLD];try rfl) rfl ?_
 refine⟨[I O g0,I O g1,Sz b2 m2 k2,I O g3,I O g4,.bool g5,I O g6,Sz b7 m7 k7,Sz b8 m8 k8,I O g9],F,rfl,?_,HO.out.2.2,HO.out.1⟩
 rw[← HD.out]
 exact HO.out.2.1
theorem implByte_hi(W H X Y st be:Int)(wrp:Bool)(a2 a7 a8:Option Addr)(n c2 n7 c7 n8 c8:Nat)(zs al pl:List Int)(b:Int)(w:World)(hT:Tabs w)(hg:Reads (.sl .int) w [Sz a2 n c2] zs)(ha:Reads (.sl .int) w [Sz a7 n7 c7] al)(hp:Reads (.sl .u8) w [Sz a8 n8 c8] pl)(h07:a7=none→n7=0∧c7=0)(h08:a8=none→n8=0∧c8=0)(hn8:n8≤1048576)(hr:¬ (0≤b∧b≤255))(h1:¬ b < 0):
   Calls Tryd.prog 9 #[.agg #[I O W,I O H,Sz a2 n c2,I O X,I O Y,.bool wrp,I O st,Sz a7 n7 c7,Sz a8 n8 c8,I O be],I O b] w fun e w'=>∃ o F,e=.returned (.agg o.toArray)∧Own shVt w' w.heap.size o (byteA (((W,H,zs,X,Y,wrp,()),st,al,pl,be,()):TD) b) F∧F.Nodup∧Below w.heap.size w w':=by
 obtain⟨W1,hW1,bW1,zW1,hA1,hZ1,HBX⟩:=mpro1 W H X Y st be wrp a2 a7 a8 n c2 n7 c7 n8 c8 w
 have HB1:Hid (Below w.heap.size w W1∧W1.heap.size=w.heap.size+2):=⟨bW1,zW1⟩
 have HW:Hid (W1=_):=hW1
 obtain⟨D,hD⟩:∃ D:TD,D=byteA (((W,H,zs,X,Y,wrp,()),st,al,pl,be,()):TD) b:=⟨_,rfl⟩
 have hD':D=feedA (((W,H,zs,X,Y,wrp,()),st,al,pl,be,()):TD) []:=by rw[hD];unfold byteA oneB;rw[if_neg hr]
 have QF:Hid (Calls Tryd.prog 15 #[.agg #[I O W,I O H,Sz a2 n c2,I O X,I O Y,.bool wrp,I O st,Sz a7 n7 c7,Sz a8 n8 c8,I O be],Sz none 0 0] W1 fun e w'=>∃ o F,e=.returned (.agg o.toArray)∧Own shVt w' W1.heap.size o D F∧F.Nodup∧Below W1.heap.size W1 w'):=by
   have h9:=implFeed_any W H X Y st be wrp a2 a7 a8 none n c2 n7 c7 n8 c8 0 0 zs al pl [] W1 (hT.later bW1) (hg.later bW1) (ha.later bW1) (hp.later bW1) (reads_mk (zs:=[]) ⟨by simp,.inl rfl⟩ rfl (Nat.le_refl _) (Nat.zero_le _)) h07 h08 (by omega) hn8
   rw[← hD'] at h9
   exact h9
 clear hD'
 obtain⟨g0,e0⟩:∃ x:Int,x=D.1.1:=⟨_,rfl⟩
 obtain⟨g1,e1⟩:∃ x:Int,x=D.1.2.1:=⟨_,rfl⟩
 obtain⟨g3,e3⟩:∃ x:Int,x=D.1.2.2.2.1:=⟨_,rfl⟩
 obtain⟨g4,e4⟩:∃ x:Int,x=D.1.2.2.2.2.1:=⟨_,rfl⟩
 obtain⟨g5,e5⟩:∃ x:Bool,x=D.1.2.2.2.2.2.1:=⟨_,rfl⟩
 obtain⟨g6,e6⟩:∃ x:Int,x=D.2.1:=⟨_,rfl⟩
 obtain⟨g9,e9⟩:∃ x:Int,x=D.2.2.2.2.1:=⟨_,rfl⟩
 have HE:Hid (g0=D.1.1∧g1=D.1.2.1∧g3=D.1.2.2.2.1∧g4=D.1.2.2.2.2.1∧g5=D.1.2.2.2.2.2.1∧g6=D.2.1∧g9=D.2.2.2.2.1):=⟨e0,e1,e3,e4,e5,e6,e9⟩
 have HD:Hid (D=byteA (((W,H,zs,X,Y,wrp,()),st,al,pl,be,()):TD) b):=hD
 have d1:decide (b < 0)=false:=decide_eq_false h1
 have d2:decide ((255:Int) < b)=true:=decide_eq_true (by omega)
 clear hr h1
 clear hD e0 e1 e3 e4 e5 e6 e9 hT hg ha hp h07 h08 hW1 bW1 zW1 hA1 hZ1
 have i_1:=HBX.out _ (Below.refl _ W1)
 have y0:W1.cell? ⟨w.heap.size,0,none⟩=some (I O W):=bxc i_1.1 rfl
 have y1:W1.cell? ⟨w.heap.size,1,none⟩=some (I O H):=bxc i_1.1 rfl
 have y2:W1.cell? ⟨w.heap.size,2,none⟩=some (Sz a2 n c2):=bxc i_1.1 rfl
 have y3:W1.cell? ⟨w.heap.size,3,none⟩=some (I O X):=bxc i_1.1 rfl
 have y4:W1.cell? ⟨w.heap.size,4,none⟩=some (I O Y):=bxc i_1.1 rfl
 have y5:W1.cell? ⟨w.heap.size,5,none⟩=some (.bool wrp):=bxc i_1.1 rfl
 have y6:W1.cell? ⟨w.heap.size,6,none⟩=some (I O st):=bxc i_1.1 rfl
 have y7:W1.cell? ⟨w.heap.size,7,none⟩=some (Sz a7 n7 c7):=bxc i_1.1 rfl
 have y8:W1.cell? ⟨w.heap.size,8,none⟩=some (Sz a8 n8 c8):=bxc i_1.1 rfl
 have y9:W1.cell? ⟨w.heap.size,9,none⟩=some (I O be):=bxc i_1.1 rfl
 go_enter Tryd.func9,Tryd.ntmps9
 go_wp2_with fail
 rw[← HW.out]
 refine QF.out.mono ?_
 rintro e w2 ⟨o,F,rfl,ho,hnd,hb2⟩
 obtain⟨b2,m2,k2,F0,b7,m7,k7,F2,b8,m8,k8,F3,hcs,_⟩:=openO_Vt ho
 rw[← HE.out.1,← HE.out.2.1,← HE.out.2.2.1,← HE.out.2.2.2.1,← HE.out.2.2.2.2.1,← HE.out.2.2.2.2.2.1,← HE.out.2.2.2.2.2.2] at hcs
 subst hcs
 have i2:=HBX.out _ hb2
 have bw2:=HB1.out.1.trans (hb2.mono HB1.out.1.size)
 have HLD:(loadVar 31 ⟨w.heap.size+1,0,none⟩).run Tryd.prog (w2.setRow (w.heap.size+1) #[I O g0,I O g1,Sz b2 m2 k2,I O g3,I O g4,.bool g5,I O g6,Sz b7 m7 k7,Sz b8 m8 k8,I O g9])=.ok (.agg #[I O g0,I O g1,Sz b2 m2 k2,I O g3,I O g4,.bool g5,I O g6,Sz b7 m7 k7,Sz b8 m8 k8,I O g9]) (w2.setRow (w.heap.size+1) #[I O g0,I O g1,Sz b2 m2 k2,I O g3,I O g4,.bool g5,I O g6,Sz b7 m7 k7,Sz b8 m8 k8,I O g9]):=run_loadVar_row _ _ _ _ _ _ _ (setRow_heap _ _ _ _ _ _ i2.2) Tryd.underlying31 rfl (by kernel_rfl)
 have HO:Hid (Below w.heap.size w (w2.setRow (w.heap.size+1) #[I O g0,I O g1,Sz b2 m2 k2,I O g3,I O g4,.bool g5,I O g6,Sz b7 m7 k7,Sz b8 m8 k8,I O g9])∧Own shVt (w2.setRow (w.heap.size+1) #[I O g0,I O g1,Sz b2 m2 k2,I O g3,I O g4,.bool g5,I O g6,Sz b7 m7 k7,Sz b8 m8 k8,I O g9]) w.heap.size [I O g0,I O g1,Sz b2 m2 k2,I O g3,I O g4,.bool g5,I O g6,Sz b7 m7 k7,Sz b8 m8 k8,I O g9] D F∧F.Nodup):=
   ⟨below_setRow bw2 (Nat.le_add_right _ 1) _,(own_setRowLo ho _ (by have:=HB1.out.2;omega)).base (by have:=HB1.out.2;omega),hnd⟩
 clear bw2 ho hnd hb2
 go_wp2_with (refine wpList_store_row rfl _ _ _ rfl _ _ rfl rfl _ _ i2.2 (by kernel_rfl) rfl (by simp[Value.oneCell']) ?_)
 (try simp only[Exit.inBlock,Exit.then])
 refine bodyPost_ret (by simp[results,Tryd.results9,asAddr,Act.put,HLD];try rfl) rfl ?_
 refine⟨[I O g0,I O g1,Sz b2 m2 k2,I O g3,I O g4,.bool g5,I O g6,Sz b7 m7 k7,Sz b8 m8 k8,I O g9],F,rfl,?_,HO.out.2.2,HO.out.1⟩
 rw[← HD.out]
 exact HO.out.2.1
theorem implByte_in(W H X Y st be:Int)(wrp:Bool)(a2 a7 a8:Option Addr)(n c2 n7 c7 n8 c8:Nat)(zs al pl:List Int)(b:Int)(w:World)(hT:Tabs w)(hg:Reads (.sl .int) w [Sz a2 n c2] zs)(ha:Reads (.sl .int) w [Sz a7 n7 c7] al)(hp:Reads (.sl .u8) w [Sz a8 n8 c8] pl)(h07:a7=none→n7=0∧c7=0)(h08:a8=none→n8=0∧c8=0)(hn8:n8≤1048576)(hr:0≤b∧b≤255):
   Calls Tryd.prog 9 #[.agg #[I O W,I O H,Sz a2 n c2,I O X,I O Y,.bool wrp,I O st,Sz a7 n7 c7,Sz a8 n8 c8,I O be],I O b] w fun e w'=>∃ o F,e=.returned (.agg o.toArray)∧Own shVt w' w.heap.size o (byteA (((W,H,zs,X,Y,wrp,()),st,al,pl,be,()):TD) b) F∧F.Nodup∧Below w.heap.size w w':=by
 obtain⟨W1,hW1,bW1,zW1,hA1,hZ1,HBX⟩:=mpro1 W H X Y st be wrp a2 a7 a8 n c2 n7 c7 n8 c8 w
 have HB1:Hid (Below w.heap.size w W1∧W1.heap.size=w.heap.size+2):=⟨bW1,zW1⟩
 have HW:Hid (W1=_):=hW1
 obtain⟨D,hD⟩:∃ D:TD,D=byteA (((W,H,zs,X,Y,wrp,()),st,al,pl,be,()):TD) b:=⟨_,rfl⟩
 have hD':D=feedA (((W,H,zs,X,Y,wrp,()),st,al,pl,be,()):TD) [b]:=by rw[hD];unfold byteA oneB;rw[if_pos hr]
 have bl1:Below W1.heap.size W1 (W1.alloc (.cells #[I .u8 b] 5)):=(Below.refl _ _).alloc (Nat.le_refl _) _
 have bw1:Below w.heap.size w (W1.alloc (.cells #[I .u8 b] 5)):=bW1.trans (bl1.mono bW1.size)
 have hrb:Reads (.sl .u8) (W1.alloc (.cells #[I .u8 b] 5)) [Sz (some ⟨W1.heap.size,0,none⟩) 1 1] [b]:=by
   refine reads_mk ⟨fun i=>?_,.inr ⟨W1.heap.size,0,rfl,(Array.getElem?_eq_some_iff.1 (heap_alloc_new W1 (.cells #[I .u8 b] 5))).1,fun i hi=>?_⟩⟩ rfl (Nat.le_refl _) (by unfold maxLen;omega)
   · cases i with
     | zero=>exact hr
     | succ i=>exact⟨Int.le_refl 0,by show (0:Int)≤255;omega⟩
   · have e:i=0:=by have h9:i < 1:=hi;omega
     subst e
     exact bxc (j:=0) (heap_alloc_new W1 _) rfl
 have QF:Hid (Calls Tryd.prog 15 #[.agg #[I O W,I O H,Sz a2 n c2,I O X,I O Y,.bool wrp,I O st,Sz a7 n7 c7,Sz a8 n8 c8,I O be],Sz (some ⟨w.heap.size+1+1,0,none⟩) 1 1] (W1.alloc (.cells #[I .u8 b] 5)) fun e w'=>∃ o F,e=.returned (.agg o.toArray)∧Own shVt w' W1.heap.size o D F∧F.Nodup∧Below W1.heap.size W1 w'):=by
   have h9:=implFeed_any W H X Y st be wrp a2 a7 a8 (some ⟨W1.heap.size,0,none⟩) n c2 n7 c7 n8 c8 1 1 zs al pl [b] (W1.alloc (.cells #[I .u8 b] 5)) (hT.later bw1) (hg.later bw1) (ha.later bw1) (hp.later bw1) hrb h07 h08 (by omega) hn8
   rw[← hD'] at h9
   have e2:w.heap.size+1+1=W1.heap.size:=by omega
   rw[e2]
   exact h9.mono fun e w' ⟨o,F,q1,q2,q3,q4⟩=>⟨o,F,q1,q2.base bl1.size,q3,bl1.trans (q4.mono bl1.size)⟩
 have wb:IntKind.u8.wrap b=b:=by simp[IntKind.wrap,IntKind.bits,IntKind.signed];omega
 clear hD' bl1 bw1 hrb
 obtain⟨g0,e0⟩:∃ x:Int,x=D.1.1:=⟨_,rfl⟩
 obtain⟨g1,e1⟩:∃ x:Int,x=D.1.2.1:=⟨_,rfl⟩
 obtain⟨g3,e3⟩:∃ x:Int,x=D.1.2.2.2.1:=⟨_,rfl⟩
 obtain⟨g4,e4⟩:∃ x:Int,x=D.1.2.2.2.2.1:=⟨_,rfl⟩
 obtain⟨g5,e5⟩:∃ x:Bool,x=D.1.2.2.2.2.2.1:=⟨_,rfl⟩
 obtain⟨g6,e6⟩:∃ x:Int,x=D.2.1:=⟨_,rfl⟩
 obtain⟨g9,e9⟩:∃ x:Int,x=D.2.2.2.2.1:=⟨_,rfl⟩
 have HE:Hid (g0=D.1.1∧g1=D.1.2.1∧g3=D.1.2.2.2.1∧g4=D.1.2.2.2.2.1∧g5=D.1.2.2.2.2.2.1∧g6=D.2.1∧g9=D.2.2.2.2.1):=⟨e0,e1,e3,e4,e5,e6,e9⟩
 have HD:Hid (D=byteA (((W,H,zs,X,Y,wrp,()),st,al,pl,be,()):TD) b):=hD
 have d1:decide (b < 0)=false:=decide_eq_false (by omega)
 have d2:decide ((255:Int) < b)=false:=decide_eq_false (by omega)
 clear hr
 clear hD e0 e1 e3 e4 e5 e6 e9 hT hg ha hp h07 h08 hW1 bW1 zW1 hA1 hZ1
 have i_1:=HBX.out _ (Below.refl _ W1)
 have y0:W1.cell? ⟨w.heap.size,0,none⟩=some (I O W):=bxc i_1.1 rfl
 have y1:W1.cell? ⟨w.heap.size,1,none⟩=some (I O H):=bxc i_1.1 rfl
 have y2:W1.cell? ⟨w.heap.size,2,none⟩=some (Sz a2 n c2):=bxc i_1.1 rfl
 have y3:W1.cell? ⟨w.heap.size,3,none⟩=some (I O X):=bxc i_1.1 rfl
 have y4:W1.cell? ⟨w.heap.size,4,none⟩=some (I O Y):=bxc i_1.1 rfl
 have y5:W1.cell? ⟨w.heap.size,5,none⟩=some (.bool wrp):=bxc i_1.1 rfl
 have y6:W1.cell? ⟨w.heap.size,6,none⟩=some (I O st):=bxc i_1.1 rfl
 have y7:W1.cell? ⟨w.heap.size,7,none⟩=some (Sz a7 n7 c7):=bxc i_1.1 rfl
 have y8:W1.cell? ⟨w.heap.size,8,none⟩=some (Sz a8 n8 c8):=bxc i_1.1 rfl
 have y9:W1.cell? ⟨w.heap.size,9,none⟩=some (I O be):=bxc i_1.1 rfl
 go_enter Tryd.func9,Tryd.ntmps9
 go_wp2_with fail
 rw[← HW.out]
 refine QF.out.mono ?_
 rintro e w2 ⟨o,F,rfl,ho,hnd,hb2⟩
 obtain⟨b2,m2,k2,F0,b7,m7,k7,F2,b8,m8,k8,F3,hcs,_⟩:=openO_Vt ho
 rw[← HE.out.1,← HE.out.2.1,← HE.out.2.2.1,← HE.out.2.2.2.1,← HE.out.2.2.2.2.1,← HE.out.2.2.2.2.2.1,← HE.out.2.2.2.2.2.2] at hcs
 subst hcs
 have i2:=HBX.out _ hb2
 have bw2:=HB1.out.1.trans (hb2.mono HB1.out.1.size)
 have HLD:(loadVar 31 ⟨w.heap.size+1,0,none⟩).run Tryd.prog (w2.setRow (w.heap.size+1) #[I O g0,I O g1,Sz b2 m2 k2,I O g3,I O g4,.bool g5,I O g6,Sz b7 m7 k7,Sz b8 m8 k8,I O g9])=.ok (.agg #[I O g0,I O g1,Sz b2 m2 k2,I O g3,I O g4,.bool g5,I O g6,Sz b7 m7 k7,Sz b8 m8 k8,I O g9]) (w2.setRow (w.heap.size+1) #[I O g0,I O g1,Sz b2 m2 k2,I O g3,I O g4,.bool g5,I O g6,Sz b7 m7 k7,Sz b8 m8 k8,I O g9]):=run_loadVar_row _ _ _ _ _ _ _ (setRow_heap _ _ _ _ _ _ i2.2) Tryd.underlying31 rfl (by kernel_rfl)
 have HO:Hid (Below w.heap.size w (w2.setRow (w.heap.size+1) #[I O g0,I O g1,Sz b2 m2 k2,I O g3,I O g4,.bool g5,I O g6,Sz b7 m7 k7,Sz b8 m8 k8,I O g9])∧Own shVt (w2.setRow (w.heap.size+1) #[I O g0,I O g1,Sz b2 m2 k2,I O g3,I O g4,.bool g5,I O g6,Sz b7 m7 k7,Sz b8 m8 k8,I O g9]) w.heap.size [I O g0,I O g1,Sz b2 m2 k2,I O g3,I O g4,.bool g5,I O g6,Sz b7 m7 k7,Sz b8 m8 k8,I O g9] D F∧F.Nodup):=
   ⟨below_setRow bw2 (Nat.le_add_right _ 1) _,(own_setRowLo ho _ (by have:=HB1.out.2;omega)).base (by have:=HB1.out.2;omega),hnd⟩
 clear bw2 ho hnd hb2
 go_wp2_with (refine wpList_store_row rfl _ _ _ rfl _ _ rfl rfl _ _ i2.2 (by kernel_rfl) rfl (by simp[Value.oneCell']) ?_)
 (try simp only[Exit.inBlock,Exit.then])
 refine bodyPost_ret (by simp[results,Tryd.results9,asAddr,Act.put,HLD];try rfl) rfl ?_
 refine⟨[I O g0,I O g1,Sz b2 m2 k2,I O g3,I O g4,.bool g5,I O g6,Sz b7 m7 k7,Sz b8 m8 k8,I O g9],F,rfl,?_,HO.out.2.2,HO.out.1⟩
 rw[← HD.out]
 exact HO.out.2.1
theorem implByte_any(W H X Y st be:Int)(wrp:Bool)(a2 a7 a8:Option Addr)(n c2 n7 c7 n8 c8:Nat)(zs al pl:List Int)(b:Int)(w:World)(hT:Tabs w)(hg:Reads (.sl .int) w [Sz a2 n c2] zs)(ha:Reads (.sl .int) w [Sz a7 n7 c7] al)(hp:Reads (.sl .u8) w [Sz a8 n8 c8] pl)(h07:a7=none→n7=0∧c7=0)(h08:a8=none→n8=0∧c8=0)(hn8:n8≤1048576):
   Calls Tryd.prog 9 #[.agg #[I O W,I O H,Sz a2 n c2,I O X,I O Y,.bool wrp,I O st,Sz a7 n7 c7,Sz a8 n8 c8,I O be],I O b] w fun e w'=>∃ o F,e=.returned (.agg o.toArray)∧Own shVt w' w.heap.size o (byteA (((W,H,zs,X,Y,wrp,()),st,al,pl,be,()):TD) b) F∧F.Nodup∧Below w.heap.size w w':=by
 by_cases hr:0≤b∧b≤255
 · exact implByte_in W H X Y st be wrp a2 a7 a8 n c2 n7 c7 n8 c8 zs al pl b w hT hg ha hp h07 h08 hn8 hr
 · by_cases h1:b < 0
   · exact implByte_lo W H X Y st be wrp a2 a7 a8 n c2 n7 c7 n8 c8 zs al pl b w hT hg ha hp h07 h08 hn8 hr h1
   · exact implByte_hi W H X Y st be wrp a2 a7 a8 n c2 n7 c7 n8 c8 zs al pl b w hT hg ha hp h07 h08 hn8 hr h1
end Go.Proofs.YthodinpflcbklaaDoor
