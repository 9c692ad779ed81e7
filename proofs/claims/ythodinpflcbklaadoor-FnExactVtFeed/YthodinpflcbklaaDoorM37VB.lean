/-
  Parts of the road to VB, joined: SvS, SvQ, SvY0, SvY1, SvY.
-/
import Derived.Test.YthodinpflcbklaaDoorM25VB
import Derived.Test.YthodinpflcbklaaDoorM21VB
import Derived.Test.YthodinpflcbklaaDoorM35VB
import Derived.Test.YthodinpflcbklaaDoorM36VB
open Go.Value renaming int → I,slice → Sz
open Go.IntKind renaming i64 → O
open List renaming setIfInBounds_toArray → lA,getElem_toArray → lB,getElem_cons_succ → lC,getElem_cons_zero → lD,set_cons_zero → lE,set_cons_succ → lF
set_option linter.unusedVariables false
set_option linter.unusedSimpArgs false
set_option maxHeartbeats 40000000
namespace Go.Proofs.YthodinpflcbklaaDoor
open Go.RowKit
set_option maxRecDepth 100000
theorem scsi_lo(W H X Y st be:Int)(wrp:Bool)(a a7 a8:Option Addr)(n c n7 c7 n8 c8:Nat)(zs al pl:List Int)(b:Int)(w:World)(hg:gokB (W,H,zs,X,Y,wrp,())=true)(h2:Reads (.sl .int) w [Sz a n c] zs)(h7:Reads (.sl .int) w [Sz a7 n7 c7] al)(h8:Reads (.sl .u8) w [Sz a8 n8 c8] pl)(hal:∀ i,0≤at0 al i∧at0 al i≤9999)(hal4:al.length≤4)(hb:b < 48)(h59:b≠59):
   Calls Tryd.prog 55 #[.agg #[I O W,I O H,Sz a n c,I O X,I O Y,.bool wrp,I O st,Sz a7 n7 c7,Sz a8 n8 c8,I O be],I O b] w fun e w'=>∃ o,e=.returned (.agg o.toArray)∧RK w w' o (csiT (((W,H,zs,X,Y,wrp,()),st,al,pl,be,()):TD) b) (Sz a n c) (Sz a7 n7 c7) (Sz a8 n8 c8) zs al pl∧Below w.heap.size w w':=by
 obtain⟨i1,ji,jz0,jz1,jz2⟩:=info_parts Tryd.infoI
 obtain⟨W1,hW1,bW1,zW1,hA1,hZ1,HBX⟩:=mpro1 W H X Y st be wrp a a7 a8 n c n7 c7 n8 c8 w
 have HB1:Hid (Below w.heap.size w W1∧W1.heap.size=w.heap.size+2):=⟨bW1,zW1⟩
 have HW:Hid (W1=_):=hW1
 have HR:Hid (Reads (.sl .int) w [Sz a n c] zs∧Reads (.sl .u8) w [Sz a8 n8 c8] pl):=⟨h2,h8⟩
 obtain⟨hl7,hr7,_,_⟩:=reads_ints h7
 have HL:Hid (al.length=n7):=hl7
 have HSR:Hid (SrcZ w (Sz a7 n7 c7) n7 (al.map (Value.int .i64))):=srcZ_rdI hr7 hl7
 obtain⟨WE,hWE⟩:∃ U,U=W1.alloc (.cells #[] 3):=⟨_,rfl⟩
 have bE:Below W1.heap.size W1 WE:=by rw[hWE];exact(Below.refl _ _).alloc (Nat.le_refl _) _
 have oE:WE.ownsRow W1.heap.size 3 1 (Sz (some ⟨w.heap.size+1+1,0,none⟩) 0 0) 0 []:=by
   have h9:=World.ownsRow_lit (base:=W1.heap.size) (e:=3) (size:=1) W1 #[] 0 (Nat.le_refl _) (Nat.zero_le _) rfl
   rw[zW1] at h9
   rw[hWE,zW1]
   exact h9
 have hn74:n7≤4:=by omega
 have HE0:Hid (Below W1.heap.size W1 WE∧WE.ownsRow W1.heap.size 3 1 (Sz (some ⟨w.heap.size+1+1,0,none⟩) 0 0) 0 []):=⟨bE,oE⟩
 have HWE:Hid (WE=_):=hWE
 obtain⟨D,hD⟩:∃ D:TD,D=((doD (W,H,zs,X,Y,wrp,()) al b,(0:Int),[],pl,be,()):TD):=⟨_,rfl⟩
 have HE:Hid (csiT (((W,H,zs,X,Y,wrp,()),st,al,pl,be,()):TD) b=D):=by
   show _=_
   unfold csiT
   rw[if_neg (by omega),if_neg (by omega),hD]
 have QX:Hid (∀ w',Below w.heap.size w w'→Calls Tryd.prog 72 #[.agg #[I O W,I O H,Sz a n c,I O X,I O Y,.bool wrp,I O st,Sz a7 n7 c7,Sz a8 n8 c8,I O be],I O b] w' fun e w''=>∃ o,e=.returned (.agg o.toArray)∧RK w' w'' o D (Sz a n c) (Sz a7 n7 c7) (Sz a8 n8 c8) zs al pl∧Below w'.heap.size w' w''):=fun w' hw=>by
   rw[hD]
   exact sact_any W H X Y st be wrp a a7 a8 n c n7 c7 n8 c8 zs al pl b w' hg (h2.later hw) (h7.later hw) (h8.later hw) hal
 have H7:Hid (Reads (.sl .int) w [Sz a7 n7 c7] al):=h7
 have db:(b==59)=false:=by simp;omega
 have d1:decide ((48:Int)≤b)=false:=decide_eq_false (by omega)
 obtain⟨g0,e0⟩:∃ x:Int,x=D.1.1:=⟨_,rfl⟩
 obtain⟨g1,e1⟩:∃ x:Int,x=D.1.2.1:=⟨_,rfl⟩
 obtain⟨g3,e3⟩:∃ x:Int,x=D.1.2.2.2.1:=⟨_,rfl⟩
 obtain⟨g4,e4⟩:∃ x:Int,x=D.1.2.2.2.2.1:=⟨_,rfl⟩
 obtain⟨g5,e5⟩:∃ x:Bool,x=D.1.2.2.2.2.2.1:=⟨_,rfl⟩
 obtain⟨g6,e6⟩:∃ x:Int,x=D.2.1:=⟨_,rfl⟩
 obtain⟨g9,e9⟩:∃ x:Int,x=D.2.2.2.2.1:=⟨_,rfl⟩
 have HEE:Hid (g0=D.1.1∧g1=D.1.2.1∧g3=D.1.2.2.2.1∧g4=D.1.2.2.2.2.1∧g5=D.1.2.2.2.2.2.1∧g6=D.2.1∧g9=D.2.2.2.2.1):=⟨e0,e1,e3,e4,e5,e6,e9⟩
 clear e0 e1 e3 e4 e5 e6 e9
 clear hg h2 h7 h8 hal hal4 hr7 hl7 hW1 bW1 zW1 hA1 hZ1 hWE bE oE hb h59 hD
 have y0:WE.cell? ⟨w.heap.size,0,none⟩=some (I O W):=bxc (HBX.out _ HE0.out.1).1 rfl
 have y1:WE.cell? ⟨w.heap.size,1,none⟩=some (I O H):=bxc (HBX.out _ HE0.out.1).1 rfl
 have y2:WE.cell? ⟨w.heap.size,2,none⟩=some (Sz a n c):=bxc (HBX.out _ HE0.out.1).1 rfl
 have y3:WE.cell? ⟨w.heap.size,3,none⟩=some (I O X):=bxc (HBX.out _ HE0.out.1).1 rfl
 have y4:WE.cell? ⟨w.heap.size,4,none⟩=some (I O Y):=bxc (HBX.out _ HE0.out.1).1 rfl
 have y5:WE.cell? ⟨w.heap.size,5,none⟩=some (.bool wrp):=bxc (HBX.out _ HE0.out.1).1 rfl
 have y6:WE.cell? ⟨w.heap.size,6,none⟩=some (I O st):=bxc (HBX.out _ HE0.out.1).1 rfl
 have y7:WE.cell? ⟨w.heap.size,7,none⟩=some (Sz a7 n7 c7):=bxc (HBX.out _ HE0.out.1).1 rfl
 have y8:WE.cell? ⟨w.heap.size,8,none⟩=some (Sz a8 n8 c8):=bxc (HBX.out _ HE0.out.1).1 rfl
 have y9:WE.cell? ⟨w.heap.size,9,none⟩=some (I O be):=bxc (HBX.out _ HE0.out.1).1 rfl
 have hsE:=srcZ_later HSR.out (HB1.out.1.trans (HE0.out.1.mono HB1.out.1.size))
 have oE:=HE0.out.2
 go_enter Tryd.func55,Tryd.ntmps55
 go_wp2_with (at_builtin;rw[← HW.out,← HWE.out];refine wpList_append_srcZ rfl _ _ 22 rfl W1.heap.size 3 i1 (I O 0) 1 8 Tryd.underlying22 ji jz0 jz1 jz2 rfl (by decide) _ 0 [] rfl oE (Sz a7 n7 c7) n7 (al.map (Value.int .i64)) rfl ?c0 hsE ?c1 ?c3 ?c4 HE0.out.1.size ?_)
 case c0=>(rw[List.length_map,HL.out]) <;> omega
 case c1=>intro u hu;simp at hu;obtain⟨x,_,rfl⟩:=hu;rfl
 case c3=>unfold maxLen;omega
 case c4=>omega
 intro v7 wA oA gA
 (try rw[Nat.zero_add] at oA)
 (try rw[List.nil_append] at oA)
 obtain⟨aA,cA,hvA⟩:=own_formV oA
 subst hvA
 have kA:Below W1.heap.size W1 wA:=HE0.out.1.grown gA HE0.out.1.size (fun k e=>(oE.lt k e).1)
 clear oE gA hsE y0 y1 y2 y3 y4 y5 y6 y7 y8 y9
 have bA:=HB1.out.1.trans (kA.mono HB1.out.1.size)
 have y0:wA.cell? ⟨w.heap.size,0,none⟩=some (I O W):=bxc (HBX.out _ kA).1 rfl
 have y1:wA.cell? ⟨w.heap.size,1,none⟩=some (I O H):=bxc (HBX.out _ kA).1 rfl
 have y2:wA.cell? ⟨w.heap.size,2,none⟩=some (Sz a n c):=bxc (HBX.out _ kA).1 rfl
 have y3:wA.cell? ⟨w.heap.size,3,none⟩=some (I O X):=bxc (HBX.out _ kA).1 rfl
 have y4:wA.cell? ⟨w.heap.size,4,none⟩=some (I O Y):=bxc (HBX.out _ kA).1 rfl
 have y5:wA.cell? ⟨w.heap.size,5,none⟩=some (.bool wrp):=bxc (HBX.out _ kA).1 rfl
 have y6:wA.cell? ⟨w.heap.size,6,none⟩=some (I O st):=bxc (HBX.out _ kA).1 rfl
 have y7:wA.cell? ⟨w.heap.size,7,none⟩=some (Sz a7 n7 c7):=bxc (HBX.out _ kA).1 rfl
 have y8:wA.cell? ⟨w.heap.size,8,none⟩=some (Sz a8 n8 c8):=bxc (HBX.out _ kA).1 rfl
 have y9:wA.cell? ⟨w.heap.size,9,none⟩=some (I O be):=bxc (HBX.out _ kA).1 rfl
 go_wp2_with fail
 refine(QX.out _ bA).mono ?_
 rintro e w2 ⟨o,rfl,hRK,hb2⟩
 have b2':=bA.trans (hb2.mono bA.size)
 have hro:=hRK w2 (fun g _ _=>rfl) (HR.out.1.later b2') (H7.out.later b2') (HR.out.2.later b2')
 obtain⟨b2,m2,k2,b7,m7,k7,b8,m8,k8,hcs,_⟩:=open_Vt hro
 rw[← HEE.out.1,← HEE.out.2.1,← HEE.out.2.2.1,← HEE.out.2.2.2.1,← HEE.out.2.2.2.2.1,← HEE.out.2.2.2.2.2.1,← HEE.out.2.2.2.2.2.2] at hcs
 subst hcs
 have k2':=kA.trans (hb2.mono kA.size)
 have i2:=HBX.out _ k2'
 have hz:=HB1.out.2
 have hzA:=kA.size
 have HLD:(loadVar 31 ⟨w.heap.size+1,0,none⟩).run Tryd.prog (w2.setRow (w.heap.size+1) #[I O g0,I O g1,Sz b2 m2 k2,I O g3,I O g4,.bool g5,I O g6,Sz b7 m7 k7,Sz b8 m8 k8,I O g9])=.ok (.agg #[I O g0,I O g1,Sz b2 m2 k2,I O g3,I O g4,.bool g5,I O g6,Sz b7 m7 k7,Sz b8 m8 k8,I O g9]) (w2.setRow (w.heap.size+1) #[I O g0,I O g1,Sz b2 m2 k2,I O g3,I O g4,.bool g5,I O g6,Sz b7 m7 k7,Sz b8 m8 k8,I O g9]):=run_loadVar_row _ _ _ _ _ _ _ (setRow_heap _ _ _ _ _ _ i2.2) Tryd.underlying31 rfl (by kernel_rfl)
 have HF:Hid (Below w.heap.size w (w2.setRow (w.heap.size+1) #[I O g0,I O g1,Sz b2 m2 k2,I O g3,I O g4,.bool g5,I O g6,Sz b7 m7 k7,Sz b8 m8 k8,I O g9])∧RK w (w2.setRow (w.heap.size+1) #[I O g0,I O g1,Sz b2 m2 k2,I O g3,I O g4,.bool g5,I O g6,Sz b7 m7 k7,Sz b8 m8 k8,I O g9]) [I O g0,I O g1,Sz b2 m2 k2,I O g3,I O g4,.bool g5,I O g6,Sz b7 m7 k7,Sz b8 m8 k8,I O g9] D (Sz a n c) (Sz a7 n7 c7) (Sz a8 n8 c8) zs al pl):=by
   refine⟨below_setRow b2' (Nat.le_add_right _ 1) _,fun w'' hk r2 r7 r8=>hRK w'' (fun g hg1 hg2=>?_) r2 r7 r8⟩
   have e9:(w2.setRow (w.heap.size+1) #[I O g0,I O g1,Sz b2 m2 k2,I O g3,I O g4,.bool g5,I O g6,Sz b7 m7 k7,Sz b8 m8 k8,I O g9]).heap.size=w2.heap.size:=by simp[World.setRow]
   rw[hk g (by omega) (by rw[e9];exact hg2),setRow_other _ (w.heap.size+1) g _ (by omega)]
 clear b2' hro hRK hb2 bA kA oA k2' y0 y1 y2 y3 y4 y5 y6 y7 y8 y9
 go_wp2_with (refine wpList_store_row rfl _ _ _ rfl _ _ rfl rfl _ _ i2.2 (by kernel_rfl) rfl (by simp[Value.oneCell']) ?_)
 (try simp only[Exit.inBlock,Exit.then])
 refine bodyPost_ret (by simp[results,Tryd.results55,asAddr,Act.put,HLD];try rfl) rfl ?_
 refine⟨[I O g0,I O g1,Sz b2 m2 k2,I O g3,I O g4,.bool g5,I O g6,Sz b7 m7 k7,Sz b8 m8 k8,I O g9],rfl,?_,HF.out.1⟩
 rw[HE.out]
 exact HF.out.2
theorem scsi_hi(W H X Y st be:Int)(wrp:Bool)(a a7 a8:Option Addr)(n c n7 c7 n8 c8:Nat)(zs al pl:List Int)(b:Int)(w:World)(hg:gokB (W,H,zs,X,Y,wrp,())=true)(h2:Reads (.sl .int) w [Sz a n c] zs)(h7:Reads (.sl .int) w [Sz a7 n7 c7] al)(h8:Reads (.sl .u8) w [Sz a8 n8 c8] pl)(hal:∀ i,0≤at0 al i∧at0 al i≤9999)(hal4:al.length≤4)(hb:57 < b)(h59:b≠59):
   Calls Tryd.prog 55 #[.agg #[I O W,I O H,Sz a n c,I O X,I O Y,.bool wrp,I O st,Sz a7 n7 c7,Sz a8 n8 c8,I O be],I O b] w fun e w'=>∃ o,e=.returned (.agg o.toArray)∧RK w w' o (csiT (((W,H,zs,X,Y,wrp,()),st,al,pl,be,()):TD) b) (Sz a n c) (Sz a7 n7 c7) (Sz a8 n8 c8) zs al pl∧Below w.heap.size w w':=by
 obtain⟨i1,ji,jz0,jz1,jz2⟩:=info_parts Tryd.infoI
 obtain⟨W1,hW1,bW1,zW1,hA1,hZ1,HBX⟩:=mpro1 W H X Y st be wrp a a7 a8 n c n7 c7 n8 c8 w
 have HB1:Hid (Below w.heap.size w W1∧W1.heap.size=w.heap.size+2):=⟨bW1,zW1⟩
 have HW:Hid (W1=_):=hW1
 have HR:Hid (Reads (.sl .int) w [Sz a n c] zs∧Reads (.sl .u8) w [Sz a8 n8 c8] pl):=⟨h2,h8⟩
 obtain⟨hl7,hr7,_,_⟩:=reads_ints h7
 have HL:Hid (al.length=n7):=hl7
 have HSR:Hid (SrcZ w (Sz a7 n7 c7) n7 (al.map (Value.int .i64))):=srcZ_rdI hr7 hl7
 obtain⟨WE,hWE⟩:∃ U,U=W1.alloc (.cells #[] 3):=⟨_,rfl⟩
 have bE:Below W1.heap.size W1 WE:=by rw[hWE];exact(Below.refl _ _).alloc (Nat.le_refl _) _
 have oE:WE.ownsRow W1.heap.size 3 1 (Sz (some ⟨w.heap.size+1+1,0,none⟩) 0 0) 0 []:=by
   have h9:=World.ownsRow_lit (base:=W1.heap.size) (e:=3) (size:=1) W1 #[] 0 (Nat.le_refl _) (Nat.zero_le _) rfl
   rw[zW1] at h9
   rw[hWE,zW1]
   exact h9
 have hn74:n7≤4:=by omega
 have HE0:Hid (Below W1.heap.size W1 WE∧WE.ownsRow W1.heap.size 3 1 (Sz (some ⟨w.heap.size+1+1,0,none⟩) 0 0) 0 []):=⟨bE,oE⟩
 have HWE:Hid (WE=_):=hWE
 obtain⟨D,hD⟩:∃ D:TD,D=((doD (W,H,zs,X,Y,wrp,()) al b,(0:Int),[],pl,be,()):TD):=⟨_,rfl⟩
 have HE:Hid (csiT (((W,H,zs,X,Y,wrp,()),st,al,pl,be,()):TD) b=D):=by
   show _=_
   unfold csiT
   rw[if_neg (by omega),if_neg (by omega),hD]
 have QX:Hid (∀ w',Below w.heap.size w w'→Calls Tryd.prog 72 #[.agg #[I O W,I O H,Sz a n c,I O X,I O Y,.bool wrp,I O st,Sz a7 n7 c7,Sz a8 n8 c8,I O be],I O b] w' fun e w''=>∃ o,e=.returned (.agg o.toArray)∧RK w' w'' o D (Sz a n c) (Sz a7 n7 c7) (Sz a8 n8 c8) zs al pl∧Below w'.heap.size w' w''):=fun w' hw=>by
   rw[hD]
   exact sact_any W H X Y st be wrp a a7 a8 n c n7 c7 n8 c8 zs al pl b w' hg (h2.later hw) (h7.later hw) (h8.later hw) hal
 have H7:Hid (Reads (.sl .int) w [Sz a7 n7 c7] al):=h7
 have db:(b==59)=false:=by simp;omega
 have d1:decide ((48:Int)≤b)=true:=decide_eq_true (by omega)
 have d2:decide (b≤(57:Int))=false:=decide_eq_false (by omega)
 obtain⟨g0,e0⟩:∃ x:Int,x=D.1.1:=⟨_,rfl⟩
 obtain⟨g1,e1⟩:∃ x:Int,x=D.1.2.1:=⟨_,rfl⟩
 obtain⟨g3,e3⟩:∃ x:Int,x=D.1.2.2.2.1:=⟨_,rfl⟩
 obtain⟨g4,e4⟩:∃ x:Int,x=D.1.2.2.2.2.1:=⟨_,rfl⟩
 obtain⟨g5,e5⟩:∃ x:Bool,x=D.1.2.2.2.2.2.1:=⟨_,rfl⟩
 obtain⟨g6,e6⟩:∃ x:Int,x=D.2.1:=⟨_,rfl⟩
 obtain⟨g9,e9⟩:∃ x:Int,x=D.2.2.2.2.1:=⟨_,rfl⟩
 have HEE:Hid (g0=D.1.1∧g1=D.1.2.1∧g3=D.1.2.2.2.1∧g4=D.1.2.2.2.2.1∧g5=D.1.2.2.2.2.2.1∧g6=D.2.1∧g9=D.2.2.2.2.1):=⟨e0,e1,e3,e4,e5,e6,e9⟩
 clear e0 e1 e3 e4 e5 e6 e9
 clear hg h2 h7 h8 hal hal4 hr7 hl7 hW1 bW1 zW1 hA1 hZ1 hWE bE oE hb h59 hD
 have y0:WE.cell? ⟨w.heap.size,0,none⟩=some (I O W):=bxc (HBX.out _ HE0.out.1).1 rfl
 have y1:WE.cell? ⟨w.heap.size,1,none⟩=some (I O H):=bxc (HBX.out _ HE0.out.1).1 rfl
 have y2:WE.cell? ⟨w.heap.size,2,none⟩=some (Sz a n c):=bxc (HBX.out _ HE0.out.1).1 rfl
 have y3:WE.cell? ⟨w.heap.size,3,none⟩=some (I O X):=bxc (HBX.out _ HE0.out.1).1 rfl
 have y4:WE.cell? ⟨w.heap.size,4,none⟩=some (I O Y):=bxc (HBX.out _ HE0.out.1).1 rfl
 have y5:WE.cell? ⟨w.heap.size,5,none⟩=some (.bool wrp):=bxc (HBX.out _ HE0.out.1).1 rfl
 have y6:WE.cell? ⟨w.heap.size,6,none⟩=some (I O st):=bxc (HBX.out _ HE0.out.1).1 rfl
 have y7:WE.cell? ⟨w.heap.size,7,none⟩=some (Sz a7 n7 c7):=bxc (HBX.out _ HE0.out.1).1 rfl
 have y8:WE.cell? ⟨w.heap.size,8,none⟩=some (Sz a8 n8 c8):=bxc (HBX.out _ HE0.out.1).1 rfl
 have y9:WE.cell? ⟨w.heap.size,9,none⟩=some (I O be):=bxc (HBX.out _ HE0.out.1).1 rfl
 have hsE:=srcZ_later HSR.out (HB1.out.1.trans (HE0.out.1.mono HB1.out.1.size))
 have oE:=HE0.out.2
 go_enter Tryd.func55,Tryd.ntmps55
 go_wp2_with (at_builtin;rw[← HW.out,← HWE.out];refine wpList_append_srcZ rfl _ _ 22 rfl W1.heap.size 3 i1 (I O 0) 1 8 Tryd.underlying22 ji jz0 jz1 jz2 rfl (by decide) _ 0 [] rfl oE (Sz a7 n7 c7) n7 (al.map (Value.int .i64)) rfl ?c0 hsE ?c1 ?c3 ?c4 HE0.out.1.size ?_)
 case c0=>(rw[List.length_map,HL.out]) <;> omega
 case c1=>intro u hu;simp at hu;obtain⟨x,_,rfl⟩:=hu;rfl
 case c3=>unfold maxLen;omega
 case c4=>omega
 intro v7 wA oA gA
 (try rw[Nat.zero_add] at oA)
 (try rw[List.nil_append] at oA)
 obtain⟨aA,cA,hvA⟩:=own_formV oA
 subst hvA
 have kA:Below W1.heap.size W1 wA:=HE0.out.1.grown gA HE0.out.1.size (fun k e=>(oE.lt k e).1)
 clear oE gA hsE y0 y1 y2 y3 y4 y5 y6 y7 y8 y9
 have bA:=HB1.out.1.trans (kA.mono HB1.out.1.size)
 have y0:wA.cell? ⟨w.heap.size,0,none⟩=some (I O W):=bxc (HBX.out _ kA).1 rfl
 have y1:wA.cell? ⟨w.heap.size,1,none⟩=some (I O H):=bxc (HBX.out _ kA).1 rfl
 have y2:wA.cell? ⟨w.heap.size,2,none⟩=some (Sz a n c):=bxc (HBX.out _ kA).1 rfl
 have y3:wA.cell? ⟨w.heap.size,3,none⟩=some (I O X):=bxc (HBX.out _ kA).1 rfl
 have y4:wA.cell? ⟨w.heap.size,4,none⟩=some (I O Y):=bxc (HBX.out _ kA).1 rfl
 have y5:wA.cell? ⟨w.heap.size,5,none⟩=some (.bool wrp):=bxc (HBX.out _ kA).1 rfl
 have y6:wA.cell? ⟨w.heap.size,6,none⟩=some (I O st):=bxc (HBX.out _ kA).1 rfl
 have y7:wA.cell? ⟨w.heap.size,7,none⟩=some (Sz a7 n7 c7):=bxc (HBX.out _ kA).1 rfl
 have y8:wA.cell? ⟨w.heap.size,8,none⟩=some (Sz a8 n8 c8):=bxc (HBX.out _ kA).1 rfl
 have y9:wA.cell? ⟨w.heap.size,9,none⟩=some (I O be):=bxc (HBX.out _ kA).1 rfl
 go_wp2_with fail
 refine(QX.out _ bA).mono ?_
 rintro e w2 ⟨o,rfl,hRK,hb2⟩
 have b2':=bA.trans (hb2.mono bA.size)
 have hro:=hRK w2 (fun g _ _=>rfl) (HR.out.1.later b2') (H7.out.later b2') (HR.out.2.later b2')
 obtain⟨b2,m2,k2,b7,m7,k7,b8,m8,k8,hcs,_⟩:=open_Vt hro
 rw[← HEE.out.1,← HEE.out.2.1,← HEE.out.2.2.1,← HEE.out.2.2.2.1,← HEE.out.2.2.2.2.1,← HEE.out.2.2.2.2.2.1,← HEE.out.2.2.2.2.2.2] at hcs
 subst hcs
 have k2':=kA.trans (hb2.mono kA.size)
 have i2:=HBX.out _ k2'
 have hz:=HB1.out.2
 have hzA:=kA.size
 have HLD:(loadVar 31 ⟨w.heap.size+1,0,none⟩).run Tryd.prog (w2.setRow (w.heap.size+1) #[I O g0,I O g1,Sz b2 m2 k2,I O g3,I O g4,.bool g5,I O g6,Sz b7 m7 k7,Sz b8 m8 k8,I O g9])=.ok (.agg #[I O g0,I O g1,Sz b2 m2 k2,I O g3,I O g4,.bool g5,I O g6,Sz b7 m7 k7,Sz b8 m8 k8,I O g9]) (w2.setRow (w.heap.size+1) #[I O g0,I O g1,Sz b2 m2 k2,I O g3,I O g4,.bool g5,I O g6,Sz b7 m7 k7,Sz b8 m8 k8,I O g9]):=run_loadVar_row _ _ _ _ _ _ _ (setRow_heap _ _ _ _ _ _ i2.2) Tryd.underlying31 rfl (by kernel_rfl)
 have HF:Hid (Below w.heap.size w (w2.setRow (w.heap.size+1) #[I O g0,I O g1,Sz b2 m2 k2,I O g3,I O g4,.bool g5,I O g6,Sz b7 m7 k7,Sz b8 m8 k8,I O g9])∧RK w (w2.setRow (w.heap.size+1) #[I O g0,I O g1,Sz b2 m2 k2,I O g3,I O g4,.bool g5,I O g6,Sz b7 m7 k7,Sz b8 m8 k8,I O g9]) [I O g0,I O g1,Sz b2 m2 k2,I O g3,I O g4,.bool g5,I O g6,Sz b7 m7 k7,Sz b8 m8 k8,I O g9] D (Sz a n c) (Sz a7 n7 c7) (Sz a8 n8 c8) zs al pl):=by
   refine⟨below_setRow b2' (Nat.le_add_right _ 1) _,fun w'' hk r2 r7 r8=>hRK w'' (fun g hg1 hg2=>?_) r2 r7 r8⟩
   have e9:(w2.setRow (w.heap.size+1) #[I O g0,I O g1,Sz b2 m2 k2,I O g3,I O g4,.bool g5,I O g6,Sz b7 m7 k7,Sz b8 m8 k8,I O g9]).heap.size=w2.heap.size:=by simp[World.setRow]
   rw[hk g (by omega) (by rw[e9];exact hg2),setRow_other _ (w.heap.size+1) g _ (by omega)]
 clear b2' hro hRK hb2 bA kA oA k2' y0 y1 y2 y3 y4 y5 y6 y7 y8 y9
 go_wp2_with (refine wpList_store_row rfl _ _ _ rfl _ _ rfl rfl _ _ i2.2 (by kernel_rfl) rfl (by simp[Value.oneCell']) ?_)
 (try simp only[Exit.inBlock,Exit.then])
 refine bodyPost_ret (by simp[results,Tryd.results55,asAddr,Act.put,HLD];try rfl) rfl ?_
 refine⟨[I O g0,I O g1,Sz b2 m2 k2,I O g3,I O g4,.bool g5,I O g6,Sz b7 m7 k7,Sz b8 m8 k8,I O g9],rfl,?_,HF.out.1⟩
 rw[HE.out]
 exact HF.out.2
end Go.Proofs.YthodinpflcbklaaDoor
namespace Go.Proofs.YthodinpflcbklaaDoor
open Go.RowKit
set_option maxRecDepth 100000
theorem scsi_any(W H X Y st be:Int)(wrp:Bool)(a a7 a8:Option Addr)(n c n7 c7 n8 c8:Nat)(zs al pl:List Int)(b:Int)(w:World)(hg:gokB (W,H,zs,X,Y,wrp,())=true)(h2:Reads (.sl .int) w [Sz a n c] zs)(h7:Reads (.sl .int) w [Sz a7 n7 c7] al)(h8:Reads (.sl .u8) w [Sz a8 n8 c8] pl)(hal:∀ i,0≤at0 al i∧at0 al i≤9999)(hal4:al.length≤4):
   Calls Tryd.prog 55 #[.agg #[I O W,I O H,Sz a n c,I O X,I O Y,.bool wrp,I O st,Sz a7 n7 c7,Sz a8 n8 c8,I O be],I O b] w fun e w'=>∃ o,e=.returned (.agg o.toArray)∧RK w w' o (csiT (((W,H,zs,X,Y,wrp,()),st,al,pl,be,()):TD) b) (Sz a n c) (Sz a7 n7 c7) (Sz a8 n8 c8) zs al pl∧Below w.heap.size w w':=by
 have hl7:al.length=n7:=(reads_ints h7).1
 by_cases h59:b=59
 · subst h59
   by_cases h0:n7=0
   · exact scsi_sz W H X Y st be wrp a a7 a8 n c n7 c7 n8 c8 zs al pl w hg h2 h7 h8 hal hal4 h0
   by_cases h4:n7 < 4
   · exact scsi_ss W H X Y st be wrp a a7 a8 n c n7 c7 n8 c8 zs al pl w hg h2 h7 h8 hal hal4 (by omega) h4
   · exact scsi_sf W H X Y st be wrp a a7 a8 n c n7 c7 n8 c8 zs al pl w hg h2 h7 h8 hal hal4 (by omega)
 by_cases hlo:b < 48
 · exact scsi_lo W H X Y st be wrp a a7 a8 n c n7 c7 n8 c8 zs al pl b w hg h2 h7 h8 hal hal4 hlo h59
 by_cases hhi:57 < b
 · exact scsi_hi W H X Y st be wrp a a7 a8 n c n7 c7 n8 c8 zs al pl b w hg h2 h7 h8 hal hal4 hhi h59
 have hb:48≤b∧b≤57:=⟨by omega,by omega⟩
 by_cases h0:n7=0
 · by_cases hc:9999 < at0 (begA al) ((begA al).length - 1)*10+b - 48
   · exfalso
     have h1:=(begA_bd hal ((begA al).length - 1))
     have h2:begA al=[0]:=by rw[List.eq_nil_of_length_eq_zero (by omega:al.length=0)];rfl
     rw[h2] at hc
     simp[at0] at hc
     omega
   · exact scsi_d0 W H X Y st be wrp a a7 a8 n c n7 c7 n8 c8 zs al pl b w hg h2 h7 h8 hal hal4 hb h0 hc
 · by_cases hc:9999 < at0 (begA al) ((begA al).length - 1)*10+b - 48
   · exact scsi_dc W H X Y st be wrp a a7 a8 n c n7 c7 n8 c8 zs al pl b w hg h2 h7 h8 hal hal4 hb h0 hc
   · exact scsi_dn W H X Y st be wrp a a7 a8 n c n7 c7 n8 c8 zs al pl b w hg h2 h7 h8 hal hal4 hb h0 hc
end Go.Proofs.YthodinpflcbklaaDoor
namespace Go.Proofs.YthodinpflcbklaaDoor
open Go.RowKit
set_option maxRecDepth 100000
theorem sby_0(W H X Y be:Int)(wrp:Bool)(a a7 a8:Option Addr)(n c n7 c7 n8 c8:Nat)(zs al pl:List Int)(b:Int)(w:World)(hg:gokB (W,H,zs,X,Y,wrp,())=true)(h2:Reads (.sl .int) w [Sz a n c] zs)(h7:Reads (.sl .int) w [Sz a7 n7 c7] al)(h8:Reads (.sl .u8) w [Sz a8 n8 c8] pl)(hpl:pl.length≤3)(hbe:0≤be∧be≤1000000)(hal:∀ i,0≤at0 al i∧at0 al i≤9999)(hal4:al.length≤4)(hb:0≤b∧b≤255)(hp:pl=[]∨rbgB pl=true):
   Calls Tryd.prog 28 #[.agg #[I O W,I O H,Sz a n c,I O X,I O Y,.bool wrp,I O 0,Sz a7 n7 c7,Sz a8 n8 c8,I O be],I O b] w fun e w'=>∃ o,e=.returned (.agg o.toArray)∧RK w w' o (byteT (((W,H,zs,X,Y,wrp,()),0,al,pl,be,()):TD) b) (Sz a n c) (Sz a7 n7 c7) (Sz a8 n8 c8) zs al pl∧Below w.heap.size w w':=by
 obtain⟨W1,hW1,bW1,zW1,hA1,hZ1,HBX⟩:=mpro1 W H X Y 0 be wrp a a7 a8 n c n7 c7 n8 c8 w
 have HB1:Hid (Below w.heap.size w W1∧W1.heap.size=w.heap.size+2):=⟨bW1,zW1⟩
 have HW:Hid (W1=_):=hW1
 have HR:Hid (Reads (.sl .int) w [Sz a n c] zs∧Reads (.sl .int) w [Sz a7 n7 c7] al∧Reads (.sl .u8) w [Sz a8 n8 c8] pl):=⟨h2,h7,h8⟩
 obtain⟨D,hD⟩:∃ D:TD,D=plainT (((W,H,zs,X,Y,wrp,()),0,al,pl,be,()):TD) b:=⟨_,rfl⟩
 have HE:Hid (byteT (((W,H,zs,X,Y,wrp,()),0,al,pl,be,()):TD) b=D):=by
   show _=_
   rw[hD]
   rfl
 have QX:Hid (∀ w',Below w.heap.size w w'→Calls Tryd.prog 54 #[.agg #[I O W,I O H,Sz a n c,I O X,I O Y,.bool wrp,I O 0,Sz a7 n7 c7,Sz a8 n8 c8,I O be],I O b] w' fun e w''=>∃ o,e=.returned (.agg o.toArray)∧RK w' w'' o D (Sz a n c) (Sz a7 n7 c7) (Sz a8 n8 c8) zs al pl∧Below w'.heap.size w' w''):=fun w' hw=>by
   rw[hD]
   exact spl_any W H X Y 0 be wrp a a7 a8 n c n7 c7 n8 c8 zs al pl b w' hg (h2.later hw) (h7.later hw) (h8.later hw) hpl hbe hb hp
 obtain⟨g0,e0⟩:∃ x:Int,x=D.1.1:=⟨_,rfl⟩
 obtain⟨g1,e1⟩:∃ x:Int,x=D.1.2.1:=⟨_,rfl⟩
 obtain⟨g3,e3⟩:∃ x:Int,x=D.1.2.2.2.1:=⟨_,rfl⟩
 obtain⟨g4,e4⟩:∃ x:Int,x=D.1.2.2.2.2.1:=⟨_,rfl⟩
 obtain⟨g5,e5⟩:∃ x:Bool,x=D.1.2.2.2.2.2.1:=⟨_,rfl⟩
 obtain⟨g6,e6⟩:∃ x:Int,x=D.2.1:=⟨_,rfl⟩
 obtain⟨g9,e9⟩:∃ x:Int,x=D.2.2.2.2.1:=⟨_,rfl⟩
 have HEE:Hid (g0=D.1.1∧g1=D.1.2.1∧g3=D.1.2.2.2.1∧g4=D.1.2.2.2.2.1∧g5=D.1.2.2.2.2.2.1∧g6=D.2.1∧g9=D.2.2.2.2.1):=⟨e0,e1,e3,e4,e5,e6,e9⟩
 clear e0 e1 e3 e4 e5 e6 e9
 clear hg h2 h7 h8 hal hal4 hpl hbe hb hp hD hW1 bW1 zW1 hA1 hZ1
 have y0:W1.cell? ⟨w.heap.size,0,none⟩=some (I O W):=bxc (HBX.out _ (Below.refl _ _)).1 rfl
 have y1:W1.cell? ⟨w.heap.size,1,none⟩=some (I O H):=bxc (HBX.out _ (Below.refl _ _)).1 rfl
 have y2:W1.cell? ⟨w.heap.size,2,none⟩=some (Sz a n c):=bxc (HBX.out _ (Below.refl _ _)).1 rfl
 have y3:W1.cell? ⟨w.heap.size,3,none⟩=some (I O X):=bxc (HBX.out _ (Below.refl _ _)).1 rfl
 have y4:W1.cell? ⟨w.heap.size,4,none⟩=some (I O Y):=bxc (HBX.out _ (Below.refl _ _)).1 rfl
 have y5:W1.cell? ⟨w.heap.size,5,none⟩=some (.bool wrp):=bxc (HBX.out _ (Below.refl _ _)).1 rfl
 have y6:W1.cell? ⟨w.heap.size,6,none⟩=some (I O 0):=bxc (HBX.out _ (Below.refl _ _)).1 rfl
 have y7:W1.cell? ⟨w.heap.size,7,none⟩=some (Sz a7 n7 c7):=bxc (HBX.out _ (Below.refl _ _)).1 rfl
 have y8:W1.cell? ⟨w.heap.size,8,none⟩=some (Sz a8 n8 c8):=bxc (HBX.out _ (Below.refl _ _)).1 rfl
 have y9:W1.cell? ⟨w.heap.size,9,none⟩=some (I O be):=bxc (HBX.out _ (Below.refl _ _)).1 rfl
 go_enter Tryd.func28,Tryd.ntmps28
 go_wp2_with fail
 rw[← HW.out]
 refine(QX.out _ HB1.out.1).mono ?_
 rintro e w2 ⟨o,rfl,hRK,hb2⟩
 have b2':=HB1.out.1.trans (hb2.mono HB1.out.1.size)
 have hro:=hRK w2 (fun g _ _=>rfl) (HR.out.1.later b2') (HR.out.2.1.later b2') (HR.out.2.2.later b2')
 obtain⟨b2,m2,k2,b7,m7,k7,b8,m8,k8,hcs,_⟩:=open_Vt hro
 rw[← HEE.out.1,← HEE.out.2.1,← HEE.out.2.2.1,← HEE.out.2.2.2.1,← HEE.out.2.2.2.2.1,← HEE.out.2.2.2.2.2.1,← HEE.out.2.2.2.2.2.2] at hcs
 subst hcs
 have i2:=HBX.out _ hb2
 have hz:=HB1.out.2
 have hzA:=hb2.size
 have HLD:(loadVar 31 ⟨w.heap.size+1,0,none⟩).run Tryd.prog (w2.setRow (w.heap.size+1) #[I O g0,I O g1,Sz b2 m2 k2,I O g3,I O g4,.bool g5,I O g6,Sz b7 m7 k7,Sz b8 m8 k8,I O g9])=.ok (.agg #[I O g0,I O g1,Sz b2 m2 k2,I O g3,I O g4,.bool g5,I O g6,Sz b7 m7 k7,Sz b8 m8 k8,I O g9]) (w2.setRow (w.heap.size+1) #[I O g0,I O g1,Sz b2 m2 k2,I O g3,I O g4,.bool g5,I O g6,Sz b7 m7 k7,Sz b8 m8 k8,I O g9]):=run_loadVar_row _ _ _ _ _ _ _ (setRow_heap _ _ _ _ _ _ i2.2) Tryd.underlying31 rfl (by kernel_rfl)
 have HF:Hid (Below w.heap.size w (w2.setRow (w.heap.size+1) #[I O g0,I O g1,Sz b2 m2 k2,I O g3,I O g4,.bool g5,I O g6,Sz b7 m7 k7,Sz b8 m8 k8,I O g9])∧RK w (w2.setRow (w.heap.size+1) #[I O g0,I O g1,Sz b2 m2 k2,I O g3,I O g4,.bool g5,I O g6,Sz b7 m7 k7,Sz b8 m8 k8,I O g9]) [I O g0,I O g1,Sz b2 m2 k2,I O g3,I O g4,.bool g5,I O g6,Sz b7 m7 k7,Sz b8 m8 k8,I O g9] D (Sz a n c) (Sz a7 n7 c7) (Sz a8 n8 c8) zs al pl):=by
   refine⟨below_setRow b2' (Nat.le_add_right _ 1) _,fun w'' hk r2 r7 r8=>hRK w'' (fun g hg1 hg2=>?_) r2 r7 r8⟩
   have e9:(w2.setRow (w.heap.size+1) #[I O g0,I O g1,Sz b2 m2 k2,I O g3,I O g4,.bool g5,I O g6,Sz b7 m7 k7,Sz b8 m8 k8,I O g9]).heap.size=w2.heap.size:=by simp[World.setRow]
   rw[hk g (by omega) (by rw[e9];exact hg2),setRow_other _ (w.heap.size+1) g _ (by omega)]
 clear b2' hro hRK hb2 y0 y1 y2 y3 y4 y5 y6 y7 y8 y9
 go_wp2_with (refine wpList_store_row rfl _ _ _ rfl _ _ rfl rfl _ _ i2.2 (by kernel_rfl) rfl (by simp[Value.oneCell']) ?_)
 (try simp only[Exit.inBlock,Exit.then])
 refine bodyPost_ret (by simp[results,Tryd.results28,asAddr,Act.put,HLD];try rfl) rfl ?_
 refine⟨[I O g0,I O g1,Sz b2 m2 k2,I O g3,I O g4,.bool g5,I O g6,Sz b7 m7 k7,Sz b8 m8 k8,I O g9],rfl,?_,HF.out.1⟩
 rw[HE.out]
 exact HF.out.2
theorem sby_2(W H X Y be:Int)(wrp:Bool)(a a7 a8:Option Addr)(n c n7 c7 n8 c8:Nat)(zs al pl:List Int)(b:Int)(w:World)(hg:gokB (W,H,zs,X,Y,wrp,())=true)(h2:Reads (.sl .int) w [Sz a n c] zs)(h7:Reads (.sl .int) w [Sz a7 n7 c7] al)(h8:Reads (.sl .u8) w [Sz a8 n8 c8] pl)(hpl:pl.length≤3)(hbe:0≤be∧be≤1000000)(hal:∀ i,0≤at0 al i∧at0 al i≤9999)(hal4:al.length≤4)(hb:0≤b∧b≤255)(hp:pl=[]∨rbgB pl=true):
   Calls Tryd.prog 28 #[.agg #[I O W,I O H,Sz a n c,I O X,I O Y,.bool wrp,I O 2,Sz a7 n7 c7,Sz a8 n8 c8,I O be],I O b] w fun e w'=>∃ o,e=.returned (.agg o.toArray)∧RK w w' o (byteT (((W,H,zs,X,Y,wrp,()),2,al,pl,be,()):TD) b) (Sz a n c) (Sz a7 n7 c7) (Sz a8 n8 c8) zs al pl∧Below w.heap.size w w':=by
 obtain⟨W1,hW1,bW1,zW1,hA1,hZ1,HBX⟩:=mpro1 W H X Y 2 be wrp a a7 a8 n c n7 c7 n8 c8 w
 have HB1:Hid (Below w.heap.size w W1∧W1.heap.size=w.heap.size+2):=⟨bW1,zW1⟩
 have HW:Hid (W1=_):=hW1
 have HR:Hid (Reads (.sl .int) w [Sz a n c] zs∧Reads (.sl .int) w [Sz a7 n7 c7] al∧Reads (.sl .u8) w [Sz a8 n8 c8] pl):=⟨h2,h7,h8⟩
 obtain⟨D,hD⟩:∃ D:TD,D=csiT (((W,H,zs,X,Y,wrp,()),2,al,pl,be,()):TD) b:=⟨_,rfl⟩
 have HE:Hid (byteT (((W,H,zs,X,Y,wrp,()),2,al,pl,be,()):TD) b=D):=by
   show _=_
   rw[hD]
   rfl
 have QX:Hid (∀ w',Below w.heap.size w w'→Calls Tryd.prog 55 #[.agg #[I O W,I O H,Sz a n c,I O X,I O Y,.bool wrp,I O 2,Sz a7 n7 c7,Sz a8 n8 c8,I O be],I O b] w' fun e w''=>∃ o,e=.returned (.agg o.toArray)∧RK w' w'' o D (Sz a n c) (Sz a7 n7 c7) (Sz a8 n8 c8) zs al pl∧Below w'.heap.size w' w''):=fun w' hw=>by
   rw[hD]
   exact scsi_any W H X Y 2 be wrp a a7 a8 n c n7 c7 n8 c8 zs al pl b w' hg (h2.later hw) (h7.later hw) (h8.later hw) hal hal4
 obtain⟨g0,e0⟩:∃ x:Int,x=D.1.1:=⟨_,rfl⟩
 obtain⟨g1,e1⟩:∃ x:Int,x=D.1.2.1:=⟨_,rfl⟩
 obtain⟨g3,e3⟩:∃ x:Int,x=D.1.2.2.2.1:=⟨_,rfl⟩
 obtain⟨g4,e4⟩:∃ x:Int,x=D.1.2.2.2.2.1:=⟨_,rfl⟩
 obtain⟨g5,e5⟩:∃ x:Bool,x=D.1.2.2.2.2.2.1:=⟨_,rfl⟩
 obtain⟨g6,e6⟩:∃ x:Int,x=D.2.1:=⟨_,rfl⟩
 obtain⟨g9,e9⟩:∃ x:Int,x=D.2.2.2.2.1:=⟨_,rfl⟩
 have HEE:Hid (g0=D.1.1∧g1=D.1.2.1∧g3=D.1.2.2.2.1∧g4=D.1.2.2.2.2.1∧g5=D.1.2.2.2.2.2.1∧g6=D.2.1∧g9=D.2.2.2.2.1):=⟨e0,e1,e3,e4,e5,e6,e9⟩
 clear e0 e1 e3 e4 e5 e6 e9
 clear hg h2 h7 h8 hal hal4 hpl hbe hb hp hD hW1 bW1 zW1 hA1 hZ1
 have y0:W1.cell? ⟨w.heap.size,0,none⟩=some (I O W):=bxc (HBX.out _ (Below.refl _ _)).1 rfl
 have y1:W1.cell? ⟨w.heap.size,1,none⟩=some (I O H):=bxc (HBX.out _ (Below.refl _ _)).1 rfl
 have y2:W1.cell? ⟨w.heap.size,2,none⟩=some (Sz a n c):=bxc (HBX.out _ (Below.refl _ _)).1 rfl
 have y3:W1.cell? ⟨w.heap.size,3,none⟩=some (I O X):=bxc (HBX.out _ (Below.refl _ _)).1 rfl
 have y4:W1.cell? ⟨w.heap.size,4,none⟩=some (I O Y):=bxc (HBX.out _ (Below.refl _ _)).1 rfl
 have y5:W1.cell? ⟨w.heap.size,5,none⟩=some (.bool wrp):=bxc (HBX.out _ (Below.refl _ _)).1 rfl
 have y6:W1.cell? ⟨w.heap.size,6,none⟩=some (I O 2):=bxc (HBX.out _ (Below.refl _ _)).1 rfl
 have y7:W1.cell? ⟨w.heap.size,7,none⟩=some (Sz a7 n7 c7):=bxc (HBX.out _ (Below.refl _ _)).1 rfl
 have y8:W1.cell? ⟨w.heap.size,8,none⟩=some (Sz a8 n8 c8):=bxc (HBX.out _ (Below.refl _ _)).1 rfl
 have y9:W1.cell? ⟨w.heap.size,9,none⟩=some (I O be):=bxc (HBX.out _ (Below.refl _ _)).1 rfl
 go_enter Tryd.func28,Tryd.ntmps28
 go_wp2_with fail
 rw[← HW.out]
 refine(QX.out _ HB1.out.1).mono ?_
 rintro e w2 ⟨o,rfl,hRK,hb2⟩
 have b2':=HB1.out.1.trans (hb2.mono HB1.out.1.size)
 have hro:=hRK w2 (fun g _ _=>rfl) (HR.out.1.later b2') (HR.out.2.1.later b2') (HR.out.2.2.later b2')
 obtain⟨b2,m2,k2,b7,m7,k7,b8,m8,k8,hcs,_⟩:=open_Vt hro
 rw[← HEE.out.1,← HEE.out.2.1,← HEE.out.2.2.1,← HEE.out.2.2.2.1,← HEE.out.2.2.2.2.1,← HEE.out.2.2.2.2.2.1,← HEE.out.2.2.2.2.2.2] at hcs
 subst hcs
 have i2:=HBX.out _ hb2
 have hz:=HB1.out.2
 have hzA:=hb2.size
 have HLD:(loadVar 31 ⟨w.heap.size+1,0,none⟩).run Tryd.prog (w2.setRow (w.heap.size+1) #[I O g0,I O g1,Sz b2 m2 k2,I O g3,I O g4,.bool g5,I O g6,Sz b7 m7 k7,Sz b8 m8 k8,I O g9])=.ok (.agg #[I O g0,I O g1,Sz b2 m2 k2,I O g3,I O g4,.bool g5,I O g6,Sz b7 m7 k7,Sz b8 m8 k8,I O g9]) (w2.setRow (w.heap.size+1) #[I O g0,I O g1,Sz b2 m2 k2,I O g3,I O g4,.bool g5,I O g6,Sz b7 m7 k7,Sz b8 m8 k8,I O g9]):=run_loadVar_row _ _ _ _ _ _ _ (setRow_heap _ _ _ _ _ _ i2.2) Tryd.underlying31 rfl (by kernel_rfl)
 have HF:Hid (Below w.heap.size w (w2.setRow (w.heap.size+1) #[I O g0,I O g1,Sz b2 m2 k2,I O g3,I O g4,.bool g5,I O g6,Sz b7 m7 k7,Sz b8 m8 k8,I O g9])∧RK w (w2.setRow (w.heap.size+1) #[I O g0,I O g1,Sz b2 m2 k2,I O g3,I O g4,.bool g5,I O g6,Sz b7 m7 k7,Sz b8 m8 k8,I O g9]) [I O g0,I O g1,Sz b2 m2 k2,I O g3,I O g4,.bool g5,I O g6,Sz b7 m7 k7,Sz b8 m8 k8,I O g9] D (Sz a n c) (Sz a7 n7 c7) (Sz a8 n8 c8) zs al pl):=by
   refine⟨below_setRow b2' (Nat.le_add_right _ 1) _,fun w'' hk r2 r7 r8=>hRK w'' (fun g hg1 hg2=>?_) r2 r7 r8⟩
   have e9:(w2.setRow (w.heap.size+1) #[I O g0,I O g1,Sz b2 m2 k2,I O g3,I O g4,.bool g5,I O g6,Sz b7 m7 k7,Sz b8 m8 k8,I O g9]).heap.size=w2.heap.size:=by simp[World.setRow]
   rw[hk g (by omega) (by rw[e9];exact hg2),setRow_other _ (w.heap.size+1) g _ (by omega)]
 clear b2' hro hRK hb2 y0 y1 y2 y3 y4 y5 y6 y7 y8 y9
 go_wp2_with (refine wpList_store_row rfl _ _ _ rfl _ _ rfl rfl _ _ i2.2 (by kernel_rfl) rfl (by simp[Value.oneCell']) ?_)
 (try simp only[Exit.inBlock,Exit.then])
 refine bodyPost_ret (by simp[results,Tryd.results28,asAddr,Act.put,HLD];try rfl) rfl ?_
 refine⟨[I O g0,I O g1,Sz b2 m2 k2,I O g3,I O g4,.bool g5,I O g6,Sz b7 m7 k7,Sz b8 m8 k8,I O g9],rfl,?_,HF.out.1⟩
 rw[HE.out]
 exact HF.out.2
end Go.Proofs.YthodinpflcbklaaDoor
namespace Go.Proofs.YthodinpflcbklaaDoor
open Go.RowKit
set_option maxRecDepth 100000
theorem sby_1(W H X Y be:Int)(wrp:Bool)(a a7 a8:Option Addr)(n c n7 c7 n8 c8:Nat)(zs al pl:List Int)(b:Int)(w:World)(hg:gokB (W,H,zs,X,Y,wrp,())=true)(h2:Reads (.sl .int) w [Sz a n c] zs)(h7:Reads (.sl .int) w [Sz a7 n7 c7] al)(h8:Reads (.sl .u8) w [Sz a8 n8 c8] pl)(hne:b≠91):
   Calls Tryd.prog 28 #[.agg #[I O W,I O H,Sz a n c,I O X,I O Y,.bool wrp,I O 1,Sz a7 n7 c7,Sz a8 n8 c8,I O be],I O b] w fun e w'=>∃ o,e=.returned (.agg o.toArray)∧RK w w' o (byteT (((W,H,zs,X,Y,wrp,()),1,al,pl,be,()):TD) b) (Sz a n c) (Sz a7 n7 c7) (Sz a8 n8 c8) zs al pl∧Below w.heap.size w w':=by
 obtain⟨W1,hW1,bW1,zW1,hA1,hZ1,HBX⟩:=mpro1 W H X Y 1 be wrp a a7 a8 n c n7 c7 n8 c8 w
 have HB1:Hid (Below w.heap.size w W1∧W1.heap.size=w.heap.size+2):=⟨bW1,zW1⟩
 have HW:Hid (W1=_):=hW1
 have HR:Hid (Reads (.sl .int) w [Sz a n c] zs∧Reads (.sl .int) w [Sz a7 n7 c7] al∧Reads (.sl .u8) w [Sz a8 n8 c8] pl):=⟨h2,h7,h8⟩
 have eb:(b==91)=false:=by simpa using hne
 have HE:Hid (byteT (((W,H,zs,X,Y,wrp,()),1,al,pl,be,()):TD) b=((W,H,zs,X,Y,wrp,()),(0:Int),al,pl,be,())):=by
   show (((W,H,zs,X,Y,wrp,()),escN b,al,pl,be,()):TD)=_
   unfold escN;rw[if_neg hne]
 have hVr:(W1.setCell ⟨w.heap.size,6,none⟩ (I O 0)).heap[w.heap.size+1]?=some (.cells #[I O 0,I O 0,Sz none 0 0,I O 0,I O 0,.bool false,I O 0,Sz none 0 0,Sz none 0 0,I O 0] 31 (0,0)):=by rw[box_other _ (by omega)];exact hZ1
 have HLD:(loadVar 31 ⟨w.heap.size+1,0,none⟩).run Tryd.prog ((W1.setCell ⟨w.heap.size,6,none⟩ (I O 0)).setRow (w.heap.size+1) #[I O W,I O H,Sz a n c,I O X,I O Y,.bool wrp,I O 0,Sz a7 n7 c7,Sz a8 n8 c8,I O be])=.ok (.agg #[I O W,I O H,Sz a n c,I O X,I O Y,.bool wrp,I O 0,Sz a7 n7 c7,Sz a8 n8 c8,I O be]) ((W1.setCell ⟨w.heap.size,6,none⟩ (I O 0)).setRow (w.heap.size+1) #[I O W,I O H,Sz a n c,I O X,I O Y,.bool wrp,I O 0,Sz a7 n7 c7,Sz a8 n8 c8,I O be]):=run_loadVar_row _ _ _ _ _ _ _ (setRow_heap _ _ _ _ _ _ hVr) Tryd.underlying31 rfl (by kernel_rfl)
 have HF:Hid (Below w.heap.size w ((W1.setCell ⟨w.heap.size,6,none⟩ (I O 0)).setRow (w.heap.size+1) #[I O W,I O H,Sz a n c,I O X,I O Y,.bool wrp,I O 0,Sz a7 n7 c7,Sz a8 n8 c8,I O be])):=below_setRow (Below.setCell (p:=⟨w.heap.size,6,none⟩) HB1.out.1 (Nat.le_refl _) _) (Nat.le_add_right _ 1) _
 have f6:W1.frozen? ⟨w.heap.size,6,none⟩=false:=box_frozen hA1
 clear hg h2 h7 h8 hW1 bW1 zW1 hA1 hZ1
 have y0:W1.cell? ⟨w.heap.size,0,none⟩=some (I O W):=bxc (HBX.out _ (Below.refl _ _)).1 rfl
 have y1:W1.cell? ⟨w.heap.size,1,none⟩=some (I O H):=bxc (HBX.out _ (Below.refl _ _)).1 rfl
 have y2:W1.cell? ⟨w.heap.size,2,none⟩=some (Sz a n c):=bxc (HBX.out _ (Below.refl _ _)).1 rfl
 have y3:W1.cell? ⟨w.heap.size,3,none⟩=some (I O X):=bxc (HBX.out _ (Below.refl _ _)).1 rfl
 have y4:W1.cell? ⟨w.heap.size,4,none⟩=some (I O Y):=bxc (HBX.out _ (Below.refl _ _)).1 rfl
 have y5:W1.cell? ⟨w.heap.size,5,none⟩=some (.bool wrp):=bxc (HBX.out _ (Below.refl _ _)).1 rfl
 have y6:W1.cell? ⟨w.heap.size,6,none⟩=some (I O 1):=bxc (HBX.out _ (Below.refl _ _)).1 rfl
 have y7:W1.cell? ⟨w.heap.size,7,none⟩=some (Sz a7 n7 c7):=bxc (HBX.out _ (Below.refl _ _)).1 rfl
 have y8:W1.cell? ⟨w.heap.size,8,none⟩=some (Sz a8 n8 c8):=bxc (HBX.out _ (Below.refl _ _)).1 rfl
 have y9:W1.cell? ⟨w.heap.size,9,none⟩=some (I O be):=bxc (HBX.out _ (Below.refl _ _)).1 rfl
 go_enter Tryd.func28,Tryd.ntmps28
 go_wp2_with (first | (rw[← HW.out]) | (refine wpList_store_row rfl _ _ _ rfl _ _ rfl rfl _ _ hVr (by kernel_rfl) rfl (by simp[Value.oneCell']) ?_))
 (try simp only[Exit.inBlock,Exit.then])
 refine bodyPost_ret (by simp[results,Tryd.results28,asAddr,Act.put,HLD];try rfl) rfl ?_
 refine⟨[I O W,I O H,Sz a n c,I O X,I O Y,.bool wrp,I O 0,Sz a7 n7 c7,Sz a8 n8 c8,I O be],rfl,?_,HF.out⟩
 rw[HE.out]
 intro w'' hk r2 r7 r8
 exact reads_Vt (d:=(((W,H,zs,X,Y,wrp,()),(0:Int),al,pl,be,()):TD)) r2 r7 r8
theorem sby_1b(W H X Y be:Int)(wrp:Bool)(a a7 a8:Option Addr)(n c n7 c7 n8 c8:Nat)(zs al pl:List Int)(w:World)(hg:gokB (W,H,zs,X,Y,wrp,())=true)(h2:Reads (.sl .int) w [Sz a n c] zs)(h7:Reads (.sl .int) w [Sz a7 n7 c7] al)(h8:Reads (.sl .u8) w [Sz a8 n8 c8] pl):
   Calls Tryd.prog 28 #[.agg #[I O W,I O H,Sz a n c,I O X,I O Y,.bool wrp,I O 1,Sz a7 n7 c7,Sz a8 n8 c8,I O be],I O 91] w fun e w'=>∃ o,e=.returned (.agg o.toArray)∧RK w w' o (byteT (((W,H,zs,X,Y,wrp,()),1,al,pl,be,()):TD) 91) (Sz a n c) (Sz a7 n7 c7) (Sz a8 n8 c8) zs al pl∧Below w.heap.size w w':=by
 obtain⟨W1,hW1,bW1,zW1,hA1,hZ1,HBX⟩:=mpro1 W H X Y 1 be wrp a a7 a8 n c n7 c7 n8 c8 w
 have HB1:Hid (Below w.heap.size w W1∧W1.heap.size=w.heap.size+2):=⟨bW1,zW1⟩
 have HW:Hid (W1=_):=hW1
 have HR:Hid (Reads (.sl .int) w [Sz a n c] zs∧Reads (.sl .int) w [Sz a7 n7 c7] al∧Reads (.sl .u8) w [Sz a8 n8 c8] pl):=⟨h2,h7,h8⟩
 have HE:Hid (byteT (((W,H,zs,X,Y,wrp,()),1,al,pl,be,()):TD) 91=((W,H,zs,X,Y,wrp,()),(2:Int),al,pl,be,())):=by
   show (((W,H,zs,X,Y,wrp,()),escN 91,al,pl,be,()):TD)=_
   rfl
 have hVr:((W1.setCell ⟨w.heap.size,6,none⟩ (I O 0)).setCell ⟨w.heap.size,6,none⟩ (I O 2)).heap[w.heap.size+1]?=some (.cells #[I O 0,I O 0,Sz none 0 0,I O 0,I O 0,.bool false,I O 0,Sz none 0 0,Sz none 0 0,I O 0] 31 (0,0)):=by rw[box_other _ (by omega)];rw[box_other _ (by omega)];exact hZ1
 have HLD:(loadVar 31 ⟨w.heap.size+1,0,none⟩).run Tryd.prog (((W1.setCell ⟨w.heap.size,6,none⟩ (I O 0)).setCell ⟨w.heap.size,6,none⟩ (I O 2)).setRow (w.heap.size+1) #[I O W,I O H,Sz a n c,I O X,I O Y,.bool wrp,I O 2,Sz a7 n7 c7,Sz a8 n8 c8,I O be])=.ok (.agg #[I O W,I O H,Sz a n c,I O X,I O Y,.bool wrp,I O 2,Sz a7 n7 c7,Sz a8 n8 c8,I O be]) (((W1.setCell ⟨w.heap.size,6,none⟩ (I O 0)).setCell ⟨w.heap.size,6,none⟩ (I O 2)).setRow (w.heap.size+1) #[I O W,I O H,Sz a n c,I O X,I O Y,.bool wrp,I O 2,Sz a7 n7 c7,Sz a8 n8 c8,I O be]):=run_loadVar_row _ _ _ _ _ _ _ (setRow_heap _ _ _ _ _ _ hVr) Tryd.underlying31 rfl (by kernel_rfl)
 have HF:Hid (Below w.heap.size w (((W1.setCell ⟨w.heap.size,6,none⟩ (I O 0)).setCell ⟨w.heap.size,6,none⟩ (I O 2)).setRow (w.heap.size+1) #[I O W,I O H,Sz a n c,I O X,I O Y,.bool wrp,I O 2,Sz a7 n7 c7,Sz a8 n8 c8,I O be])):=below_setRow (Below.setCell (p:=⟨w.heap.size,6,none⟩) (Below.setCell (p:=⟨w.heap.size,6,none⟩) HB1.out.1 (Nat.le_refl _) _) (Nat.le_refl _) _) (Nat.le_add_right _ 1) _
 have f6:W1.frozen? ⟨w.heap.size,6,none⟩=false:=box_frozen hA1
 clear hg h2 h7 h8 hW1 bW1 zW1 hA1 hZ1
 have y0:W1.cell? ⟨w.heap.size,0,none⟩=some (I O W):=bxc (HBX.out _ (Below.refl _ _)).1 rfl
 have y1:W1.cell? ⟨w.heap.size,1,none⟩=some (I O H):=bxc (HBX.out _ (Below.refl _ _)).1 rfl
 have y2:W1.cell? ⟨w.heap.size,2,none⟩=some (Sz a n c):=bxc (HBX.out _ (Below.refl _ _)).1 rfl
 have y3:W1.cell? ⟨w.heap.size,3,none⟩=some (I O X):=bxc (HBX.out _ (Below.refl _ _)).1 rfl
 have y4:W1.cell? ⟨w.heap.size,4,none⟩=some (I O Y):=bxc (HBX.out _ (Below.refl _ _)).1 rfl
 have y5:W1.cell? ⟨w.heap.size,5,none⟩=some (.bool wrp):=bxc (HBX.out _ (Below.refl _ _)).1 rfl
 have y6:W1.cell? ⟨w.heap.size,6,none⟩=some (I O 1):=bxc (HBX.out _ (Below.refl _ _)).1 rfl
 have y7:W1.cell? ⟨w.heap.size,7,none⟩=some (Sz a7 n7 c7):=bxc (HBX.out _ (Below.refl _ _)).1 rfl
 have y8:W1.cell? ⟨w.heap.size,8,none⟩=some (Sz a8 n8 c8):=bxc (HBX.out _ (Below.refl _ _)).1 rfl
 have y9:W1.cell? ⟨w.heap.size,9,none⟩=some (I O be):=bxc (HBX.out _ (Below.refl _ _)).1 rfl
 go_enter Tryd.func28,Tryd.ntmps28
 go_wp2_with (first | (rw[← HW.out]) | (refine wpList_store_row rfl _ _ _ rfl _ _ rfl rfl _ _ hVr (by kernel_rfl) rfl (by simp[Value.oneCell']) ?_))
 (try simp only[Exit.inBlock,Exit.then])
 refine bodyPost_ret (by simp[results,Tryd.results28,asAddr,Act.put,HLD];try rfl) rfl ?_
 refine⟨[I O W,I O H,Sz a n c,I O X,I O Y,.bool wrp,I O 2,Sz a7 n7 c7,Sz a8 n8 c8,I O be],rfl,?_,HF.out⟩
 rw[HE.out]
 intro w'' hk r2 r7 r8
 exact reads_Vt (d:=(((W,H,zs,X,Y,wrp,()),(2:Int),al,pl,be,()):TD)) r2 r7 r8
end Go.Proofs.YthodinpflcbklaaDoor
namespace Go.Proofs.YthodinpflcbklaaDoor
open Go.RowKit
set_option maxRecDepth 100000
theorem sby_any(W H X Y st be:Int)(wrp:Bool)(a a7 a8:Option Addr)(n c n7 c7 n8 c8:Nat)(zs al pl:List Int)(b:Int)(w:World)(hd:goodT ((W,H,zs,X,Y,wrp,()),st,al,pl,be,()))(h2:Reads (.sl .int) w [Sz a n c] zs)(h7:Reads (.sl .int) w [Sz a7 n7 c7] al)(h8:Reads (.sl .u8) w [Sz a8 n8 c8] pl)(hb:0≤b∧b≤255):
   Calls Tryd.prog 28 #[.agg #[I O W,I O H,Sz a n c,I O X,I O Y,.bool wrp,I O st,Sz a7 n7 c7,Sz a8 n8 c8,I O be],I O b] w fun e w'=>∃ o,e=.returned (.agg o.toArray)∧RK w w' o (byteT (((W,H,zs,X,Y,wrp,()),st,al,pl,be,()):TD) b) (Sz a n c) (Sz a7 n7 c7) (Sz a8 n8 c8) zs al pl∧Below w.heap.size w w':=by
 obtain⟨hv,hpb⟩:=hd
 obtain⟨g1,g2,g3,g4,g5⟩:=vt_parts hv
 have hg:gokB (W,H,zs,X,Y,wrp,())=true:=g1
 have g2:statB st=true:=g2
 have g3:argsB al st=true:=g3
 have g4:partB pl st=true:=g4
 have g5:bellB be=true:=g5
 have hpb:∀ x ∈ pl,0≤x∧x≤255:=hpb
 have hal:=args_bd g3
 have hal4:=args_len g3
 have hp:=part_or g4
 have hpl:=part_len3 hpb hp
 have hbe:0≤be∧be≤1000000:=by unfold bellB at g5;simpa using g5
 have hst:st=0∨st=1∨st=2:=by unfold statB at g2;simp at g2;omega
 rcases hst with rfl | rfl | rfl
 · exact sby_0 W H X Y be wrp a a7 a8 n c n7 c7 n8 c8 zs al pl b w hg h2 h7 h8 hpl hbe hal hal4 hb hp
 · by_cases hne:b=91
   · subst hne;exact sby_1b W H X Y be wrp a a7 a8 n c n7 c7 n8 c8 zs al pl w hg h2 h7 h8
   · exact sby_1 W H X Y be wrp a a7 a8 n c n7 c7 n8 c8 zs al pl b w hg h2 h7 h8 hne
 · exact sby_2 W H X Y be wrp a a7 a8 n c n7 c7 n8 c8 zs al pl b w hg h2 h7 h8 hpl hbe hal hal4 hb hp
end Go.Proofs.YthodinpflcbklaaDoor
