/-
  Parts of the road to VB, joined: SvX, SvXb, CntT, WVtByte.
-/
import Derived.Test.YthodinpflcbklaaDoorM38VB
import Derived.Test.YthodinpflcbklaaDoorM33VB
import Derived.Test.YthodinpflcbklaaDoorM21VB
import Derived.Test.YthodinpflcbklaaDoorM4VB
import Derived.Test.YthodinpflcbklaaDoorM5VB
open Go.Value renaming int → I,slice → Sz
open Go.IntKind renaming i64 → O
open List renaming setIfInBounds_toArray → lA,getElem_toArray → lB,getElem_cons_succ → lC,getElem_cons_zero → lD,set_cons_zero → lE,set_cons_succ → lF
set_option linter.unusedVariables false
set_option linter.unusedSimpArgs false
set_option maxHeartbeats 40000000
namespace Go.Proofs.YthodinpflcbklaaDoor
open Go.RowKit
set_option maxRecDepth 100000
theorem vt_rows{w:World}{x0 x1 x3 x4 x6 x9:Int}{x5:Bool}{b2 b7 b8:Option Addr}{m2 k2 m7 k7 m8 k8:Nat}{d:TD}(h:Reads shVt w [I O x0,I O x1,Sz b2 m2 k2,I O x3,I O x4,.bool x5,I O x6,Sz b7 m7 k7,Sz b8 m8 k8,I O x9] d):Reads (.sl .int) w [Sz b2 m2 k2] d.1.2.2.1∧Reads (.sl .int) w [Sz b7 m7 k7] d.2.2.1∧Reads (.sl .u8) w [Sz b8 m8 k8] d.2.2.2.1:=by
 obtain⟨a2,n2,c2,a7,n7,c7,a8,n8,c8,hcs,hG,hA,hP⟩:=open_Vt h
 obtain⟨a',n',c',hg,hR⟩:=open_Grid hG
 simp only[List.cons.injEq,Value.slice.injEq] at hcs hg
 obtain⟨_,_,⟨rfl,rfl,rfl⟩,_,_,_,_,⟨rfl,rfl,rfl⟩,⟨rfl,rfl,rfl⟩,_⟩:=hcs
 obtain⟨_,_,⟨rfl,rfl,rfl⟩,_⟩:=hg
 exact⟨hR,hA,hP⟩
theorem svb_no(W H X Y st be:Int)(wrp:Bool)(a a7 a8:Option Addr)(n c n7 c7 n8 c8:Nat)(zs al pl:List Int)(b:Int)(w:World)(h2:Reads (.sl .int) w [Sz a n c] zs)(h7:Reads (.sl .int) w [Sz a7 n7 c7] al)(h8:Reads (.sl .u8) w [Sz a8 n8 c8] pl)(hn8:n8≤1048576)(hv:vtB (((W,H,zs,X,Y,wrp,()),st,al,pl,be,()):TD)=false):
   Calls Tryd.prog 7 #[.agg #[I O W,I O H,Sz a n c,I O X,I O Y,.bool wrp,I O st,Sz a7 n7 c7,Sz a8 n8 c8,I O be],I O b] w fun e w'=>∃ o,e=.returned (.agg o.toArray)∧RO w w' o (byteA (((W,H,zs,X,Y,wrp,()),st,al,pl,be,()):TD) b)∧Below w.heap.size w w':=by
 obtain⟨W1,hW1,bW1,zW1,hA1,hZ1,HBX⟩:=mpro1 W H X Y st be wrp a a7 a8 n c n7 c7 n8 c8 w
 have HB1:Hid (Below w.heap.size w W1∧W1.heap.size=w.heap.size+2):=⟨bW1,zW1⟩
 have HW:Hid (W1=_):=hW1
 have qv:Hid (∀ w',Below w.heap.size w w'→Calls Tryd.prog 26 #[.agg #[I O W,I O H,Sz a n c,I O X,I O Y,.bool wrp,I O st,Sz a7 n7 c7,Sz a8 n8 c8,I O be]] w' fun e w''=>e=.returned (.bool false)∧Below w'.heap.size w' w''):=fun w' hw=>by
   have h9:=specVtok_any W H X Y st be wrp a a7 a8 n c n7 c7 n8 c8 zs al pl w' (h2.later hw) (h7.later hw) (h8.later hw) (by omega)
   exact h9.mono fun e w'' h=>⟨h.1.trans (congrArg (fun b=>Ending.returned (.bool b)) hv),h.2⟩
 have HE:Hid (byteA (((W,H,zs,X,Y,wrp,()),st,al,pl,be,()):TD) b=zeroT):=feedA_no hv
 clear h2 h7 h8 hn8 hv hW1 bW1 zW1 hA1 hZ1
 have y0:W1.cell? ⟨w.heap.size,0,none⟩=some (I O W):=bxc (HBX.out _ (Below.refl _ _)).1 rfl
 have y1:W1.cell? ⟨w.heap.size,1,none⟩=some (I O H):=bxc (HBX.out _ (Below.refl _ _)).1 rfl
 have y2:W1.cell? ⟨w.heap.size,2,none⟩=some (Sz a n c):=bxc (HBX.out _ (Below.refl _ _)).1 rfl
 have y3:W1.cell? ⟨w.heap.size,3,none⟩=some (I O X):=bxc (HBX.out _ (Below.refl _ _)).1 rfl
 have y4:W1.cell? ⟨w.heap.size,4,none⟩=some (I O Y):=bxc (HBX.out _ (Below.refl _ _)).1 rfl
 have y5:W1.cell? ⟨w.heap.size,5,none⟩=some (.bool wrp):=bxc (HBX.out _ (Below.refl _ _)).1 rfl
 have y6:W1.cell? ⟨w.heap.size,6,none⟩=some (I O st):=bxc (HBX.out _ (Below.refl _ _)).1 rfl
 have y7:W1.cell? ⟨w.heap.size,7,none⟩=some (Sz a7 n7 c7):=bxc (HBX.out _ (Below.refl _ _)).1 rfl
 have y8:W1.cell? ⟨w.heap.size,8,none⟩=some (Sz a8 n8 c8):=bxc (HBX.out _ (Below.refl _ _)).1 rfl
 have y9:W1.cell? ⟨w.heap.size,9,none⟩=some (I O be):=bxc (HBX.out _ (Below.refl _ _)).1 rfl
 go_enter Tryd.func7,Tryd.ntmps7
 go_wp2_with fail
 rw[← HW.out]
 refine(qv.out _ HB1.out.1).mono ?_
 rintro e w4 ⟨rfl,hb4⟩
 have b4:=HB1.out.1.trans (hb4.mono HB1.out.1.size)
 have i4:=HBX.out _ hb4
 clear y0 y1 y2 y3 y4 y5 y6 y7 y8 y9
 have HLD:(loadVar 31 ⟨w.heap.size+1,0,none⟩).run Tryd.prog (w4.setRow (w.heap.size+1) #[I O 0,I O 0,Sz none 0 0,I O 0,I O 0,.bool false,I O 0,Sz none 0 0,Sz none 0 0,I O 0])=.ok (.agg #[I O 0,I O 0,Sz none 0 0,I O 0,I O 0,.bool false,I O 0,Sz none 0 0,Sz none 0 0,I O 0]) (w4.setRow (w.heap.size+1) #[I O 0,I O 0,Sz none 0 0,I O 0,I O 0,.bool false,I O 0,Sz none 0 0,Sz none 0 0,I O 0]):=run_loadVar_row _ _ _ _ _ _ _ (setRow_heap _ _ _ _ _ _ i4.2) Tryd.underlying31 rfl (by kernel_rfl)
 have HF:Hid (Below w.heap.size w (w4.setRow (w.heap.size+1) #[I O 0,I O 0,Sz none 0 0,I O 0,I O 0,.bool false,I O 0,Sz none 0 0,Sz none 0 0,I O 0])):=below_setRow b4 (Nat.le_add_right _ 1) _
 go_wp2_with (refine wpList_store_row rfl _ _ _ rfl _ _ rfl rfl _ _ i4.2 (by kernel_rfl) rfl (by simp[Value.oneCell']) ?_)
 (try simp only[Exit.inBlock,Exit.then])
 refine bodyPost_ret (by simp[results,Tryd.results7,asAddr,Act.put,HLD];try rfl) rfl ?_
 refine⟨[I O 0,I O 0,Sz none 0 0,I O 0,I O 0,.bool false,I O 0,Sz none 0 0,Sz none 0 0,I O 0],rfl,fun w'' _=>?_,HF.out⟩
 rw[HE.out]
 exact(own_zeroT _ 0).reads
theorem svb_lo(W H X Y st be:Int)(wrp:Bool)(a a7 a8:Option Addr)(n c n7 c7 n8 c8:Nat)(zs al pl:List Int)(b:Int)(w:World)(h2:Reads (.sl .int) w [Sz a n c] zs)(h7:Reads (.sl .int) w [Sz a7 n7 c7] al)(h8:Reads (.sl .u8) w [Sz a8 n8 c8] pl)(hn8:n8≤1048576)(hv:vtB (((W,H,zs,X,Y,wrp,()),st,al,pl,be,()):TD)=true)(hb:b < 0):
   Calls Tryd.prog 7 #[.agg #[I O W,I O H,Sz a n c,I O X,I O Y,.bool wrp,I O st,Sz a7 n7 c7,Sz a8 n8 c8,I O be],I O b] w fun e w'=>∃ o,e=.returned (.agg o.toArray)∧RO w w' o (byteA (((W,H,zs,X,Y,wrp,()),st,al,pl,be,()):TD) b)∧Below w.heap.size w w':=by
 obtain⟨W1,hW1,bW1,zW1,hA1,hZ1,HBX⟩:=mpro1 W H X Y st be wrp a a7 a8 n c n7 c7 n8 c8 w
 have HB1:Hid (Below w.heap.size w W1∧W1.heap.size=w.heap.size+2):=⟨bW1,zW1⟩
 have HW:Hid (W1=_):=hW1
 have qv:Hid (∀ w',Below w.heap.size w w'→Calls Tryd.prog 26 #[.agg #[I O W,I O H,Sz a n c,I O X,I O Y,.bool wrp,I O st,Sz a7 n7 c7,Sz a8 n8 c8,I O be]] w' fun e w''=>e=.returned (.bool true)∧Below w'.heap.size w' w''):=fun w' hw=>by
   have h9:=specVtok_any W H X Y st be wrp a a7 a8 n c n7 c7 n8 c8 zs al pl w' (h2.later hw) (h7.later hw) (h8.later hw) (by omega)
   exact h9.mono fun e w'' h=>⟨h.1.trans (congrArg (fun b=>Ending.returned (.bool b)) hv),h.2⟩
 obtain⟨p1,p2,p3,p4,p5⟩:=vt_parts hv
 have p1:gokB (W,H,zs,X,Y,wrp,())=true:=p1
 have p3:argsB al st=true:=p3
 have p4:partB pl st=true:=p4
 have hpb:∀ x ∈ pl,0≤x∧x≤255:=byte_bt (fun i=>(reads_bytes h8).2.1.1 i)
 have hnn:1≤n∧n≤1048576:=by
   obtain⟨W',H',eW,eH,g1,g2,g3,g4,g5,hlen,hcl,hcu⟩:=gok_parts p1
   have e9:=(reads_ints h2).1
   have q1:1≤W'*H':=Nat.mul_pos (by omega) (by omega)
   have q2:W'*H'≤1000*1000:=Nat.mul_le_mul (by omega) (by omega)
   omega
 have qc:Hid (∀ w',Below w.heap.size w w'→Calls Tryd.prog 27 #[.agg #[I O W,I O H,Sz a n c,I O X,I O Y,.bool wrp,I O st,Sz a7 n7 c7,Sz a8 n8 c8,I O be]] w' fun e w''=>∃ o,e=.returned (.agg o.toArray)∧RO w' w'' o (((W,H,zs,X,Y,wrp,()),st,al,pl,be,()):TD)∧Below w'.heap.size w' w''):=fun w' hw=>scopy_any W H X Y st be wrp a a7 a8 n c n7 c7 n8 c8 zs al pl w' hnn (h2.later hw) (h7.later hw) (h8.later hw) (args_len p3) (part_len3 hpb (part_or p4))
 have dl:decide (b < 0)=true:=decide_eq_true hb
 have HE:Hid (byteA (((W,H,zs,X,Y,wrp,()),st,al,pl,be,()):TD) b=(((W,H,zs,X,Y,wrp,()),st,al,pl,be,()):TD)):=by
   show _=_
   unfold byteA oneB
   rw[if_neg (by omega),feedA_yes hv]
   rfl
 clear h2 h7 h8 hn8 hv p1 p2 p3 p4 p5 hpb hnn hW1 bW1 zW1 hA1 hZ1
 have y0:W1.cell? ⟨w.heap.size,0,none⟩=some (I O W):=bxc (HBX.out _ (Below.refl _ _)).1 rfl
 have y1:W1.cell? ⟨w.heap.size,1,none⟩=some (I O H):=bxc (HBX.out _ (Below.refl _ _)).1 rfl
 have y2:W1.cell? ⟨w.heap.size,2,none⟩=some (Sz a n c):=bxc (HBX.out _ (Below.refl _ _)).1 rfl
 have y3:W1.cell? ⟨w.heap.size,3,none⟩=some (I O X):=bxc (HBX.out _ (Below.refl _ _)).1 rfl
 have y4:W1.cell? ⟨w.heap.size,4,none⟩=some (I O Y):=bxc (HBX.out _ (Below.refl _ _)).1 rfl
 have y5:W1.cell? ⟨w.heap.size,5,none⟩=some (.bool wrp):=bxc (HBX.out _ (Below.refl _ _)).1 rfl
 have y6:W1.cell? ⟨w.heap.size,6,none⟩=some (I O st):=bxc (HBX.out _ (Below.refl _ _)).1 rfl
 have y7:W1.cell? ⟨w.heap.size,7,none⟩=some (Sz a7 n7 c7):=bxc (HBX.out _ (Below.refl _ _)).1 rfl
 have y8:W1.cell? ⟨w.heap.size,8,none⟩=some (Sz a8 n8 c8):=bxc (HBX.out _ (Below.refl _ _)).1 rfl
 have y9:W1.cell? ⟨w.heap.size,9,none⟩=some (I O be):=bxc (HBX.out _ (Below.refl _ _)).1 rfl
 go_enter Tryd.func7,Tryd.ntmps7
 go_wp2_with fail
 rw[← HW.out]
 refine(qv.out _ HB1.out.1).mono ?_
 rintro e w4 ⟨rfl,hb4⟩
 have b4:=HB1.out.1.trans (hb4.mono HB1.out.1.size)
 clear y0 y1 y2 y3 y4 y5 y6 y7 y8 y9
 have y0:w4.cell? ⟨w.heap.size,0,none⟩=some (I O W):=bxc (HBX.out _ hb4).1 rfl
 have y1:w4.cell? ⟨w.heap.size,1,none⟩=some (I O H):=bxc (HBX.out _ hb4).1 rfl
 have y2:w4.cell? ⟨w.heap.size,2,none⟩=some (Sz a n c):=bxc (HBX.out _ hb4).1 rfl
 have y3:w4.cell? ⟨w.heap.size,3,none⟩=some (I O X):=bxc (HBX.out _ hb4).1 rfl
 have y4:w4.cell? ⟨w.heap.size,4,none⟩=some (I O Y):=bxc (HBX.out _ hb4).1 rfl
 have y5:w4.cell? ⟨w.heap.size,5,none⟩=some (.bool wrp):=bxc (HBX.out _ hb4).1 rfl
 have y6:w4.cell? ⟨w.heap.size,6,none⟩=some (I O st):=bxc (HBX.out _ hb4).1 rfl
 have y7:w4.cell? ⟨w.heap.size,7,none⟩=some (Sz a7 n7 c7):=bxc (HBX.out _ hb4).1 rfl
 have y8:w4.cell? ⟨w.heap.size,8,none⟩=some (Sz a8 n8 c8):=bxc (HBX.out _ hb4).1 rfl
 have y9:w4.cell? ⟨w.heap.size,9,none⟩=some (I O be):=bxc (HBX.out _ hb4).1 rfl
 go_wp2_with fail
 refine(qc.out _ b4).mono ?_
 rintro e w5 ⟨o,rfl,hro,hb5⟩
 obtain⟨b2,m2,k2,b7,m7,k7,b8,m8,k8,hcs,_⟩:=open_Vt (hro w5 (fun g _ _=>rfl))
 have hcs:o=[I O W,I O H,Sz b2 m2 k2,I O X,I O Y,.bool wrp,I O st,Sz b7 m7 k7,Sz b8 m8 k8,I O be]:=hcs
 subst hcs
 clear y0 y1 y2 y3 y4 y5 y6 y7 y8 y9
 have k5:=hb4.trans (hb5.mono hb4.size)
 have b5:=b4.trans (hb5.mono b4.size)
 have hz:=HB1.out.2
 have z4:=hb4.size
 have iU:=(HBX.out _ (k5.alloc k5.size (.cells #[I O W,I O H,Sz b2 m2 k2,I O X,I O Y,.bool wrp,I O st,Sz b7 m7 k7,Sz b8 m8 k8,I O be] 31))).2
 have HLD:(loadVar 31 ⟨w.heap.size+1,0,none⟩).run Tryd.prog ((w5.alloc (.cells #[I O W,I O H,Sz b2 m2 k2,I O X,I O Y,.bool wrp,I O st,Sz b7 m7 k7,Sz b8 m8 k8,I O be] 31)).setRow (w.heap.size+1) #[I O W,I O H,Sz b2 m2 k2,I O X,I O Y,.bool wrp,I O st,Sz b7 m7 k7,Sz b8 m8 k8,I O be])=.ok (.agg #[I O W,I O H,Sz b2 m2 k2,I O X,I O Y,.bool wrp,I O st,Sz b7 m7 k7,Sz b8 m8 k8,I O be]) ((w5.alloc (.cells #[I O W,I O H,Sz b2 m2 k2,I O X,I O Y,.bool wrp,I O st,Sz b7 m7 k7,Sz b8 m8 k8,I O be] 31)).setRow (w.heap.size+1) #[I O W,I O H,Sz b2 m2 k2,I O X,I O Y,.bool wrp,I O st,Sz b7 m7 k7,Sz b8 m8 k8,I O be]):=run_loadVar_row _ _ _ _ _ _ _ (setRow_heap _ _ _ _ _ _ iU) Tryd.underlying31 rfl (by kernel_rfl)
 have HF:Hid (Below w.heap.size w ((w5.alloc (.cells #[I O W,I O H,Sz b2 m2 k2,I O X,I O Y,.bool wrp,I O st,Sz b7 m7 k7,Sz b8 m8 k8,I O be] 31)).setRow (w.heap.size+1) #[I O W,I O H,Sz b2 m2 k2,I O X,I O Y,.bool wrp,I O st,Sz b7 m7 k7,Sz b8 m8 k8,I O be])∧RO w ((w5.alloc (.cells #[I O W,I O H,Sz b2 m2 k2,I O X,I O Y,.bool wrp,I O st,Sz b7 m7 k7,Sz b8 m8 k8,I O be] 31)).setRow (w.heap.size+1) #[I O W,I O H,Sz b2 m2 k2,I O X,I O Y,.bool wrp,I O st,Sz b7 m7 k7,Sz b8 m8 k8,I O be]) [I O W,I O H,Sz b2 m2 k2,I O X,I O Y,.bool wrp,I O st,Sz b7 m7 k7,Sz b8 m8 k8,I O be] (((W,H,zs,X,Y,wrp,()),st,al,pl,be,()):TD)):=
   ⟨below_setRow (b5.alloc b5.size _) (Nat.le_add_right _ 1) _,fun w'' hk=>hro w'' fun g hg1 hg2=>by
     have e9:((w5.alloc (.cells #[I O W,I O H,Sz b2 m2 k2,I O X,I O Y,.bool wrp,I O st,Sz b7 m7 k7,Sz b8 m8 k8,I O be] 31)).setRow (w.heap.size+1) #[I O W,I O H,Sz b2 m2 k2,I O X,I O Y,.bool wrp,I O st,Sz b7 m7 k7,Sz b8 m8 k8,I O be]).heap.size=w5.heap.size+1:=by simp[World.setRow]
     rw[hk g (by omega) (by omega),setRow_other _ (w.heap.size+1) g _ (by omega),heap_alloc_old _ _ hg2]⟩
 clear b4 b5 hro hb5 k5 hb4 z4
 go_wp2_with (refine wpList_store_row rfl _ _ _ rfl _ _ rfl rfl _ _ iU (by kernel_rfl) rfl (by simp[Value.oneCell']) ?_)
 (try simp only[Exit.inBlock,Exit.then])
 refine bodyPost_ret (by simp[results,Tryd.results7,asAddr,Act.put,HLD];try rfl) rfl ?_
 refine⟨[I O W,I O H,Sz b2 m2 k2,I O X,I O Y,.bool wrp,I O st,Sz b7 m7 k7,Sz b8 m8 k8,I O be],rfl,?_,HF.out.1⟩
 rw[HE.out]
 exact HF.out.2
theorem svb_hi(W H X Y st be:Int)(wrp:Bool)(a a7 a8:Option Addr)(n c n7 c7 n8 c8:Nat)(zs al pl:List Int)(b:Int)(w:World)(h2:Reads (.sl .int) w [Sz a n c] zs)(h7:Reads (.sl .int) w [Sz a7 n7 c7] al)(h8:Reads (.sl .u8) w [Sz a8 n8 c8] pl)(hn8:n8≤1048576)(hv:vtB (((W,H,zs,X,Y,wrp,()),st,al,pl,be,()):TD)=true)(hb:255 < b):
   Calls Tryd.prog 7 #[.agg #[I O W,I O H,Sz a n c,I O X,I O Y,.bool wrp,I O st,Sz a7 n7 c7,Sz a8 n8 c8,I O be],I O b] w fun e w'=>∃ o,e=.returned (.agg o.toArray)∧RO w w' o (byteA (((W,H,zs,X,Y,wrp,()),st,al,pl,be,()):TD) b)∧Below w.heap.size w w':=by
 obtain⟨W1,hW1,bW1,zW1,hA1,hZ1,HBX⟩:=mpro1 W H X Y st be wrp a a7 a8 n c n7 c7 n8 c8 w
 have HB1:Hid (Below w.heap.size w W1∧W1.heap.size=w.heap.size+2):=⟨bW1,zW1⟩
 have HW:Hid (W1=_):=hW1
 have qv:Hid (∀ w',Below w.heap.size w w'→Calls Tryd.prog 26 #[.agg #[I O W,I O H,Sz a n c,I O X,I O Y,.bool wrp,I O st,Sz a7 n7 c7,Sz a8 n8 c8,I O be]] w' fun e w''=>e=.returned (.bool true)∧Below w'.heap.size w' w''):=fun w' hw=>by
   have h9:=specVtok_any W H X Y st be wrp a a7 a8 n c n7 c7 n8 c8 zs al pl w' (h2.later hw) (h7.later hw) (h8.later hw) (by omega)
   exact h9.mono fun e w'' h=>⟨h.1.trans (congrArg (fun b=>Ending.returned (.bool b)) hv),h.2⟩
 obtain⟨p1,p2,p3,p4,p5⟩:=vt_parts hv
 have p1:gokB (W,H,zs,X,Y,wrp,())=true:=p1
 have p3:argsB al st=true:=p3
 have p4:partB pl st=true:=p4
 have hpb:∀ x ∈ pl,0≤x∧x≤255:=byte_bt (fun i=>(reads_bytes h8).2.1.1 i)
 have hnn:1≤n∧n≤1048576:=by
   obtain⟨W',H',eW,eH,g1,g2,g3,g4,g5,hlen,hcl,hcu⟩:=gok_parts p1
   have e9:=(reads_ints h2).1
   have q1:1≤W'*H':=Nat.mul_pos (by omega) (by omega)
   have q2:W'*H'≤1000*1000:=Nat.mul_le_mul (by omega) (by omega)
   omega
 have qc:Hid (∀ w',Below w.heap.size w w'→Calls Tryd.prog 27 #[.agg #[I O W,I O H,Sz a n c,I O X,I O Y,.bool wrp,I O st,Sz a7 n7 c7,Sz a8 n8 c8,I O be]] w' fun e w''=>∃ o,e=.returned (.agg o.toArray)∧RO w' w'' o (((W,H,zs,X,Y,wrp,()),st,al,pl,be,()):TD)∧Below w'.heap.size w' w''):=fun w' hw=>scopy_any W H X Y st be wrp a a7 a8 n c n7 c7 n8 c8 zs al pl w' hnn (h2.later hw) (h7.later hw) (h8.later hw) (args_len p3) (part_len3 hpb (part_or p4))
 have dl:decide (b < 0)=false:=decide_eq_false (by omega)
 have dh:decide ((255:Int) < b)=true:=decide_eq_true hb
 have HE:Hid (byteA (((W,H,zs,X,Y,wrp,()),st,al,pl,be,()):TD) b=(((W,H,zs,X,Y,wrp,()),st,al,pl,be,()):TD)):=by
   show _=_
   unfold byteA oneB
   rw[if_neg (by omega),feedA_yes hv]
   rfl
 clear h2 h7 h8 hn8 hv p1 p2 p3 p4 p5 hpb hnn hW1 bW1 zW1 hA1 hZ1
 have y0:W1.cell? ⟨w.heap.size,0,none⟩=some (I O W):=bxc (HBX.out _ (Below.refl _ _)).1 rfl
 have y1:W1.cell? ⟨w.heap.size,1,none⟩=some (I O H):=bxc (HBX.out _ (Below.refl _ _)).1 rfl
 have y2:W1.cell? ⟨w.heap.size,2,none⟩=some (Sz a n c):=bxc (HBX.out _ (Below.refl _ _)).1 rfl
 have y3:W1.cell? ⟨w.heap.size,3,none⟩=some (I O X):=bxc (HBX.out _ (Below.refl _ _)).1 rfl
 have y4:W1.cell? ⟨w.heap.size,4,none⟩=some (I O Y):=bxc (HBX.out _ (Below.refl _ _)).1 rfl
 have y5:W1.cell? ⟨w.heap.size,5,none⟩=some (.bool wrp):=bxc (HBX.out _ (Below.refl _ _)).1 rfl
 have y6:W1.cell? ⟨w.heap.size,6,none⟩=some (I O st):=bxc (HBX.out _ (Below.refl _ _)).1 rfl
 have y7:W1.cell? ⟨w.heap.size,7,none⟩=some (Sz a7 n7 c7):=bxc (HBX.out _ (Below.refl _ _)).1 rfl
 have y8:W1.cell? ⟨w.heap.size,8,none⟩=some (Sz a8 n8 c8):=bxc (HBX.out _ (Below.refl _ _)).1 rfl
 have y9:W1.cell? ⟨w.heap.size,9,none⟩=some (I O be):=bxc (HBX.out _ (Below.refl _ _)).1 rfl
 go_enter Tryd.func7,Tryd.ntmps7
 go_wp2_with fail
 rw[← HW.out]
 refine(qv.out _ HB1.out.1).mono ?_
 rintro e w4 ⟨rfl,hb4⟩
 have b4:=HB1.out.1.trans (hb4.mono HB1.out.1.size)
 clear y0 y1 y2 y3 y4 y5 y6 y7 y8 y9
 have y0:w4.cell? ⟨w.heap.size,0,none⟩=some (I O W):=bxc (HBX.out _ hb4).1 rfl
 have y1:w4.cell? ⟨w.heap.size,1,none⟩=some (I O H):=bxc (HBX.out _ hb4).1 rfl
 have y2:w4.cell? ⟨w.heap.size,2,none⟩=some (Sz a n c):=bxc (HBX.out _ hb4).1 rfl
 have y3:w4.cell? ⟨w.heap.size,3,none⟩=some (I O X):=bxc (HBX.out _ hb4).1 rfl
 have y4:w4.cell? ⟨w.heap.size,4,none⟩=some (I O Y):=bxc (HBX.out _ hb4).1 rfl
 have y5:w4.cell? ⟨w.heap.size,5,none⟩=some (.bool wrp):=bxc (HBX.out _ hb4).1 rfl
 have y6:w4.cell? ⟨w.heap.size,6,none⟩=some (I O st):=bxc (HBX.out _ hb4).1 rfl
 have y7:w4.cell? ⟨w.heap.size,7,none⟩=some (Sz a7 n7 c7):=bxc (HBX.out _ hb4).1 rfl
 have y8:w4.cell? ⟨w.heap.size,8,none⟩=some (Sz a8 n8 c8):=bxc (HBX.out _ hb4).1 rfl
 have y9:w4.cell? ⟨w.heap.size,9,none⟩=some (I O be):=bxc (HBX.out _ hb4).1 rfl
 go_wp2_with fail
 refine(qc.out _ b4).mono ?_
 rintro e w5 ⟨o,rfl,hro,hb5⟩
 obtain⟨b2,m2,k2,b7,m7,k7,b8,m8,k8,hcs,_⟩:=open_Vt (hro w5 (fun g _ _=>rfl))
 have hcs:o=[I O W,I O H,Sz b2 m2 k2,I O X,I O Y,.bool wrp,I O st,Sz b7 m7 k7,Sz b8 m8 k8,I O be]:=hcs
 subst hcs
 clear y0 y1 y2 y3 y4 y5 y6 y7 y8 y9
 have k5:=hb4.trans (hb5.mono hb4.size)
 have b5:=b4.trans (hb5.mono b4.size)
 have hz:=HB1.out.2
 have z4:=hb4.size
 have iU:=(HBX.out _ (k5.alloc k5.size (.cells #[I O W,I O H,Sz b2 m2 k2,I O X,I O Y,.bool wrp,I O st,Sz b7 m7 k7,Sz b8 m8 k8,I O be] 31))).2
 have HLD:(loadVar 31 ⟨w.heap.size+1,0,none⟩).run Tryd.prog ((w5.alloc (.cells #[I O W,I O H,Sz b2 m2 k2,I O X,I O Y,.bool wrp,I O st,Sz b7 m7 k7,Sz b8 m8 k8,I O be] 31)).setRow (w.heap.size+1) #[I O W,I O H,Sz b2 m2 k2,I O X,I O Y,.bool wrp,I O st,Sz b7 m7 k7,Sz b8 m8 k8,I O be])=.ok (.agg #[I O W,I O H,Sz b2 m2 k2,I O X,I O Y,.bool wrp,I O st,Sz b7 m7 k7,Sz b8 m8 k8,I O be]) ((w5.alloc (.cells #[I O W,I O H,Sz b2 m2 k2,I O X,I O Y,.bool wrp,I O st,Sz b7 m7 k7,Sz b8 m8 k8,I O be] 31)).setRow (w.heap.size+1) #[I O W,I O H,Sz b2 m2 k2,I O X,I O Y,.bool wrp,I O st,Sz b7 m7 k7,Sz b8 m8 k8,I O be]):=run_loadVar_row _ _ _ _ _ _ _ (setRow_heap _ _ _ _ _ _ iU) Tryd.underlying31 rfl (by kernel_rfl)
 have HF:Hid (Below w.heap.size w ((w5.alloc (.cells #[I O W,I O H,Sz b2 m2 k2,I O X,I O Y,.bool wrp,I O st,Sz b7 m7 k7,Sz b8 m8 k8,I O be] 31)).setRow (w.heap.size+1) #[I O W,I O H,Sz b2 m2 k2,I O X,I O Y,.bool wrp,I O st,Sz b7 m7 k7,Sz b8 m8 k8,I O be])∧RO w ((w5.alloc (.cells #[I O W,I O H,Sz b2 m2 k2,I O X,I O Y,.bool wrp,I O st,Sz b7 m7 k7,Sz b8 m8 k8,I O be] 31)).setRow (w.heap.size+1) #[I O W,I O H,Sz b2 m2 k2,I O X,I O Y,.bool wrp,I O st,Sz b7 m7 k7,Sz b8 m8 k8,I O be]) [I O W,I O H,Sz b2 m2 k2,I O X,I O Y,.bool wrp,I O st,Sz b7 m7 k7,Sz b8 m8 k8,I O be] (((W,H,zs,X,Y,wrp,()),st,al,pl,be,()):TD)):=
   ⟨below_setRow (b5.alloc b5.size _) (Nat.le_add_right _ 1) _,fun w'' hk=>hro w'' fun g hg1 hg2=>by
     have e9:((w5.alloc (.cells #[I O W,I O H,Sz b2 m2 k2,I O X,I O Y,.bool wrp,I O st,Sz b7 m7 k7,Sz b8 m8 k8,I O be] 31)).setRow (w.heap.size+1) #[I O W,I O H,Sz b2 m2 k2,I O X,I O Y,.bool wrp,I O st,Sz b7 m7 k7,Sz b8 m8 k8,I O be]).heap.size=w5.heap.size+1:=by simp[World.setRow]
     rw[hk g (by omega) (by omega),setRow_other _ (w.heap.size+1) g _ (by omega),heap_alloc_old _ _ hg2]⟩
 clear b4 b5 hro hb5 k5 hb4 z4
 go_wp2_with (refine wpList_store_row rfl _ _ _ rfl _ _ rfl rfl _ _ iU (by kernel_rfl) rfl (by simp[Value.oneCell']) ?_)
 (try simp only[Exit.inBlock,Exit.then])
 refine bodyPost_ret (by simp[results,Tryd.results7,asAddr,Act.put,HLD];try rfl) rfl ?_
 refine⟨[I O W,I O H,Sz b2 m2 k2,I O X,I O Y,.bool wrp,I O st,Sz b7 m7 k7,Sz b8 m8 k8,I O be],rfl,?_,HF.out.1⟩
 rw[HE.out]
 exact HF.out.2
end Go.Proofs.YthodinpflcbklaaDoor
namespace Go.Proofs.YthodinpflcbklaaDoor
open Go.RowKit
set_option maxRecDepth 100000
theorem svb_in(W H X Y st be:Int)(wrp:Bool)(a a7 a8:Option Addr)(n c n7 c7 n8 c8:Nat)(zs al pl:List Int)(b:Int)(w:World)(h2:Reads (.sl .int) w [Sz a n c] zs)(h7:Reads (.sl .int) w [Sz a7 n7 c7] al)(h8:Reads (.sl .u8) w [Sz a8 n8 c8] pl)(hn8:n8≤1048576)(hv:vtB (((W,H,zs,X,Y,wrp,()),st,al,pl,be,()):TD)=true)(hb:0≤b∧b≤255):
   Calls Tryd.prog 7 #[.agg #[I O W,I O H,Sz a n c,I O X,I O Y,.bool wrp,I O st,Sz a7 n7 c7,Sz a8 n8 c8,I O be],I O b] w fun e w'=>∃ o,e=.returned (.agg o.toArray)∧RO w w' o (byteA (((W,H,zs,X,Y,wrp,()),st,al,pl,be,()):TD) b)∧Below w.heap.size w w':=by
 obtain⟨W1,hW1,bW1,zW1,hA1,hZ1,HBX⟩:=mpro1 W H X Y st be wrp a a7 a8 n c n7 c7 n8 c8 w
 have HB1:Hid (Below w.heap.size w W1∧W1.heap.size=w.heap.size+2):=⟨bW1,zW1⟩
 have HW:Hid (W1=_):=hW1
 have qv:Hid (∀ w',Below w.heap.size w w'→Calls Tryd.prog 26 #[.agg #[I O W,I O H,Sz a n c,I O X,I O Y,.bool wrp,I O st,Sz a7 n7 c7,Sz a8 n8 c8,I O be]] w' fun e w''=>e=.returned (.bool true)∧Below w'.heap.size w' w''):=fun w' hw=>by
   have h9:=specVtok_any W H X Y st be wrp a a7 a8 n c n7 c7 n8 c8 zs al pl w' (h2.later hw) (h7.later hw) (h8.later hw) (by omega)
   exact h9.mono fun e w'' h=>⟨h.1.trans (congrArg (fun b=>Ending.returned (.bool b)) hv),h.2⟩
 obtain⟨p1,p2,p3,p4,p5⟩:=vt_parts hv
 have p1:gokB (W,H,zs,X,Y,wrp,())=true:=p1
 have p3:argsB al st=true:=p3
 have p4:partB pl st=true:=p4
 have hpb:∀ x ∈ pl,0≤x∧x≤255:=byte_bt (fun i=>(reads_bytes h8).2.1.1 i)
 have hnn:1≤n∧n≤1048576:=by
   obtain⟨W',H',eW,eH,g1,g2,g3,g4,g5,hlen,hcl,hcu⟩:=gok_parts p1
   have e9:=(reads_ints h2).1
   have q1:1≤W'*H':=Nat.mul_pos (by omega) (by omega)
   have q2:W'*H'≤1000*1000:=Nat.mul_le_mul (by omega) (by omega)
   omega
 have qc:Hid (∀ w',Below w.heap.size w w'→Calls Tryd.prog 27 #[.agg #[I O W,I O H,Sz a n c,I O X,I O Y,.bool wrp,I O st,Sz a7 n7 c7,Sz a8 n8 c8,I O be]] w' fun e w''=>∃ o,e=.returned (.agg o.toArray)∧RO w' w'' o (((W,H,zs,X,Y,wrp,()),st,al,pl,be,()):TD)∧Below w'.heap.size w' w''):=fun w' hw=>scopy_any W H X Y st be wrp a a7 a8 n c n7 c7 n8 c8 zs al pl w' hnn (h2.later hw) (h7.later hw) (h8.later hw) (args_len p3) (part_len3 hpb (part_or p4))
 have dl:decide (b < 0)=false:=decide_eq_false (by omega)
 have dh:decide ((255:Int) < b)=false:=decide_eq_false (by omega)
 obtain⟨D,hD⟩:∃ D:TD,D=byteT (((W,H,zs,X,Y,wrp,()),st,al,pl,be,()):TD) b:=⟨_,rfl⟩
 have QB:Hid (∀ (w':World) (a a7 a8:Option Addr) (n c n7 c7 n8 c8:Nat),Reads (.sl .int) w' [Sz a n c] zs→Reads (.sl .int) w' [Sz a7 n7 c7] al→Reads (.sl .u8) w' [Sz a8 n8 c8] pl→Calls Tryd.prog 28 #[.agg #[I O W,I O H,Sz a n c,I O X,I O Y,.bool wrp,I O st,Sz a7 n7 c7,Sz a8 n8 c8,I O be],I O b] w' fun e w''=>∃ o,e=.returned (.agg o.toArray)∧RK w' w'' o D (Sz a n c) (Sz a7 n7 c7) (Sz a8 n8 c8) zs al pl∧Below w'.heap.size w' w''):=fun w' a a7 a8 n c n7 c7 n8 c8 r2 r7 r8=>by
   rw[hD]
   exact sby_any W H X Y st be wrp a a7 a8 n c n7 c7 n8 c8 zs al pl b w' ⟨hv,hpb⟩ r2 r7 r8 hb
 have HE:Hid (byteA (((W,H,zs,X,Y,wrp,()),st,al,pl,be,()):TD) b=D):=by
   show _=_
   unfold byteA oneB
   rw[if_pos hb,feedA_yes hv,hD]
   rfl
 obtain⟨g0,e0⟩:∃ x:Int,x=D.1.1:=⟨_,rfl⟩
 obtain⟨g1,e1⟩:∃ x:Int,x=D.1.2.1:=⟨_,rfl⟩
 obtain⟨g3,e3⟩:∃ x:Int,x=D.1.2.2.2.1:=⟨_,rfl⟩
 obtain⟨g4,e4⟩:∃ x:Int,x=D.1.2.2.2.2.1:=⟨_,rfl⟩
 obtain⟨g5,e5⟩:∃ x:Bool,x=D.1.2.2.2.2.2.1:=⟨_,rfl⟩
 obtain⟨g6,e6⟩:∃ x:Int,x=D.2.1:=⟨_,rfl⟩
 obtain⟨g9,e9⟩:∃ x:Int,x=D.2.2.2.2.1:=⟨_,rfl⟩
 have HEE:Hid (g0=D.1.1∧g1=D.1.2.1∧g3=D.1.2.2.2.1∧g4=D.1.2.2.2.2.1∧g5=D.1.2.2.2.2.2.1∧g6=D.2.1∧g9=D.2.2.2.2.1):=⟨e0,e1,e3,e4,e5,e6,e9⟩
 clear e0 e1 e3 e4 e5 e6 e9
 clear hb hD h2 h7 h8 hn8 hv p1 p2 p3 p4 p5 hpb hnn hW1 bW1 zW1 hA1 hZ1
 have y0:W1.cell? ⟨w.heap.size,0,none⟩=some (I O W):=bxc (HBX.out _ (Below.refl _ _)).1 rfl
 have y1:W1.cell? ⟨w.heap.size,1,none⟩=some (I O H):=bxc (HBX.out _ (Below.refl _ _)).1 rfl
 have y2:W1.cell? ⟨w.heap.size,2,none⟩=some (Sz a n c):=bxc (HBX.out _ (Below.refl _ _)).1 rfl
 have y3:W1.cell? ⟨w.heap.size,3,none⟩=some (I O X):=bxc (HBX.out _ (Below.refl _ _)).1 rfl
 have y4:W1.cell? ⟨w.heap.size,4,none⟩=some (I O Y):=bxc (HBX.out _ (Below.refl _ _)).1 rfl
 have y5:W1.cell? ⟨w.heap.size,5,none⟩=some (.bool wrp):=bxc (HBX.out _ (Below.refl _ _)).1 rfl
 have y6:W1.cell? ⟨w.heap.size,6,none⟩=some (I O st):=bxc (HBX.out _ (Below.refl _ _)).1 rfl
 have y7:W1.cell? ⟨w.heap.size,7,none⟩=some (Sz a7 n7 c7):=bxc (HBX.out _ (Below.refl _ _)).1 rfl
 have y8:W1.cell? ⟨w.heap.size,8,none⟩=some (Sz a8 n8 c8):=bxc (HBX.out _ (Below.refl _ _)).1 rfl
 have y9:W1.cell? ⟨w.heap.size,9,none⟩=some (I O be):=bxc (HBX.out _ (Below.refl _ _)).1 rfl
 go_enter Tryd.func7,Tryd.ntmps7
 go_wp2_with fail
 rw[← HW.out]
 refine(qv.out _ HB1.out.1).mono ?_
 rintro e w4 ⟨rfl,hb4⟩
 have b4:=HB1.out.1.trans (hb4.mono HB1.out.1.size)
 clear y0 y1 y2 y3 y4 y5 y6 y7 y8 y9
 have y0:w4.cell? ⟨w.heap.size,0,none⟩=some (I O W):=bxc (HBX.out _ hb4).1 rfl
 have y1:w4.cell? ⟨w.heap.size,1,none⟩=some (I O H):=bxc (HBX.out _ hb4).1 rfl
 have y2:w4.cell? ⟨w.heap.size,2,none⟩=some (Sz a n c):=bxc (HBX.out _ hb4).1 rfl
 have y3:w4.cell? ⟨w.heap.size,3,none⟩=some (I O X):=bxc (HBX.out _ hb4).1 rfl
 have y4:w4.cell? ⟨w.heap.size,4,none⟩=some (I O Y):=bxc (HBX.out _ hb4).1 rfl
 have y5:w4.cell? ⟨w.heap.size,5,none⟩=some (.bool wrp):=bxc (HBX.out _ hb4).1 rfl
 have y6:w4.cell? ⟨w.heap.size,6,none⟩=some (I O st):=bxc (HBX.out _ hb4).1 rfl
 have y7:w4.cell? ⟨w.heap.size,7,none⟩=some (Sz a7 n7 c7):=bxc (HBX.out _ hb4).1 rfl
 have y8:w4.cell? ⟨w.heap.size,8,none⟩=some (Sz a8 n8 c8):=bxc (HBX.out _ hb4).1 rfl
 have y9:w4.cell? ⟨w.heap.size,9,none⟩=some (I O be):=bxc (HBX.out _ hb4).1 rfl
 go_wp2_with fail
 refine(qc.out _ b4).mono ?_
 rintro e w5 ⟨o,rfl,hro,hb5⟩
 obtain⟨b2,m2,k2,b7,m7,k7,b8,m8,k8,hcs,_⟩:=open_Vt (hro w5 (fun g _ _=>rfl))
 have hcs:o=[I O W,I O H,Sz b2 m2 k2,I O X,I O Y,.bool wrp,I O st,Sz b7 m7 k7,Sz b8 m8 k8,I O be]:=hcs
 subst hcs
 clear y0 y1 y2 y3 y4 y5 y6 y7 y8 y9
 have k5:=hb4.trans (hb5.mono hb4.size)
 have b5:=b4.trans (hb5.mono b4.size)
 have hz:=HB1.out.2
 have z4:=hb4.size
 have bU:Below w5.heap.size w5 (w5.alloc (.cells #[I O W,I O H,Sz b2 m2 k2,I O X,I O Y,.bool wrp,I O st,Sz b7 m7 k7,Sz b8 m8 k8,I O be] 31)):=(Below.refl _ _).alloc (Nat.le_refl _) _
 obtain⟨r2,r7,r8⟩:=vt_rows (hro (w5.alloc (.cells #[I O W,I O H,Sz b2 m2 k2,I O X,I O Y,.bool wrp,I O st,Sz b7 m7 k7,Sz b8 m8 k8,I O be] 31)) (fun g _ hg=>heap_alloc_old _ _ hg))
 have zU:(w5.alloc (.cells #[I O W,I O H,Sz b2 m2 k2,I O X,I O Y,.bool wrp,I O st,Sz b7 m7 k7,Sz b8 m8 k8,I O be] 31)).heap.size=w5.heap.size+1:=by simp
 have kU:Below W1.heap.size W1 (w5.alloc (.cells #[I O W,I O H,Sz b2 m2 k2,I O X,I O Y,.bool wrp,I O st,Sz b7 m7 k7,Sz b8 m8 k8,I O be] 31)):=k5.alloc k5.size _
 go_wp2_with fail
 refine(QB.out _ _ _ _ _ _ _ _ _ _ r2 r7 r8).mono ?_
 rintro e w6 ⟨o,rfl,hRK,hb6⟩
 obtain⟨d2,m2',k2',d7,m7',k7',d8,m8',k8',hcs,_⟩:=open_Vt (hRK w6 (fun g _ _=>rfl) (r2.later hb6) (r7.later hb6) (r8.later hb6))
 rw[← HEE.out.1,← HEE.out.2.1,← HEE.out.2.2.1,← HEE.out.2.2.2.1,← HEE.out.2.2.2.2.1,← HEE.out.2.2.2.2.2.1,← HEE.out.2.2.2.2.2.2] at hcs
 subst hcs
 have k6:Below W1.heap.size W1 w6:=kU.trans (hb6.mono kU.size)
 have i6:=(HBX.out _ k6).2
 have b6:Below w.heap.size w w6:=HB1.out.1.trans (k6.mono HB1.out.1.size)
 have z5:=hb5.size
 have z6:=hb6.size
 have HLD:(loadVar 31 ⟨w.heap.size+1,0,none⟩).run Tryd.prog (w6.setRow (w.heap.size+1) #[I O g0,I O g1,Sz d2 m2' k2',I O g3,I O g4,.bool g5,I O g6,Sz d7 m7' k7',Sz d8 m8' k8',I O g9])=.ok (.agg #[I O g0,I O g1,Sz d2 m2' k2',I O g3,I O g4,.bool g5,I O g6,Sz d7 m7' k7',Sz d8 m8' k8',I O g9]) (w6.setRow (w.heap.size+1) #[I O g0,I O g1,Sz d2 m2' k2',I O g3,I O g4,.bool g5,I O g6,Sz d7 m7' k7',Sz d8 m8' k8',I O g9]):=run_loadVar_row _ _ _ _ _ _ _ (setRow_heap _ _ _ _ _ _ i6) Tryd.underlying31 rfl (by kernel_rfl)
 have HF:Hid (Below w.heap.size w (w6.setRow (w.heap.size+1) #[I O g0,I O g1,Sz d2 m2' k2',I O g3,I O g4,.bool g5,I O g6,Sz d7 m7' k7',Sz d8 m8' k8',I O g9])∧RO w (w6.setRow (w.heap.size+1) #[I O g0,I O g1,Sz d2 m2' k2',I O g3,I O g4,.bool g5,I O g6,Sz d7 m7' k7',Sz d8 m8' k8',I O g9]) [I O g0,I O g1,Sz d2 m2' k2',I O g3,I O g4,.bool g5,I O g6,Sz d7 m7' k7',Sz d8 m8' k8',I O g9] D):=by
   refine⟨below_setRow b6 (Nat.le_add_right _ 1) _,fun w'' hk=>?_⟩
   have e9:(w6.setRow (w.heap.size+1) #[I O g0,I O g1,Sz d2 m2' k2',I O g3,I O g4,.bool g5,I O g6,Sz d7 m7' k7',Sz d8 m8' k8',I O g9]).heap.size=w6.heap.size:=by simp[World.setRow]
   have hk2:∀ g,W1.heap.size≤g→g < w6.heap.size→w''.heap[g]?=w6.heap[g]?:=fun g h1 h2=>by
     rw[hk g (by omega) (by omega),setRow_other _ (w.heap.size+1) g _ (by omega)]
   obtain⟨q2,q7,q8⟩:=vt_rows (hro w'' (fun g h1 h2=>by
     rw[hk2 g (by omega) (by omega),hb6.block g (by omega),heap_alloc_old _ _ h2]))
   exact hRK w'' (fun g h1 h2=>hk2 g (by omega) h2) q2 q7 q8
 clear b4 b5 hro hb5 k5 hb4 z4 bU r2 r7 r8 kU hRK hb6 k6 b6 z5 z6
 go_wp2_with (refine wpList_store_row rfl _ _ _ rfl _ _ rfl rfl _ _ i6 (by kernel_rfl) rfl (by simp[Value.oneCell']) ?_)
 (try simp only[Exit.inBlock,Exit.then])
 refine bodyPost_ret (by simp[results,Tryd.results7,asAddr,Act.put,HLD];try rfl) rfl ?_
 refine⟨[I O g0,I O g1,Sz d2 m2' k2',I O g3,I O g4,.bool g5,I O g6,Sz d7 m7' k7',Sz d8 m8' k8',I O g9],rfl,?_,HF.out.1⟩
 rw[HE.out]
 exact HF.out.2
theorem specByte_any(W H X Y st be:Int)(wrp:Bool)(a a7 a8:Option Addr)(n c n7 c7 n8 c8:Nat)(zs al pl:List Int)(b:Int)(w:World)(h2:Reads (.sl .int) w [Sz a n c] zs)(h7:Reads (.sl .int) w [Sz a7 n7 c7] al)(h8:Reads (.sl .u8) w [Sz a8 n8 c8] pl)(hn8:n8≤1048576):
   Calls Tryd.prog 7 #[.agg #[I O W,I O H,Sz a n c,I O X,I O Y,.bool wrp,I O st,Sz a7 n7 c7,Sz a8 n8 c8,I O be],I O b] w fun e w'=>∃ o,e=.returned (.agg o.toArray)∧RO w w' o (byteA (((W,H,zs,X,Y,wrp,()),st,al,pl,be,()):TD) b)∧Below w.heap.size w w':=by
 cases hv:vtB (((W,H,zs,X,Y,wrp,()),st,al,pl,be,()):TD) with
 | false=>exact svb_no W H X Y st be wrp a a7 a8 n c n7 c7 n8 c8 zs al pl b w h2 h7 h8 hn8 hv
 | true =>
   by_cases h0:b < 0
   · exact svb_lo W H X Y st be wrp a a7 a8 n c n7 c7 n8 c8 zs al pl b w h2 h7 h8 hn8 hv h0
   by_cases h1:255 < b
   · exact svb_hi W H X Y st be wrp a a7 a8 n c n7 c7 n8 c8 zs al pl b w h2 h7 h8 hn8 hv h1
   · exact svb_in W H X Y st be wrp a a7 a8 n c n7 c7 n8 c8 zs al pl b w h2 h7 h8 hn8 hv ⟨by omega,by omega⟩
end Go.Proofs.YthodinpflcbklaaDoor
namespace Go.Proofs.YthodinpflcbklaaDoor
open Go.RowKit
theorem cntT(d:shVt.D)(h:shVt.sz d≤1048576):shVt.cntV d≤1000000000:=by
 have h1:=shVt.cntV_le d
 have h2:=shVt.cnt_le d
 have h3:shVt.wd≤100:=by decide
 have h4:shVt.wd*(shVt.sz d+1)≤100*1048577:=Nat.mul_le_mul h3 (by omega)
 omega
end Go.Proofs.YthodinpflcbklaaDoor
namespace Go.Proofs.YthodinpflcbklaaDoor
open Go.RowKit
theorem part_lenB{a:Option Addr}{n c:Nat}{w:World}{d:shVt.D}(h:Reads (.sl .u8) w [Sz a n c] d.2.2.2.1)(hs:shVt.sz d≤1048576):n≤1048576:=by
 have h1:=sz_Vt d
 have h2:=(reads_bytes h).1
 have h3:List.length (α:=Int) d.2.2.2.1≤Sh.sz (.sl .u8) d.2.2.2.1:=Nat.le_add_right _ _
 omega
theorem nil_own{s:Sh}{w:World}{B:Nat}{a:Option Addr}{n c:Nat}{l:List s.D}{F:List Nat}(h:Own (.sl s) w B [Sz a n c] l F):a=none→n=0∧c=0:=by
 rintro rfl
 rcases h with ⟨h1,_⟩ | ⟨g,cap,hv⟩
 · simp at h1;exact h1
 · obtain⟨t,cur,Cs,Fs,he,_⟩:=hv
   simp at he
theorem specVtbyte_ok(c:List Value)(d:shVt.D)(b:Int)(w:World)(h:Reads shVt w c d)(hs:shVt.sz d≤1048576):
   Calls Tryd.prog 7 #[.agg c.toArray,I O b] w fun e w'=>∃ o,e=.returned (.agg o.toArray)∧Reads shVt w' o (byteA d b)∧Below w.heap.size w w':=by
 obtain⟨a2,n2,c2,a7,n7,c7,a8,n8,c8,rfl,h0,h2,h3⟩:=open_Vt h
 obtain⟨_,_,_,hc,hg⟩:=open_Grid h0
 simp only[List.cons.injEq,Value.slice.injEq,true_and,and_true] at hc
 obtain⟨rfl,rfl,rfl⟩:=hc
 refine(specByte_any _ _ _ _ _ _ _ a2 a7 a8 n2 c2 n7 c7 n8 c8 d.1.2.2.1 d.2.2.1 d.2.2.2.1 b w hg h2 h3 (part_lenB h3 hs)).mono ?_
 rintro e w' ⟨o,he,hro,hb⟩
 exact⟨o,he,hro w' (fun _ _ _=>rfl),hb⟩
theorem implVtbyte_ok(c:List Value)(d:shVt.D)(b:Int)(w:World)(G:List Nat)(hT:Tabs w)(h:Own shVt w 0 c d G)(hs:shVt.sz d≤1048576):
   Calls Tryd.prog 9 #[.agg c.toArray,I O b] w fun e w'=>∃ o F,e=.returned (.agg o.toArray)∧Own shVt w' w.heap.size o (byteA d b) F∧F.Nodup∧Below w.heap.size w w':=by
 obtain⟨a2,n2,c2,F0,a7,n7,c7,F2,a8,n8,c8,F3,rfl,_,o0,o2,o3⟩:=openO_Vt h
 obtain⟨_,_,_,hc,hg⟩:=open_Grid o0.reads
 simp only[List.cons.injEq,Value.slice.injEq,true_and,and_true] at hc
 obtain⟨rfl,rfl,rfl⟩:=hc
 exact implByte_any _ _ _ _ _ _ _ a2 a7 a8 n2 c2 n7 c7 n8 c8 d.1.2.2.1 d.2.2.1 d.2.2.2.1 b w hT hg o2.reads o3.reads (nil_own o2) (nil_own o3) (part_lenB o3.reads hs)
theorem sz_u8s(d:List Int):Sh.sz (.sl .u8) d=d.length:=by
 show List.length d+(List.map (fun _=>0) d).sum=d.length
 rw[sum_zero];rfl
theorem sz_good{D:TD}(h:goodT D):shVt.sz D≤1048576:=by
 obtain⟨⟨x0,x1,zs,x3,x4,x5,u⟩,st,al,pl,be,u2⟩:=D
 obtain⟨hv,hp⟩:=h
 obtain⟨p1,p2,p3,p4,p5⟩:=vt_parts hv
 have p1:gokB (x0,x1,zs,x3,x4,x5,())=true:=p1
 have p3:argsB al st=true:=p3
 have p4:partB pl st=true:=p4
 have hp:∀ x ∈ pl,0≤x∧x≤255:=hp
 have a3:=args_len p3
 have a4:=part_len3 hp (part_or p4)
 have a5:zs.length≤1000000:=by
   obtain⟨W',H',eW,eH,g1,g2,g3,g4,g5,hlen,hcl,hcu⟩:=gok_parts p1
   have q2:W'*H'≤1000*1000:=Nat.mul_le_mul (by omega) (by omega)
   omega
 have h1:=sz_Vt ((x0,x1,zs,x3,x4,x5,u),st,al,pl,be,u2)
 have h4:=sz_Grid (x0,x1,zs,x3,x4,x5,u)
 have h5:Sh.sz (.sl .int) zs=zs.length:=sz_ints _
 have h6:Sh.sz (.sl .int) al=al.length:=sz_ints _
 have h7:Sh.sz (.sl .u8) pl=pl.length:=sz_u8s _
 have h1:shVt.sz ((x0,x1,zs,x3,x4,x5,u),st,al,pl,be,u2)=shGrid.sz (x0,x1,zs,x3,x4,x5,u)+Sh.sz (.sl .int) al+Sh.sz (.sl .u8) pl:=h1
 have h4:shGrid.sz (x0,x1,zs,x3,x4,x5,u)=Sh.sz (.sl .int) zs:=h4
 show shVt.sz ((x0,x1,zs,x3,x4,x5,u),st,al,pl,be,u2)≤1048576
 rw[h1,h4,h5,h6,h7]
 omega
theorem good_reads{w:World}{c:List Value}{d:shVt.D}(h:Reads shVt w c d)(hv:vtB d=true):goodT d:=by
 obtain⟨a2,n2,c2,a7,n7,c7,a8,n8,c8,rfl,h0,h2,h3⟩:=open_Vt h
 exact⟨hv,byte_bt (fun i=>(reads_bytes h3).2.1.1 i)⟩
theorem sz_byteA{w:World}{c:List Value}{d:shVt.D}(h:Reads shVt w c d)(b:Int):shVt.sz (byteA d b)≤1048576:=by
 cases hv:vtB d with
 | false =>
   rw[show byteA d b=zeroT from feedA_no hv]
   exact Nat.le_trans (Nat.le_of_eq (show shVt.sz zeroT=0 from rfl)) (Nat.zero_le _)
 | true =>
   have hg:=good_reads h hv
   rw[show byteA d b=feedT d (oneB b) from feedA_yes hv]
   unfold oneB
   by_cases hb:0≤b∧b≤255
   · rw[if_pos hb];exact sz_good (byte_good hg hb)
   · rw[if_neg hb];exact sz_good hg
theorem vtByte_law(cs:List Value)(d:shVt.D)(b:Int)(w:World)(hT:Tabs w)(hr:Reads shVt w cs d):
   Calls Tryd.prog 3 #[.agg cs.toArray,I O b] w fun e w'=>e=.returned (.bool true)∧Below w.heap.size w w':=
 vtByte_over cs d b (byteA d b) w hr (sz_byteA hr b) (cntT _ (sz_byteA hr b)) (cntT d)
   (fun w' c G h hs hb=>specVtbyte_ok c d b w' h.reads hs)
   (fun w' c G h hs hb=>implVtbyte_ok c d b w' G (hT.later hb) h hs)
end Go.Proofs.YthodinpflcbklaaDoor
