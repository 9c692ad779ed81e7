/-
  Parts of the road to VB, joined: SvC, SvN.
-/
import Derived.Test.YthodinpflcbklaaDoorM21VB
open Go.Value renaming int → I,slice → Sz
open Go.IntKind renaming i64 → O
open List renaming setIfInBounds_toArray → lA,getElem_toArray → lB,getElem_cons_succ → lC,getElem_cons_zero → lD,set_cons_zero → lE,set_cons_succ → lF
set_option linter.unusedVariables false
set_option linter.unusedSimpArgs false
set_option maxHeartbeats 40000000
namespace Go.Proofs.YthodinpflcbklaaDoor
open Go.RowKit
set_option maxRecDepth 100000
theorem sact_A(W H X Y st be:Int)(wrp:Bool)(a a7 a8:Option Addr)(n c n7 c7 n8 c8:Nat)(zs al pl:List Int)(w:World)(hg:gokB (W,H,zs,X,Y,wrp,())=true)(h2:Reads (.sl .int) w [Sz a n c] zs)(h7:Reads (.sl .int) w [Sz a7 n7 c7] al)(h8:Reads (.sl .u8) w [Sz a8 n8 c8] pl)(hal:∀ i,0≤at0 al i∧at0 al i≤9999):
   Calls Tryd.prog 72 #[.agg #[I O W,I O H,Sz a n c,I O X,I O Y,.bool wrp,I O st,Sz a7 n7 c7,Sz a8 n8 c8,I O be],I O 65] w fun e w'=>∃ o,e=.returned (.agg o.toArray)∧RK w w' o (((doD (W,H,zs,X,Y,wrp,()) al 65,(0:Int),[],pl,be,()):TD)) (Sz a n c) (Sz a7 n7 c7) (Sz a8 n8 c8) zs al pl∧Below w.heap.size w w':=by
 obtain⟨W2,hW2,bW2,zW2,hA2,hZ2,hG2,HBX⟩:=mpro2 W H X Y st be wrp a a7 a8 n c n7 c7 n8 c8 w
 have HB2:Hid (Below w.heap.size w W2∧W2.heap.size=w.heap.size+3):=⟨bW2,zW2⟩
 have HW:Hid (W2=_):=hW2
 have HR:Hid (Reads (.sl .int) w [Sz a n c] zs∧Reads (.sl .u8) w [Sz a8 n8 c8] pl):=⟨h2,h8⟩
 obtain⟨W',H',eW,eH,g1,g2,g3,g4,g5,hlen,hcl,hcu⟩:=gok_parts hg
 obtain⟨c1,c2,c3,c4,c5⟩:=cursB_iff.1 hcu
 obtain⟨hl7,hr7,_,_⟩:=reads_ints h7
 obtain⟨N,hN⟩:∃ N,N=argM al 0 1:=⟨_,rfl⟩
 have hNb:1≤N∧N≤9999:=by rw[hN];have:=hal 0;unfold argM;split <;> omega
 have hNc:N=cntN al 0:=by rw[hN];exact argM_cnt (hal 0).1
 have QA:Hid (Calls Tryd.prog 87 #[Sz a7 n7 c7,I O 0,I O 1] W2 fun e w'=>e=.returned (I O N)∧Below W2.heap.size W2 w'):=by rw[hN];exact sarg_any a7 n7 c7 al 0 1 W2 hl7 (hr7.later bW2) (by omega)
 have hYW:0≤Y*W∧Y*W≤40000:=by
   have q1:0≤Y*W:=Int.mul_nonneg (by omega) (by omega)
   have q2:Y*W≤200*200:=Int.mul_le_mul (by omega) (by omega) (by omega) (by omega)
   omega
 obtain⟨PP,hPP⟩:∃ P,P=Y*W:=⟨_,rfl⟩
 have wp1:IntKind.i64.wrap (Y*W)=PP:=by rw[wrap_i64_in _ (by omega) (by omega)];exact hPP.symm
 have wp2:IntKind.i64.wrap (PP+X)=PP+X:=wrap_i64_in _ (by omega) (by omega)
 have wq:IntKind.i64.wrap (Y - N)=Y - N:=by simp[IntKind.wrap,IntKind.bits,IntKind.signed];omega
 have HE:Hid (((doD (W,H,zs,X,Y,wrp,()) al 65,(0:Int),[],pl,be,()):TD)=(goD (W,H,zs,X,Y,wrp,()) (X) (Y - N),(0:Int),[],pl,be,())):=by
   rw[hNc]
   rfl
 have QG:Hid (∀ w',Below w.heap.size w w'→Calls Tryd.prog 44 #[.agg #[I O W,I O H,Sz a n c,I O X,I O Y,.bool wrp],I O (X),I O (Y - N)] w' fun e w''=>GAns w' w'' e (goD (W,H,zs,X,Y,wrp,()) (X) (Y - N))):=fun w' hb=>sgo_any (g:=(W,H,zs,X,Y,wrp,())) (X) (Y - N) w' hg (h2.later hb)
 clear hg h2 h7 h8 hal hN hNc hl7 hr7 hlen hcl hcu hW2 bW2 zW2 hA2 hZ2 hG2 eW eH hPP hYW
 have y0:W2.cell? ⟨w.heap.size,0,none⟩=some (I O W):=bxc (HBX.out _ (Below.refl _ _)).1 rfl
 have y1:W2.cell? ⟨w.heap.size,1,none⟩=some (I O H):=bxc (HBX.out _ (Below.refl _ _)).1 rfl
 have y2:W2.cell? ⟨w.heap.size,2,none⟩=some (Sz a n c):=bxc (HBX.out _ (Below.refl _ _)).1 rfl
 have y3:W2.cell? ⟨w.heap.size,3,none⟩=some (I O X):=bxc (HBX.out _ (Below.refl _ _)).1 rfl
 have y4:W2.cell? ⟨w.heap.size,4,none⟩=some (I O Y):=bxc (HBX.out _ (Below.refl _ _)).1 rfl
 have y5:W2.cell? ⟨w.heap.size,5,none⟩=some (.bool wrp):=bxc (HBX.out _ (Below.refl _ _)).1 rfl
 have y6:W2.cell? ⟨w.heap.size,6,none⟩=some (I O st):=bxc (HBX.out _ (Below.refl _ _)).1 rfl
 have y7:W2.cell? ⟨w.heap.size,7,none⟩=some (Sz a7 n7 c7):=bxc (HBX.out _ (Below.refl _ _)).1 rfl
 have y8:W2.cell? ⟨w.heap.size,8,none⟩=some (Sz a8 n8 c8):=bxc (HBX.out _ (Below.refl _ _)).1 rfl
 have y9:W2.cell? ⟨w.heap.size,9,none⟩=some (I O be):=bxc (HBX.out _ (Below.refl _ _)).1 rfl
 have z0:W2.cell? ⟨w.heap.size+1+1,0,none⟩=some (I O W):=bxc (HBX.out _ (Below.refl _ _)).2.2 rfl
 have z1:W2.cell? ⟨w.heap.size+1+1,1,none⟩=some (I O H):=bxc (HBX.out _ (Below.refl _ _)).2.2 rfl
 have z2:W2.cell? ⟨w.heap.size+1+1,2,none⟩=some (Sz a n c):=bxc (HBX.out _ (Below.refl _ _)).2.2 rfl
 have z3:W2.cell? ⟨w.heap.size+1+1,3,none⟩=some (I O X):=bxc (HBX.out _ (Below.refl _ _)).2.2 rfl
 have z4:W2.cell? ⟨w.heap.size+1+1,4,none⟩=some (I O Y):=bxc (HBX.out _ (Below.refl _ _)).2.2 rfl
 have z5:W2.cell? ⟨w.heap.size+1+1,5,none⟩=some (.bool wrp):=bxc (HBX.out _ (Below.refl _ _)).2.2 rfl
 go_enter Tryd.func72,Tryd.ntmps72
 go_wp2_with fail
 rw[← HW.out]
 refine QA.out.mono ?_
 rintro e w3 ⟨rfl,hb3⟩
 have b3:=HB2.out.1.trans (hb3.mono HB2.out.1.size)
 have k3:=hb3
 clear y0 y1 y2 y3 y4 y5 y6 y7 y8 y9 z0 z1 z2 z3 z4 z5 hb3
 have z0:w3.cell? ⟨w.heap.size+1+1,0,none⟩=some (I O W):=bxc (HBX.out _ k3).2.2 rfl
 have z1:w3.cell? ⟨w.heap.size+1+1,1,none⟩=some (I O H):=bxc (HBX.out _ k3).2.2 rfl
 have z2:w3.cell? ⟨w.heap.size+1+1,2,none⟩=some (Sz a n c):=bxc (HBX.out _ k3).2.2 rfl
 have z3:w3.cell? ⟨w.heap.size+1+1,3,none⟩=some (I O X):=bxc (HBX.out _ k3).2.2 rfl
 have z4:w3.cell? ⟨w.heap.size+1+1,4,none⟩=some (I O Y):=bxc (HBX.out _ k3).2.2 rfl
 have z5:w3.cell? ⟨w.heap.size+1+1,5,none⟩=some (.bool wrp):=bxc (HBX.out _ k3).2.2 rfl
 go_wp2_with fail
 refine(QG.out _ b3).mono ?_
 rintro e w4 ⟨a5,n5,c5',F,rfl,ho,hb4⟩
 clear z0 z1 z2 z3 z4 z5
 have b4:=b3.trans (hb4.mono b3.size)
 have k4:=k3.trans (hb4.mono k3.size)
 have i4:=HBX.out _ k4
 obtain⟨VV,hVV⟩:∃ U,U=w4.setCells w.heap.size 0 (#[I O W,I O H,Sz a5 n5 c5',I O (clampG (X) W),I O (clampG (Y - N) H),.bool false]:Array Value).toList:=⟨_,rfl⟩
 have hVb:VV.heap[w.heap.size]?=some (.cells #[I O W,I O H,Sz a5 n5 c5',I O (clampG (X) W),I O (clampG (Y - N) H),.bool false,I O st,Sz a7 n7 c7,Sz a8 n8 c8,I O be] 31 (0,0)):=by rw[hVV];exact six_in i4.1
 have hth:w4.there w.heap.size 0 6:=six_there i4.1
 have hVr:((VV.setCell ⟨w.heap.size,6,none⟩ (I O 0)).setCell ⟨w.heap.size,7,none⟩ (Sz none 0 0)).heap[w.heap.size+1]?=some (.cells #[I O 0,I O 0,Sz none 0 0,I O 0,I O 0,.bool false,I O 0,Sz none 0 0,Sz none 0 0,I O 0] 31 (0,0)):=by rw[box_other _ (by omega),box_other _ (by omega),hVV,setCells_other (by omega)];exact i4.2.1
 have q0:VV.cell? ⟨w.heap.size,0,none⟩=some (I O W):=bxc hVb rfl
 have q1:VV.cell? ⟨w.heap.size,1,none⟩=some (I O H):=bxc hVb rfl
 have q2:VV.cell? ⟨w.heap.size,2,none⟩=some (Sz a5 n5 c5'):=bxc hVb rfl
 have q3:VV.cell? ⟨w.heap.size,3,none⟩=some (I O (clampG (X) W)):=bxc hVb rfl
 have q4:VV.cell? ⟨w.heap.size,4,none⟩=some (I O (clampG (Y - N) H)):=bxc hVb rfl
 have q5:VV.cell? ⟨w.heap.size,5,none⟩=some (.bool false):=bxc hVb rfl
 have q6:VV.cell? ⟨w.heap.size,6,none⟩=some (I O st):=bxc hVb rfl
 have q7:VV.cell? ⟨w.heap.size,7,none⟩=some (Sz a7 n7 c7):=bxc hVb rfl
 have q8:VV.cell? ⟨w.heap.size,8,none⟩=some (Sz a8 n8 c8):=bxc hVb rfl
 have q9:VV.cell? ⟨w.heap.size,9,none⟩=some (I O be):=bxc hVb rfl
 have f6:VV.frozen? ⟨w.heap.size,6,none⟩=false:=box_frozen hVb
 have f7:VV.frozen? ⟨w.heap.size,7,none⟩=false:=box_frozen hVb
 have HLD:(loadVar 31 ⟨w.heap.size+1,0,none⟩).run Tryd.prog (((VV.setCell ⟨w.heap.size,6,none⟩ (I O 0)).setCell ⟨w.heap.size,7,none⟩ (Sz none 0 0)).setRow (w.heap.size+1) #[I O W,I O H,Sz a5 n5 c5',I O (clampG (X) W),I O (clampG (Y - N) H),.bool false,I O 0,Sz none 0 0,Sz a8 n8 c8,I O be])=.ok (.agg #[I O W,I O H,Sz a5 n5 c5',I O (clampG (X) W),I O (clampG (Y - N) H),.bool false,I O 0,Sz none 0 0,Sz a8 n8 c8,I O be]) (((VV.setCell ⟨w.heap.size,6,none⟩ (I O 0)).setCell ⟨w.heap.size,7,none⟩ (Sz none 0 0)).setRow (w.heap.size+1) #[I O W,I O H,Sz a5 n5 c5',I O (clampG (X) W),I O (clampG (Y - N) H),.bool false,I O 0,Sz none 0 0,Sz a8 n8 c8,I O be]):=run_loadVar_row _ _ _ _ _ _ _ (setRow_heap _ _ _ _ _ _ hVr) Tryd.underlying31 rfl (by kernel_rfl)
 have bF:Below w.heap.size w (((VV.setCell ⟨w.heap.size,6,none⟩ (I O 0)).setCell ⟨w.heap.size,7,none⟩ (Sz none 0 0)).setRow (w.heap.size+1) #[I O W,I O H,Sz a5 n5 c5',I O (clampG (X) W),I O (clampG (Y - N) H),.bool false,I O 0,Sz none 0 0,Sz a8 n8 c8,I O be]):=
   below_setRow (Below.setCell (p:=⟨w.heap.size,7,none⟩) (Below.setCell (p:=⟨w.heap.size,6,none⟩) (by rw[hVV];exact below_setCells _ _ _ b4 (Nat.le_refl _)) (Nat.le_refl _) _) (Nat.le_refl _) _) (Nat.le_add_right _ 1) _
 have rN:Own (.sl .int) (((VV.setCell ⟨w.heap.size,6,none⟩ (I O 0)).setCell ⟨w.heap.size,7,none⟩ (Sz none 0 0)).setRow (w.heap.size+1) #[I O W,I O H,Sz a5 n5 c5',I O (clampG (X) W),I O (clampG (Y - N) H),.bool false,I O 0,Sz none 0 0,Sz a8 n8 c8,I O be]) w3.heap.size [Sz a5 n5 c5'] (zs) F:=by
   rw[hVV]
   exact own_keepAll (ho) (by have:=k3.size;have:=HB2.out.2;omega) (by have:=k3.size;have:=HB2.out.2;omega) _ _ _ _ _
 have HSZ:Hid (w.heap.size≤w3.heap.size):=b3.size
 have HF:Hid (_∧_):=⟨bF,rN⟩
 have HVV:Hid (VV=_):=hVV
 have HTH:Hid (w4.there w.heap.size 0 6):=hth
 clear hVV hVb hth b4 k4 i4 bF rN ho hb4 b3 k3
 go_wp2_with (first | (refine wpList_store_mid rfl _ _ _ rfl w.heap.size 0 #[I O W,I O H,Sz a5 n5 c5',I O (clampG (X) W),I O (clampG (Y - N) H),.bool false] rfl rfl HTH.out (by kernel_rfl) (by simp[Value.oneCell']) ?_;rw[← HVV.out]) | (refine wpList_store_row rfl _ _ _ rfl _ _ rfl rfl _ _ hVr (by kernel_rfl) rfl (by simp[Value.oneCell']) ?_))
 (try simp only[Exit.inBlock,Exit.then])
 refine bodyPost_ret (by simp[results,Tryd.results72,asAddr,Act.put,HLD];try rfl) rfl ?_
 refine⟨[I O W,I O H,Sz a5 n5 c5',I O (clampG (X) W),I O (clampG (Y - N) H),.bool false,I O 0,Sz none 0 0,Sz a8 n8 c8,I O be],rfl,?_,HF.out.1⟩
 rw[HE.out]
 intro w'' hk r2 r7 r8
 exact reads_Vt (d:=((goD (W,H,zs,X,Y,wrp,()) (X) (Y - N),(0:Int),[],pl,be,()):TD)) (own_read HF.out.2 HSZ.out hk) (nil_readI _) r8
theorem sact_B(W H X Y st be:Int)(wrp:Bool)(a a7 a8:Option Addr)(n c n7 c7 n8 c8:Nat)(zs al pl:List Int)(w:World)(hg:gokB (W,H,zs,X,Y,wrp,())=true)(h2:Reads (.sl .int) w [Sz a n c] zs)(h7:Reads (.sl .int) w [Sz a7 n7 c7] al)(h8:Reads (.sl .u8) w [Sz a8 n8 c8] pl)(hal:∀ i,0≤at0 al i∧at0 al i≤9999):
   Calls Tryd.prog 72 #[.agg #[I O W,I O H,Sz a n c,I O X,I O Y,.bool wrp,I O st,Sz a7 n7 c7,Sz a8 n8 c8,I O be],I O 66] w fun e w'=>∃ o,e=.returned (.agg o.toArray)∧RK w w' o (((doD (W,H,zs,X,Y,wrp,()) al 66,(0:Int),[],pl,be,()):TD)) (Sz a n c) (Sz a7 n7 c7) (Sz a8 n8 c8) zs al pl∧Below w.heap.size w w':=by
 obtain⟨W2,hW2,bW2,zW2,hA2,hZ2,hG2,HBX⟩:=mpro2 W H X Y st be wrp a a7 a8 n c n7 c7 n8 c8 w
 have HB2:Hid (Below w.heap.size w W2∧W2.heap.size=w.heap.size+3):=⟨bW2,zW2⟩
 have HW:Hid (W2=_):=hW2
 have HR:Hid (Reads (.sl .int) w [Sz a n c] zs∧Reads (.sl .u8) w [Sz a8 n8 c8] pl):=⟨h2,h8⟩
 obtain⟨W',H',eW,eH,g1,g2,g3,g4,g5,hlen,hcl,hcu⟩:=gok_parts hg
 obtain⟨c1,c2,c3,c4,c5⟩:=cursB_iff.1 hcu
 obtain⟨hl7,hr7,_,_⟩:=reads_ints h7
 obtain⟨N,hN⟩:∃ N,N=argM al 0 1:=⟨_,rfl⟩
 have hNb:1≤N∧N≤9999:=by rw[hN];have:=hal 0;unfold argM;split <;> omega
 have hNc:N=cntN al 0:=by rw[hN];exact argM_cnt (hal 0).1
 have QA:Hid (Calls Tryd.prog 87 #[Sz a7 n7 c7,I O 0,I O 1] W2 fun e w'=>e=.returned (I O N)∧Below W2.heap.size W2 w'):=by rw[hN];exact sarg_any a7 n7 c7 al 0 1 W2 hl7 (hr7.later bW2) (by omega)
 have hYW:0≤Y*W∧Y*W≤40000:=by
   have q1:0≤Y*W:=Int.mul_nonneg (by omega) (by omega)
   have q2:Y*W≤200*200:=Int.mul_le_mul (by omega) (by omega) (by omega) (by omega)
   omega
 obtain⟨PP,hPP⟩:∃ P,P=Y*W:=⟨_,rfl⟩
 have wp1:IntKind.i64.wrap (Y*W)=PP:=by rw[wrap_i64_in _ (by omega) (by omega)];exact hPP.symm
 have wp2:IntKind.i64.wrap (PP+X)=PP+X:=wrap_i64_in _ (by omega) (by omega)
 have wq:IntKind.i64.wrap (Y+N)=Y+N:=by simp[IntKind.wrap,IntKind.bits,IntKind.signed];omega
 have HE:Hid (((doD (W,H,zs,X,Y,wrp,()) al 66,(0:Int),[],pl,be,()):TD)=(goD (W,H,zs,X,Y,wrp,()) (X) (Y+N),(0:Int),[],pl,be,())):=by
   rw[hNc]
   rfl
 have QG:Hid (∀ w',Below w.heap.size w w'→Calls Tryd.prog 44 #[.agg #[I O W,I O H,Sz a n c,I O X,I O Y,.bool wrp],I O (X),I O (Y+N)] w' fun e w''=>GAns w' w'' e (goD (W,H,zs,X,Y,wrp,()) (X) (Y+N))):=fun w' hb=>sgo_any (g:=(W,H,zs,X,Y,wrp,())) (X) (Y+N) w' hg (h2.later hb)
 clear hg h2 h7 h8 hal hN hNc hl7 hr7 hlen hcl hcu hW2 bW2 zW2 hA2 hZ2 hG2 eW eH hPP hYW
 have y0:W2.cell? ⟨w.heap.size,0,none⟩=some (I O W):=bxc (HBX.out _ (Below.refl _ _)).1 rfl
 have y1:W2.cell? ⟨w.heap.size,1,none⟩=some (I O H):=bxc (HBX.out _ (Below.refl _ _)).1 rfl
 have y2:W2.cell? ⟨w.heap.size,2,none⟩=some (Sz a n c):=bxc (HBX.out _ (Below.refl _ _)).1 rfl
 have y3:W2.cell? ⟨w.heap.size,3,none⟩=some (I O X):=bxc (HBX.out _ (Below.refl _ _)).1 rfl
 have y4:W2.cell? ⟨w.heap.size,4,none⟩=some (I O Y):=bxc (HBX.out _ (Below.refl _ _)).1 rfl
 have y5:W2.cell? ⟨w.heap.size,5,none⟩=some (.bool wrp):=bxc (HBX.out _ (Below.refl _ _)).1 rfl
 have y6:W2.cell? ⟨w.heap.size,6,none⟩=some (I O st):=bxc (HBX.out _ (Below.refl _ _)).1 rfl
 have y7:W2.cell? ⟨w.heap.size,7,none⟩=some (Sz a7 n7 c7):=bxc (HBX.out _ (Below.refl _ _)).1 rfl
 have y8:W2.cell? ⟨w.heap.size,8,none⟩=some (Sz a8 n8 c8):=bxc (HBX.out _ (Below.refl _ _)).1 rfl
 have y9:W2.cell? ⟨w.heap.size,9,none⟩=some (I O be):=bxc (HBX.out _ (Below.refl _ _)).1 rfl
 have z0:W2.cell? ⟨w.heap.size+1+1,0,none⟩=some (I O W):=bxc (HBX.out _ (Below.refl _ _)).2.2 rfl
 have z1:W2.cell? ⟨w.heap.size+1+1,1,none⟩=some (I O H):=bxc (HBX.out _ (Below.refl _ _)).2.2 rfl
 have z2:W2.cell? ⟨w.heap.size+1+1,2,none⟩=some (Sz a n c):=bxc (HBX.out _ (Below.refl _ _)).2.2 rfl
 have z3:W2.cell? ⟨w.heap.size+1+1,3,none⟩=some (I O X):=bxc (HBX.out _ (Below.refl _ _)).2.2 rfl
 have z4:W2.cell? ⟨w.heap.size+1+1,4,none⟩=some (I O Y):=bxc (HBX.out _ (Below.refl _ _)).2.2 rfl
 have z5:W2.cell? ⟨w.heap.size+1+1,5,none⟩=some (.bool wrp):=bxc (HBX.out _ (Below.refl _ _)).2.2 rfl
 go_enter Tryd.func72,Tryd.ntmps72
 go_wp2_with fail
 rw[← HW.out]
 refine QA.out.mono ?_
 rintro e w3 ⟨rfl,hb3⟩
 have b3:=HB2.out.1.trans (hb3.mono HB2.out.1.size)
 have k3:=hb3
 clear y0 y1 y2 y3 y4 y5 y6 y7 y8 y9 z0 z1 z2 z3 z4 z5 hb3
 have z0:w3.cell? ⟨w.heap.size+1+1,0,none⟩=some (I O W):=bxc (HBX.out _ k3).2.2 rfl
 have z1:w3.cell? ⟨w.heap.size+1+1,1,none⟩=some (I O H):=bxc (HBX.out _ k3).2.2 rfl
 have z2:w3.cell? ⟨w.heap.size+1+1,2,none⟩=some (Sz a n c):=bxc (HBX.out _ k3).2.2 rfl
 have z3:w3.cell? ⟨w.heap.size+1+1,3,none⟩=some (I O X):=bxc (HBX.out _ k3).2.2 rfl
 have z4:w3.cell? ⟨w.heap.size+1+1,4,none⟩=some (I O Y):=bxc (HBX.out _ k3).2.2 rfl
 have z5:w3.cell? ⟨w.heap.size+1+1,5,none⟩=some (.bool wrp):=bxc (HBX.out _ k3).2.2 rfl
 go_wp2_with fail
 refine(QG.out _ b3).mono ?_
 rintro e w4 ⟨a5,n5,c5',F,rfl,ho,hb4⟩
 clear z0 z1 z2 z3 z4 z5
 have b4:=b3.trans (hb4.mono b3.size)
 have k4:=k3.trans (hb4.mono k3.size)
 have i4:=HBX.out _ k4
 obtain⟨VV,hVV⟩:∃ U,U=w4.setCells w.heap.size 0 (#[I O W,I O H,Sz a5 n5 c5',I O (clampG (X) W),I O (clampG (Y+N) H),.bool false]:Array Value).toList:=⟨_,rfl⟩
 have hVb:VV.heap[w.heap.size]?=some (.cells #[I O W,I O H,Sz a5 n5 c5',I O (clampG (X) W),I O (clampG (Y+N) H),.bool false,I O st,Sz a7 n7 c7,Sz a8 n8 c8,I O be] 31 (0,0)):=by rw[hVV];exact six_in i4.1
 have hth:w4.there w.heap.size 0 6:=six_there i4.1
 have hVr:((VV.setCell ⟨w.heap.size,6,none⟩ (I O 0)).setCell ⟨w.heap.size,7,none⟩ (Sz none 0 0)).heap[w.heap.size+1]?=some (.cells #[I O 0,I O 0,Sz none 0 0,I O 0,I O 0,.bool false,I O 0,Sz none 0 0,Sz none 0 0,I O 0] 31 (0,0)):=by rw[box_other _ (by omega),box_other _ (by omega),hVV,setCells_other (by omega)];exact i4.2.1
 have q0:VV.cell? ⟨w.heap.size,0,none⟩=some (I O W):=bxc hVb rfl
 have q1:VV.cell? ⟨w.heap.size,1,none⟩=some (I O H):=bxc hVb rfl
 have q2:VV.cell? ⟨w.heap.size,2,none⟩=some (Sz a5 n5 c5'):=bxc hVb rfl
 have q3:VV.cell? ⟨w.heap.size,3,none⟩=some (I O (clampG (X) W)):=bxc hVb rfl
 have q4:VV.cell? ⟨w.heap.size,4,none⟩=some (I O (clampG (Y+N) H)):=bxc hVb rfl
 have q5:VV.cell? ⟨w.heap.size,5,none⟩=some (.bool false):=bxc hVb rfl
 have q6:VV.cell? ⟨w.heap.size,6,none⟩=some (I O st):=bxc hVb rfl
 have q7:VV.cell? ⟨w.heap.size,7,none⟩=some (Sz a7 n7 c7):=bxc hVb rfl
 have q8:VV.cell? ⟨w.heap.size,8,none⟩=some (Sz a8 n8 c8):=bxc hVb rfl
 have q9:VV.cell? ⟨w.heap.size,9,none⟩=some (I O be):=bxc hVb rfl
 have f6:VV.frozen? ⟨w.heap.size,6,none⟩=false:=box_frozen hVb
 have f7:VV.frozen? ⟨w.heap.size,7,none⟩=false:=box_frozen hVb
 have HLD:(loadVar 31 ⟨w.heap.size+1,0,none⟩).run Tryd.prog (((VV.setCell ⟨w.heap.size,6,none⟩ (I O 0)).setCell ⟨w.heap.size,7,none⟩ (Sz none 0 0)).setRow (w.heap.size+1) #[I O W,I O H,Sz a5 n5 c5',I O (clampG (X) W),I O (clampG (Y+N) H),.bool false,I O 0,Sz none 0 0,Sz a8 n8 c8,I O be])=.ok (.agg #[I O W,I O H,Sz a5 n5 c5',I O (clampG (X) W),I O (clampG (Y+N) H),.bool false,I O 0,Sz none 0 0,Sz a8 n8 c8,I O be]) (((VV.setCell ⟨w.heap.size,6,none⟩ (I O 0)).setCell ⟨w.heap.size,7,none⟩ (Sz none 0 0)).setRow (w.heap.size+1) #[I O W,I O H,Sz a5 n5 c5',I O (clampG (X) W),I O (clampG (Y+N) H),.bool false,I O 0,Sz none 0 0,Sz a8 n8 c8,I O be]):=run_loadVar_row _ _ _ _ _ _ _ (setRow_heap _ _ _ _ _ _ hVr) Tryd.underlying31 rfl (by kernel_rfl)
 have bF:Below w.heap.size w (((VV.setCell ⟨w.heap.size,6,none⟩ (I O 0)).setCell ⟨w.heap.size,7,none⟩ (Sz none 0 0)).setRow (w.heap.size+1) #[I O W,I O H,Sz a5 n5 c5',I O (clampG (X) W),I O (clampG (Y+N) H),.bool false,I O 0,Sz none 0 0,Sz a8 n8 c8,I O be]):=
   below_setRow (Below.setCell (p:=⟨w.heap.size,7,none⟩) (Below.setCell (p:=⟨w.heap.size,6,none⟩) (by rw[hVV];exact below_setCells _ _ _ b4 (Nat.le_refl _)) (Nat.le_refl _) _) (Nat.le_refl _) _) (Nat.le_add_right _ 1) _
 have rN:Own (.sl .int) (((VV.setCell ⟨w.heap.size,6,none⟩ (I O 0)).setCell ⟨w.heap.size,7,none⟩ (Sz none 0 0)).setRow (w.heap.size+1) #[I O W,I O H,Sz a5 n5 c5',I O (clampG (X) W),I O (clampG (Y+N) H),.bool false,I O 0,Sz none 0 0,Sz a8 n8 c8,I O be]) w3.heap.size [Sz a5 n5 c5'] (zs) F:=by
   rw[hVV]
   exact own_keepAll (ho) (by have:=k3.size;have:=HB2.out.2;omega) (by have:=k3.size;have:=HB2.out.2;omega) _ _ _ _ _
 have HSZ:Hid (w.heap.size≤w3.heap.size):=b3.size
 have HF:Hid (_∧_):=⟨bF,rN⟩
 have HVV:Hid (VV=_):=hVV
 have HTH:Hid (w4.there w.heap.size 0 6):=hth
 clear hVV hVb hth b4 k4 i4 bF rN ho hb4 b3 k3
 go_wp2_with (first | (refine wpList_store_mid rfl _ _ _ rfl w.heap.size 0 #[I O W,I O H,Sz a5 n5 c5',I O (clampG (X) W),I O (clampG (Y+N) H),.bool false] rfl rfl HTH.out (by kernel_rfl) (by simp[Value.oneCell']) ?_;rw[← HVV.out]) | (refine wpList_store_row rfl _ _ _ rfl _ _ rfl rfl _ _ hVr (by kernel_rfl) rfl (by simp[Value.oneCell']) ?_))
 (try simp only[Exit.inBlock,Exit.then])
 refine bodyPost_ret (by simp[results,Tryd.results72,asAddr,Act.put,HLD];try rfl) rfl ?_
 refine⟨[I O W,I O H,Sz a5 n5 c5',I O (clampG (X) W),I O (clampG (Y+N) H),.bool false,I O 0,Sz none 0 0,Sz a8 n8 c8,I O be],rfl,?_,HF.out.1⟩
 rw[HE.out]
 intro w'' hk r2 r7 r8
 exact reads_Vt (d:=((goD (W,H,zs,X,Y,wrp,()) (X) (Y+N),(0:Int),[],pl,be,()):TD)) (own_read HF.out.2 HSZ.out hk) (nil_readI _) r8
theorem sact_C(W H X Y st be:Int)(wrp:Bool)(a a7 a8:Option Addr)(n c n7 c7 n8 c8:Nat)(zs al pl:List Int)(w:World)(hg:gokB (W,H,zs,X,Y,wrp,())=true)(h2:Reads (.sl .int) w [Sz a n c] zs)(h7:Reads (.sl .int) w [Sz a7 n7 c7] al)(h8:Reads (.sl .u8) w [Sz a8 n8 c8] pl)(hal:∀ i,0≤at0 al i∧at0 al i≤9999):
   Calls Tryd.prog 72 #[.agg #[I O W,I O H,Sz a n c,I O X,I O Y,.bool wrp,I O st,Sz a7 n7 c7,Sz a8 n8 c8,I O be],I O 67] w fun e w'=>∃ o,e=.returned (.agg o.toArray)∧RK w w' o (((doD (W,H,zs,X,Y,wrp,()) al 67,(0:Int),[],pl,be,()):TD)) (Sz a n c) (Sz a7 n7 c7) (Sz a8 n8 c8) zs al pl∧Below w.heap.size w w':=by
 obtain⟨W2,hW2,bW2,zW2,hA2,hZ2,hG2,HBX⟩:=mpro2 W H X Y st be wrp a a7 a8 n c n7 c7 n8 c8 w
 have HB2:Hid (Below w.heap.size w W2∧W2.heap.size=w.heap.size+3):=⟨bW2,zW2⟩
 have HW:Hid (W2=_):=hW2
 have HR:Hid (Reads (.sl .int) w [Sz a n c] zs∧Reads (.sl .u8) w [Sz a8 n8 c8] pl):=⟨h2,h8⟩
 obtain⟨W',H',eW,eH,g1,g2,g3,g4,g5,hlen,hcl,hcu⟩:=gok_parts hg
 obtain⟨c1,c2,c3,c4,c5⟩:=cursB_iff.1 hcu
 obtain⟨hl7,hr7,_,_⟩:=reads_ints h7
 obtain⟨N,hN⟩:∃ N,N=argM al 0 1:=⟨_,rfl⟩
 have hNb:1≤N∧N≤9999:=by rw[hN];have:=hal 0;unfold argM;split <;> omega
 have hNc:N=cntN al 0:=by rw[hN];exact argM_cnt (hal 0).1
 have QA:Hid (Calls Tryd.prog 87 #[Sz a7 n7 c7,I O 0,I O 1] W2 fun e w'=>e=.returned (I O N)∧Below W2.heap.size W2 w'):=by rw[hN];exact sarg_any a7 n7 c7 al 0 1 W2 hl7 (hr7.later bW2) (by omega)
 have hYW:0≤Y*W∧Y*W≤40000:=by
   have q1:0≤Y*W:=Int.mul_nonneg (by omega) (by omega)
   have q2:Y*W≤200*200:=Int.mul_le_mul (by omega) (by omega) (by omega) (by omega)
   omega
 obtain⟨PP,hPP⟩:∃ P,P=Y*W:=⟨_,rfl⟩
 have wp1:IntKind.i64.wrap (Y*W)=PP:=by rw[wrap_i64_in _ (by omega) (by omega)];exact hPP.symm
 have wp2:IntKind.i64.wrap (PP+X)=PP+X:=wrap_i64_in _ (by omega) (by omega)
 have wq:IntKind.i64.wrap (X+N)=X+N:=by simp[IntKind.wrap,IntKind.bits,IntKind.signed];omega
 have HE:Hid (((doD (W,H,zs,X,Y,wrp,()) al 67,(0:Int),[],pl,be,()):TD)=(goD (W,H,zs,X,Y,wrp,()) (X+N) (Y),(0:Int),[],pl,be,())):=by
   rw[hNc]
   rfl
 have QG:Hid (∀ w',Below w.heap.size w w'→Calls Tryd.prog 44 #[.agg #[I O W,I O H,Sz a n c,I O X,I O Y,.bool wrp],I O (X+N),I O (Y)] w' fun e w''=>GAns w' w'' e (goD (W,H,zs,X,Y,wrp,()) (X+N) (Y))):=fun w' hb=>sgo_any (g:=(W,H,zs,X,Y,wrp,())) (X+N) (Y) w' hg (h2.later hb)
 clear hg h2 h7 h8 hal hN hNc hl7 hr7 hlen hcl hcu hW2 bW2 zW2 hA2 hZ2 hG2 eW eH hPP hYW
 have y0:W2.cell? ⟨w.heap.size,0,none⟩=some (I O W):=bxc (HBX.out _ (Below.refl _ _)).1 rfl
 have y1:W2.cell? ⟨w.heap.size,1,none⟩=some (I O H):=bxc (HBX.out _ (Below.refl _ _)).1 rfl
 have y2:W2.cell? ⟨w.heap.size,2,none⟩=some (Sz a n c):=bxc (HBX.out _ (Below.refl _ _)).1 rfl
 have y3:W2.cell? ⟨w.heap.size,3,none⟩=some (I O X):=bxc (HBX.out _ (Below.refl _ _)).1 rfl
 have y4:W2.cell? ⟨w.heap.size,4,none⟩=some (I O Y):=bxc (HBX.out _ (Below.refl _ _)).1 rfl
 have y5:W2.cell? ⟨w.heap.size,5,none⟩=some (.bool wrp):=bxc (HBX.out _ (Below.refl _ _)).1 rfl
 have y6:W2.cell? ⟨w.heap.size,6,none⟩=some (I O st):=bxc (HBX.out _ (Below.refl _ _)).1 rfl
 have y7:W2.cell? ⟨w.heap.size,7,none⟩=some (Sz a7 n7 c7):=bxc (HBX.out _ (Below.refl _ _)).1 rfl
 have y8:W2.cell? ⟨w.heap.size,8,none⟩=some (Sz a8 n8 c8):=bxc (HBX.out _ (Below.refl _ _)).1 rfl
 have y9:W2.cell? ⟨w.heap.size,9,none⟩=some (I O be):=bxc (HBX.out _ (Below.refl _ _)).1 rfl
 have z0:W2.cell? ⟨w.heap.size+1+1,0,none⟩=some (I O W):=bxc (HBX.out _ (Below.refl _ _)).2.2 rfl
 have z1:W2.cell? ⟨w.heap.size+1+1,1,none⟩=some (I O H):=bxc (HBX.out _ (Below.refl _ _)).2.2 rfl
 have z2:W2.cell? ⟨w.heap.size+1+1,2,none⟩=some (Sz a n c):=bxc (HBX.out _ (Below.refl _ _)).2.2 rfl
 have z3:W2.cell? ⟨w.heap.size+1+1,3,none⟩=some (I O X):=bxc (HBX.out _ (Below.refl _ _)).2.2 rfl
 have z4:W2.cell? ⟨w.heap.size+1+1,4,none⟩=some (I O Y):=bxc (HBX.out _ (Below.refl _ _)).2.2 rfl
 have z5:W2.cell? ⟨w.heap.size+1+1,5,none⟩=some (.bool wrp):=bxc (HBX.out _ (Below.refl _ _)).2.2 rfl
 go_enter Tryd.func72,Tryd.ntmps72
 go_wp2_with fail
 rw[← HW.out]
 refine QA.out.mono ?_
 rintro e w3 ⟨rfl,hb3⟩
 have b3:=HB2.out.1.trans (hb3.mono HB2.out.1.size)
 have k3:=hb3
 clear y0 y1 y2 y3 y4 y5 y6 y7 y8 y9 z0 z1 z2 z3 z4 z5 hb3
 have z0:w3.cell? ⟨w.heap.size+1+1,0,none⟩=some (I O W):=bxc (HBX.out _ k3).2.2 rfl
 have z1:w3.cell? ⟨w.heap.size+1+1,1,none⟩=some (I O H):=bxc (HBX.out _ k3).2.2 rfl
 have z2:w3.cell? ⟨w.heap.size+1+1,2,none⟩=some (Sz a n c):=bxc (HBX.out _ k3).2.2 rfl
 have z3:w3.cell? ⟨w.heap.size+1+1,3,none⟩=some (I O X):=bxc (HBX.out _ k3).2.2 rfl
 have z4:w3.cell? ⟨w.heap.size+1+1,4,none⟩=some (I O Y):=bxc (HBX.out _ k3).2.2 rfl
 have z5:w3.cell? ⟨w.heap.size+1+1,5,none⟩=some (.bool wrp):=bxc (HBX.out _ k3).2.2 rfl
 go_wp2_with fail
 refine(QG.out _ b3).mono ?_
 rintro e w4 ⟨a5,n5,c5',F,rfl,ho,hb4⟩
 clear z0 z1 z2 z3 z4 z5
 have b4:=b3.trans (hb4.mono b3.size)
 have k4:=k3.trans (hb4.mono k3.size)
 have i4:=HBX.out _ k4
 obtain⟨VV,hVV⟩:∃ U,U=w4.setCells w.heap.size 0 (#[I O W,I O H,Sz a5 n5 c5',I O (clampG (X+N) W),I O (clampG (Y) H),.bool false]:Array Value).toList:=⟨_,rfl⟩
 have hVb:VV.heap[w.heap.size]?=some (.cells #[I O W,I O H,Sz a5 n5 c5',I O (clampG (X+N) W),I O (clampG (Y) H),.bool false,I O st,Sz a7 n7 c7,Sz a8 n8 c8,I O be] 31 (0,0)):=by rw[hVV];exact six_in i4.1
 have hth:w4.there w.heap.size 0 6:=six_there i4.1
 have hVr:((VV.setCell ⟨w.heap.size,6,none⟩ (I O 0)).setCell ⟨w.heap.size,7,none⟩ (Sz none 0 0)).heap[w.heap.size+1]?=some (.cells #[I O 0,I O 0,Sz none 0 0,I O 0,I O 0,.bool false,I O 0,Sz none 0 0,Sz none 0 0,I O 0] 31 (0,0)):=by rw[box_other _ (by omega),box_other _ (by omega),hVV,setCells_other (by omega)];exact i4.2.1
 have q0:VV.cell? ⟨w.heap.size,0,none⟩=some (I O W):=bxc hVb rfl
 have q1:VV.cell? ⟨w.heap.size,1,none⟩=some (I O H):=bxc hVb rfl
 have q2:VV.cell? ⟨w.heap.size,2,none⟩=some (Sz a5 n5 c5'):=bxc hVb rfl
 have q3:VV.cell? ⟨w.heap.size,3,none⟩=some (I O (clampG (X+N) W)):=bxc hVb rfl
 have q4:VV.cell? ⟨w.heap.size,4,none⟩=some (I O (clampG (Y) H)):=bxc hVb rfl
 have q5:VV.cell? ⟨w.heap.size,5,none⟩=some (.bool false):=bxc hVb rfl
 have q6:VV.cell? ⟨w.heap.size,6,none⟩=some (I O st):=bxc hVb rfl
 have q7:VV.cell? ⟨w.heap.size,7,none⟩=some (Sz a7 n7 c7):=bxc hVb rfl
 have q8:VV.cell? ⟨w.heap.size,8,none⟩=some (Sz a8 n8 c8):=bxc hVb rfl
 have q9:VV.cell? ⟨w.heap.size,9,none⟩=some (I O be):=bxc hVb rfl
 have f6:VV.frozen? ⟨w.heap.size,6,none⟩=false:=box_frozen hVb
 have f7:VV.frozen? ⟨w.heap.size,7,none⟩=false:=box_frozen hVb
 have HLD:(loadVar 31 ⟨w.heap.size+1,0,none⟩).run Tryd.prog (((VV.setCell ⟨w.heap.size,6,none⟩ (I O 0)).setCell ⟨w.heap.size,7,none⟩ (Sz none 0 0)).setRow (w.heap.size+1) #[I O W,I O H,Sz a5 n5 c5',I O (clampG (X+N) W),I O (clampG (Y) H),.bool false,I O 0,Sz none 0 0,Sz a8 n8 c8,I O be])=.ok (.agg #[I O W,I O H,Sz a5 n5 c5',I O (clampG (X+N) W),I O (clampG (Y) H),.bool false,I O 0,Sz none 0 0,Sz a8 n8 c8,I O be]) (((VV.setCell ⟨w.heap.size,6,none⟩ (I O 0)).setCell ⟨w.heap.size,7,none⟩ (Sz none 0 0)).setRow (w.heap.size+1) #[I O W,I O H,Sz a5 n5 c5',I O (clampG (X+N) W),I O (clampG (Y) H),.bool false,I O 0,Sz none 0 0,Sz a8 n8 c8,I O be]):=run_loadVar_row _ _ _ _ _ _ _ (setRow_heap _ _ _ _ _ _ hVr) Tryd.underlying31 rfl (by kernel_rfl)
 have bF:Below w.heap.size w (((VV.setCell ⟨w.heap.size,6,none⟩ (I O 0)).setCell ⟨w.heap.size,7,none⟩ (Sz none 0 0)).setRow (w.heap.size+1) #[I O W,I O H,Sz a5 n5 c5',I O (clampG (X+N) W),I O (clampG (Y) H),.bool false,I O 0,Sz none 0 0,Sz a8 n8 c8,I O be]):=
   below_setRow (Below.setCell (p:=⟨w.heap.size,7,none⟩) (Below.setCell (p:=⟨w.heap.size,6,none⟩) (by rw[hVV];exact below_setCells _ _ _ b4 (Nat.le_refl _)) (Nat.le_refl _) _) (Nat.le_refl _) _) (Nat.le_add_right _ 1) _
 have rN:Own (.sl .int) (((VV.setCell ⟨w.heap.size,6,none⟩ (I O 0)).setCell ⟨w.heap.size,7,none⟩ (Sz none 0 0)).setRow (w.heap.size+1) #[I O W,I O H,Sz a5 n5 c5',I O (clampG (X+N) W),I O (clampG (Y) H),.bool false,I O 0,Sz none 0 0,Sz a8 n8 c8,I O be]) w3.heap.size [Sz a5 n5 c5'] (zs) F:=by
   rw[hVV]
   exact own_keepAll (ho) (by have:=k3.size;have:=HB2.out.2;omega) (by have:=k3.size;have:=HB2.out.2;omega) _ _ _ _ _
 have HSZ:Hid (w.heap.size≤w3.heap.size):=b3.size
 have HF:Hid (_∧_):=⟨bF,rN⟩
 have HVV:Hid (VV=_):=hVV
 have HTH:Hid (w4.there w.heap.size 0 6):=hth
 clear hVV hVb hth b4 k4 i4 bF rN ho hb4 b3 k3
 go_wp2_with (first | (refine wpList_store_mid rfl _ _ _ rfl w.heap.size 0 #[I O W,I O H,Sz a5 n5 c5',I O (clampG (X+N) W),I O (clampG (Y) H),.bool false] rfl rfl HTH.out (by kernel_rfl) (by simp[Value.oneCell']) ?_;rw[← HVV.out]) | (refine wpList_store_row rfl _ _ _ rfl _ _ rfl rfl _ _ hVr (by kernel_rfl) rfl (by simp[Value.oneCell']) ?_))
 (try simp only[Exit.inBlock,Exit.then])
 refine bodyPost_ret (by simp[results,Tryd.results72,asAddr,Act.put,HLD];try rfl) rfl ?_
 refine⟨[I O W,I O H,Sz a5 n5 c5',I O (clampG (X+N) W),I O (clampG (Y) H),.bool false,I O 0,Sz none 0 0,Sz a8 n8 c8,I O be],rfl,?_,HF.out.1⟩
 rw[HE.out]
 intro w'' hk r2 r7 r8
 exact reads_Vt (d:=((goD (W,H,zs,X,Y,wrp,()) (X+N) (Y),(0:Int),[],pl,be,()):TD)) (own_read HF.out.2 HSZ.out hk) (nil_readI _) r8
theorem sact_D(W H X Y st be:Int)(wrp:Bool)(a a7 a8:Option Addr)(n c n7 c7 n8 c8:Nat)(zs al pl:List Int)(w:World)(hg:gokB (W,H,zs,X,Y,wrp,())=true)(h2:Reads (.sl .int) w [Sz a n c] zs)(h7:Reads (.sl .int) w [Sz a7 n7 c7] al)(h8:Reads (.sl .u8) w [Sz a8 n8 c8] pl)(hal:∀ i,0≤at0 al i∧at0 al i≤9999):
   Calls Tryd.prog 72 #[.agg #[I O W,I O H,Sz a n c,I O X,I O Y,.bool wrp,I O st,Sz a7 n7 c7,Sz a8 n8 c8,I O be],I O 68] w fun e w'=>∃ o,e=.returned (.agg o.toArray)∧RK w w' o (((doD (W,H,zs,X,Y,wrp,()) al 68,(0:Int),[],pl,be,()):TD)) (Sz a n c) (Sz a7 n7 c7) (Sz a8 n8 c8) zs al pl∧Below w.heap.size w w':=by
 obtain⟨W2,hW2,bW2,zW2,hA2,hZ2,hG2,HBX⟩:=mpro2 W H X Y st be wrp a a7 a8 n c n7 c7 n8 c8 w
 have HB2:Hid (Below w.heap.size w W2∧W2.heap.size=w.heap.size+3):=⟨bW2,zW2⟩
 have HW:Hid (W2=_):=hW2
 have HR:Hid (Reads (.sl .int) w [Sz a n c] zs∧Reads (.sl .u8) w [Sz a8 n8 c8] pl):=⟨h2,h8⟩
 obtain⟨W',H',eW,eH,g1,g2,g3,g4,g5,hlen,hcl,hcu⟩:=gok_parts hg
 obtain⟨c1,c2,c3,c4,c5⟩:=cursB_iff.1 hcu
 obtain⟨hl7,hr7,_,_⟩:=reads_ints h7
 obtain⟨N,hN⟩:∃ N,N=argM al 0 1:=⟨_,rfl⟩
 have hNb:1≤N∧N≤9999:=by rw[hN];have:=hal 0;unfold argM;split <;> omega
 have hNc:N=cntN al 0:=by rw[hN];exact argM_cnt (hal 0).1
 have QA:Hid (Calls Tryd.prog 87 #[Sz a7 n7 c7,I O 0,I O 1] W2 fun e w'=>e=.returned (I O N)∧Below W2.heap.size W2 w'):=by rw[hN];exact sarg_any a7 n7 c7 al 0 1 W2 hl7 (hr7.later bW2) (by omega)
 have hYW:0≤Y*W∧Y*W≤40000:=by
   have q1:0≤Y*W:=Int.mul_nonneg (by omega) (by omega)
   have q2:Y*W≤200*200:=Int.mul_le_mul (by omega) (by omega) (by omega) (by omega)
   omega
 obtain⟨PP,hPP⟩:∃ P,P=Y*W:=⟨_,rfl⟩
 have wp1:IntKind.i64.wrap (Y*W)=PP:=by rw[wrap_i64_in _ (by omega) (by omega)];exact hPP.symm
 have wp2:IntKind.i64.wrap (PP+X)=PP+X:=wrap_i64_in _ (by omega) (by omega)
 have wq:IntKind.i64.wrap (X - N)=X - N:=by simp[IntKind.wrap,IntKind.bits,IntKind.signed];omega
 have HE:Hid (((doD (W,H,zs,X,Y,wrp,()) al 68,(0:Int),[],pl,be,()):TD)=(goD (W,H,zs,X,Y,wrp,()) (X - N) (Y),(0:Int),[],pl,be,())):=by
   rw[hNc]
   rfl
 have QG:Hid (∀ w',Below w.heap.size w w'→Calls Tryd.prog 44 #[.agg #[I O W,I O H,Sz a n c,I O X,I O Y,.bool wrp],I O (X - N),I O (Y)] w' fun e w''=>GAns w' w'' e (goD (W,H,zs,X,Y,wrp,()) (X - N) (Y))):=fun w' hb=>sgo_any (g:=(W,H,zs,X,Y,wrp,())) (X - N) (Y) w' hg (h2.later hb)
 clear hg h2 h7 h8 hal hN hNc hl7 hr7 hlen hcl hcu hW2 bW2 zW2 hA2 hZ2 hG2 eW eH hPP hYW
 have y0:W2.cell? ⟨w.heap.size,0,none⟩=some (I O W):=bxc (HBX.out _ (Below.refl _ _)).1 rfl
 have y1:W2.cell? ⟨w.heap.size,1,none⟩=some (I O H):=bxc (HBX.out _ (Below.refl _ _)).1 rfl
 have y2:W2.cell? ⟨w.heap.size,2,none⟩=some (Sz a n c):=bxc (HBX.out _ (Below.refl _ _)).1 rfl
 have y3:W2.cell? ⟨w.heap.size,3,none⟩=some (I O X):=bxc (HBX.out _ (Below.refl _ _)).1 rfl
 have y4:W2.cell? ⟨w.heap.size,4,none⟩=some (I O Y):=bxc (HBX.out _ (Below.refl _ _)).1 rfl
 have y5:W2.cell? ⟨w.heap.size,5,none⟩=some (.bool wrp):=bxc (HBX.out _ (Below.refl _ _)).1 rfl
 have y6:W2.cell? ⟨w.heap.size,6,none⟩=some (I O st):=bxc (HBX.out _ (Below.refl _ _)).1 rfl
 have y7:W2.cell? ⟨w.heap.size,7,none⟩=some (Sz a7 n7 c7):=bxc (HBX.out _ (Below.refl _ _)).1 rfl
 have y8:W2.cell? ⟨w.heap.size,8,none⟩=some (Sz a8 n8 c8):=bxc (HBX.out _ (Below.refl _ _)).1 rfl
 have y9:W2.cell? ⟨w.heap.size,9,none⟩=some (I O be):=bxc (HBX.out _ (Below.refl _ _)).1 rfl
 have z0:W2.cell? ⟨w.heap.size+1+1,0,none⟩=some (I O W):=bxc (HBX.out _ (Below.refl _ _)).2.2 rfl
 have z1:W2.cell? ⟨w.heap.size+1+1,1,none⟩=some (I O H):=bxc (HBX.out _ (Below.refl _ _)).2.2 rfl
 have z2:W2.cell? ⟨w.heap.size+1+1,2,none⟩=some (Sz a n c):=bxc (HBX.out _ (Below.refl _ _)).2.2 rfl
 have z3:W2.cell? ⟨w.heap.size+1+1,3,none⟩=some (I O X):=bxc (HBX.out _ (Below.refl _ _)).2.2 rfl
 have z4:W2.cell? ⟨w.heap.size+1+1,4,none⟩=some (I O Y):=bxc (HBX.out _ (Below.refl _ _)).2.2 rfl
 have z5:W2.cell? ⟨w.heap.size+1+1,5,none⟩=some (.bool wrp):=bxc (HBX.out _ (Below.refl _ _)).2.2 rfl
 go_enter Tryd.func72,Tryd.ntmps72
 go_wp2_with fail
 rw[← HW.out]
 refine QA.out.mono ?_
 rintro e w3 ⟨rfl,hb3⟩
 have b3:=HB2.out.1.trans (hb3.mono HB2.out.1.size)
 have k3:=hb3
 clear y0 y1 y2 y3 y4 y5 y6 y7 y8 y9 z0 z1 z2 z3 z4 z5 hb3
 have z0:w3.cell? ⟨w.heap.size+1+1,0,none⟩=some (I O W):=bxc (HBX.out _ k3).2.2 rfl
 have z1:w3.cell? ⟨w.heap.size+1+1,1,none⟩=some (I O H):=bxc (HBX.out _ k3).2.2 rfl
 have z2:w3.cell? ⟨w.heap.size+1+1,2,none⟩=some (Sz a n c):=bxc (HBX.out _ k3).2.2 rfl
 have z3:w3.cell? ⟨w.heap.size+1+1,3,none⟩=some (I O X):=bxc (HBX.out _ k3).2.2 rfl
 have z4:w3.cell? ⟨w.heap.size+1+1,4,none⟩=some (I O Y):=bxc (HBX.out _ k3).2.2 rfl
 have z5:w3.cell? ⟨w.heap.size+1+1,5,none⟩=some (.bool wrp):=bxc (HBX.out _ k3).2.2 rfl
 go_wp2_with fail
 refine(QG.out _ b3).mono ?_
 rintro e w4 ⟨a5,n5,c5',F,rfl,ho,hb4⟩
 clear z0 z1 z2 z3 z4 z5
 have b4:=b3.trans (hb4.mono b3.size)
 have k4:=k3.trans (hb4.mono k3.size)
 have i4:=HBX.out _ k4
 obtain⟨VV,hVV⟩:∃ U,U=w4.setCells w.heap.size 0 (#[I O W,I O H,Sz a5 n5 c5',I O (clampG (X - N) W),I O (clampG (Y) H),.bool false]:Array Value).toList:=⟨_,rfl⟩
 have hVb:VV.heap[w.heap.size]?=some (.cells #[I O W,I O H,Sz a5 n5 c5',I O (clampG (X - N) W),I O (clampG (Y) H),.bool false,I O st,Sz a7 n7 c7,Sz a8 n8 c8,I O be] 31 (0,0)):=by rw[hVV];exact six_in i4.1
 have hth:w4.there w.heap.size 0 6:=six_there i4.1
 have hVr:((VV.setCell ⟨w.heap.size,6,none⟩ (I O 0)).setCell ⟨w.heap.size,7,none⟩ (Sz none 0 0)).heap[w.heap.size+1]?=some (.cells #[I O 0,I O 0,Sz none 0 0,I O 0,I O 0,.bool false,I O 0,Sz none 0 0,Sz none 0 0,I O 0] 31 (0,0)):=by rw[box_other _ (by omega),box_other _ (by omega),hVV,setCells_other (by omega)];exact i4.2.1
 have q0:VV.cell? ⟨w.heap.size,0,none⟩=some (I O W):=bxc hVb rfl
 have q1:VV.cell? ⟨w.heap.size,1,none⟩=some (I O H):=bxc hVb rfl
 have q2:VV.cell? ⟨w.heap.size,2,none⟩=some (Sz a5 n5 c5'):=bxc hVb rfl
 have q3:VV.cell? ⟨w.heap.size,3,none⟩=some (I O (clampG (X - N) W)):=bxc hVb rfl
 have q4:VV.cell? ⟨w.heap.size,4,none⟩=some (I O (clampG (Y) H)):=bxc hVb rfl
 have q5:VV.cell? ⟨w.heap.size,5,none⟩=some (.bool false):=bxc hVb rfl
 have q6:VV.cell? ⟨w.heap.size,6,none⟩=some (I O st):=bxc hVb rfl
 have q7:VV.cell? ⟨w.heap.size,7,none⟩=some (Sz a7 n7 c7):=bxc hVb rfl
 have q8:VV.cell? ⟨w.heap.size,8,none⟩=some (Sz a8 n8 c8):=bxc hVb rfl
 have q9:VV.cell? ⟨w.heap.size,9,none⟩=some (I O be):=bxc hVb rfl
 have f6:VV.frozen? ⟨w.heap.size,6,none⟩=false:=box_frozen hVb
 have f7:VV.frozen? ⟨w.heap.size,7,none⟩=false:=box_frozen hVb
 have HLD:(loadVar 31 ⟨w.heap.size+1,0,none⟩).run Tryd.prog (((VV.setCell ⟨w.heap.size,6,none⟩ (I O 0)).setCell ⟨w.heap.size,7,none⟩ (Sz none 0 0)).setRow (w.heap.size+1) #[I O W,I O H,Sz a5 n5 c5',I O (clampG (X - N) W),I O (clampG (Y) H),.bool false,I O 0,Sz none 0 0,Sz a8 n8 c8,I O be])=.ok (.agg #[I O W,I O H,Sz a5 n5 c5',I O (clampG (X - N) W),I O (clampG (Y) H),.bool false,I O 0,Sz none 0 0,Sz a8 n8 c8,I O be]) (((VV.setCell ⟨w.heap.size,6,none⟩ (I O 0)).setCell ⟨w.heap.size,7,none⟩ (Sz none 0 0)).setRow (w.heap.size+1) #[I O W,I O H,Sz a5 n5 c5',I O (clampG (X - N) W),I O (clampG (Y) H),.bool false,I O 0,Sz none 0 0,Sz a8 n8 c8,I O be]):=run_loadVar_row _ _ _ _ _ _ _ (setRow_heap _ _ _ _ _ _ hVr) Tryd.underlying31 rfl (by kernel_rfl)
 have bF:Below w.heap.size w (((VV.setCell ⟨w.heap.size,6,none⟩ (I O 0)).setCell ⟨w.heap.size,7,none⟩ (Sz none 0 0)).setRow (w.heap.size+1) #[I O W,I O H,Sz a5 n5 c5',I O (clampG (X - N) W),I O (clampG (Y) H),.bool false,I O 0,Sz none 0 0,Sz a8 n8 c8,I O be]):=
   below_setRow (Below.setCell (p:=⟨w.heap.size,7,none⟩) (Below.setCell (p:=⟨w.heap.size,6,none⟩) (by rw[hVV];exact below_setCells _ _ _ b4 (Nat.le_refl _)) (Nat.le_refl _) _) (Nat.le_refl _) _) (Nat.le_add_right _ 1) _
 have rN:Own (.sl .int) (((VV.setCell ⟨w.heap.size,6,none⟩ (I O 0)).setCell ⟨w.heap.size,7,none⟩ (Sz none 0 0)).setRow (w.heap.size+1) #[I O W,I O H,Sz a5 n5 c5',I O (clampG (X - N) W),I O (clampG (Y) H),.bool false,I O 0,Sz none 0 0,Sz a8 n8 c8,I O be]) w3.heap.size [Sz a5 n5 c5'] (zs) F:=by
   rw[hVV]
   exact own_keepAll (ho) (by have:=k3.size;have:=HB2.out.2;omega) (by have:=k3.size;have:=HB2.out.2;omega) _ _ _ _ _
 have HSZ:Hid (w.heap.size≤w3.heap.size):=b3.size
 have HF:Hid (_∧_):=⟨bF,rN⟩
 have HVV:Hid (VV=_):=hVV
 have HTH:Hid (w4.there w.heap.size 0 6):=hth
 clear hVV hVb hth b4 k4 i4 bF rN ho hb4 b3 k3
 go_wp2_with (first | (refine wpList_store_mid rfl _ _ _ rfl w.heap.size 0 #[I O W,I O H,Sz a5 n5 c5',I O (clampG (X - N) W),I O (clampG (Y) H),.bool false] rfl rfl HTH.out (by kernel_rfl) (by simp[Value.oneCell']) ?_;rw[← HVV.out]) | (refine wpList_store_row rfl _ _ _ rfl _ _ rfl rfl _ _ hVr (by kernel_rfl) rfl (by simp[Value.oneCell']) ?_))
 (try simp only[Exit.inBlock,Exit.then])
 refine bodyPost_ret (by simp[results,Tryd.results72,asAddr,Act.put,HLD];try rfl) rfl ?_
 refine⟨[I O W,I O H,Sz a5 n5 c5',I O (clampG (X - N) W),I O (clampG (Y) H),.bool false,I O 0,Sz none 0 0,Sz a8 n8 c8,I O be],rfl,?_,HF.out.1⟩
 rw[HE.out]
 intro w'' hk r2 r7 r8
 exact reads_Vt (d:=((goD (W,H,zs,X,Y,wrp,()) (X - N) (Y),(0:Int),[],pl,be,()):TD)) (own_read HF.out.2 HSZ.out hk) (nil_readI _) r8
end Go.Proofs.YthodinpflcbklaaDoor
namespace Go.Proofs.YthodinpflcbklaaDoor
open Go.RowKit
set_option maxRecDepth 100000
theorem sact_no(W H X Y st be:Int)(wrp:Bool)(a a7 a8:Option Addr)(n c n7 c7 n8 c8:Nat)(zs al pl:List Int)(b:Int)(w:World)(hg:gokB (W,H,zs,X,Y,wrp,())=true)(h2:Reads (.sl .int) w [Sz a n c] zs)(h7:Reads (.sl .int) w [Sz a7 n7 c7] al)(h8:Reads (.sl .u8) w [Sz a8 n8 c8] pl)(hal:∀ i,0≤at0 al i∧at0 al i≤9999)(hb:b≠65∧b≠66∧b≠67∧b≠68∧b≠72∧b≠74∧b≠75):
   Calls Tryd.prog 72 #[.agg #[I O W,I O H,Sz a n c,I O X,I O Y,.bool wrp,I O st,Sz a7 n7 c7,Sz a8 n8 c8,I O be],I O b] w fun e w'=>∃ o,e=.returned (.agg o.toArray)∧RK w w' o (((doD (W,H,zs,X,Y,wrp,()) al b,(0:Int),[],pl,be,()):TD)) (Sz a n c) (Sz a7 n7 c7) (Sz a8 n8 c8) zs al pl∧Below w.heap.size w w':=by
 obtain⟨W2,hW2,bW2,zW2,hA2,hZ2,hG2,HBX⟩:=mpro2 W H X Y st be wrp a a7 a8 n c n7 c7 n8 c8 w
 have HB2:Hid (Below w.heap.size w W2∧W2.heap.size=w.heap.size+3):=⟨bW2,zW2⟩
 have HW:Hid (W2=_):=hW2
 have HR:Hid (Reads (.sl .int) w [Sz a n c] zs∧Reads (.sl .u8) w [Sz a8 n8 c8] pl):=⟨h2,h8⟩
 obtain⟨W',H',eW,eH,g1,g2,g3,g4,g5,hlen,hcl,hcu⟩:=gok_parts hg
 obtain⟨c1,c2,c3,c4,c5⟩:=cursB_iff.1 hcu
 obtain⟨hl7,hr7,_,_⟩:=reads_ints h7
 obtain⟨N,hN⟩:∃ N,N=argM al 0 1:=⟨_,rfl⟩
 have hNb:1≤N∧N≤9999:=by rw[hN];have:=hal 0;unfold argM;split <;> omega
 have hNc:N=cntN al 0:=by rw[hN];exact argM_cnt (hal 0).1
 have QA:Hid (Calls Tryd.prog 87 #[Sz a7 n7 c7,I O 0,I O 1] W2 fun e w'=>e=.returned (I O N)∧Below W2.heap.size W2 w'):=by rw[hN];exact sarg_any a7 n7 c7 al 0 1 W2 hl7 (hr7.later bW2) (by omega)
 have hYW:0≤Y*W∧Y*W≤40000:=by
   have q1:0≤Y*W:=Int.mul_nonneg (by omega) (by omega)
   have q2:Y*W≤200*200:=Int.mul_le_mul (by omega) (by omega) (by omega) (by omega)
   omega
 obtain⟨PP,hPP⟩:∃ P,P=Y*W:=⟨_,rfl⟩
 have wp1:IntKind.i64.wrap (Y*W)=PP:=by rw[wrap_i64_in _ (by omega) (by omega)];exact hPP.symm
 have wp2:IntKind.i64.wrap (PP+X)=PP+X:=wrap_i64_in _ (by omega) (by omega)
 have HE:Hid (((doD (W,H,zs,X,Y,wrp,()) al b,(0:Int),[],pl,be,()):TD)=((W,H,zs,X,Y,wrp,()),(0:Int),[],pl,be,())):=by
   show _=_
   unfold doD doG
   rw[if_neg hb.1,if_neg hb.2.1,if_neg hb.2.2.1,if_neg hb.2.2.2.1,if_neg hb.2.2.2.2.1,if_neg hb.2.2.2.2.2.1,if_neg hb.2.2.2.2.2.2]
 have e65:(b==65)=false:=by simpa using hb.1
 have e66:(b==66)=false:=by simpa using hb.2.1
 have e67:(b==67)=false:=by simpa using hb.2.2.1
 have e68:(b==68)=false:=by simpa using hb.2.2.2.1
 have e72:(b==72)=false:=by simpa using hb.2.2.2.2.1
 have e74:(b==74)=false:=by simpa using hb.2.2.2.2.2.1
 have e75:(b==75)=false:=by simpa using hb.2.2.2.2.2.2
 clear hb hg h2 h7 h8 hal hN hNc hl7 hr7 hlen hcl hcu hW2 bW2 zW2 hA2 hZ2 hG2 eW eH hPP hYW
 have y0:W2.cell? ⟨w.heap.size,0,none⟩=some (I O W):=bxc (HBX.out _ (Below.refl _ _)).1 rfl
 have y1:W2.cell? ⟨w.heap.size,1,none⟩=some (I O H):=bxc (HBX.out _ (Below.refl _ _)).1 rfl
 have y2:W2.cell? ⟨w.heap.size,2,none⟩=some (Sz a n c):=bxc (HBX.out _ (Below.refl _ _)).1 rfl
 have y3:W2.cell? ⟨w.heap.size,3,none⟩=some (I O X):=bxc (HBX.out _ (Below.refl _ _)).1 rfl
 have y4:W2.cell? ⟨w.heap.size,4,none⟩=some (I O Y):=bxc (HBX.out _ (Below.refl _ _)).1 rfl
 have y5:W2.cell? ⟨w.heap.size,5,none⟩=some (.bool wrp):=bxc (HBX.out _ (Below.refl _ _)).1 rfl
 have y6:W2.cell? ⟨w.heap.size,6,none⟩=some (I O st):=bxc (HBX.out _ (Below.refl _ _)).1 rfl
 have y7:W2.cell? ⟨w.heap.size,7,none⟩=some (Sz a7 n7 c7):=bxc (HBX.out _ (Below.refl _ _)).1 rfl
 have y8:W2.cell? ⟨w.heap.size,8,none⟩=some (Sz a8 n8 c8):=bxc (HBX.out _ (Below.refl _ _)).1 rfl
 have y9:W2.cell? ⟨w.heap.size,9,none⟩=some (I O be):=bxc (HBX.out _ (Below.refl _ _)).1 rfl
 have z0:W2.cell? ⟨w.heap.size+1+1,0,none⟩=some (I O W):=bxc (HBX.out _ (Below.refl _ _)).2.2 rfl
 have z1:W2.cell? ⟨w.heap.size+1+1,1,none⟩=some (I O H):=bxc (HBX.out _ (Below.refl _ _)).2.2 rfl
 have z2:W2.cell? ⟨w.heap.size+1+1,2,none⟩=some (Sz a n c):=bxc (HBX.out _ (Below.refl _ _)).2.2 rfl
 have z3:W2.cell? ⟨w.heap.size+1+1,3,none⟩=some (I O X):=bxc (HBX.out _ (Below.refl _ _)).2.2 rfl
 have z4:W2.cell? ⟨w.heap.size+1+1,4,none⟩=some (I O Y):=bxc (HBX.out _ (Below.refl _ _)).2.2 rfl
 have z5:W2.cell? ⟨w.heap.size+1+1,5,none⟩=some (.bool wrp):=bxc (HBX.out _ (Below.refl _ _)).2.2 rfl
 go_enter Tryd.func72,Tryd.ntmps72
 go_wp2_with fail
 rw[← HW.out]
 refine QA.out.mono ?_
 rintro e w3 ⟨rfl,hb3⟩
 have b3:=HB2.out.1.trans (hb3.mono HB2.out.1.size)
 have k3:=hb3
 clear y0 y1 y2 y3 y4 y5 y6 y7 y8 y9 z0 z1 z2 z3 z4 z5 hb3
 have z0:w3.cell? ⟨w.heap.size+1+1,0,none⟩=some (I O W):=bxc (HBX.out _ k3).2.2 rfl
 have z1:w3.cell? ⟨w.heap.size+1+1,1,none⟩=some (I O H):=bxc (HBX.out _ k3).2.2 rfl
 have z2:w3.cell? ⟨w.heap.size+1+1,2,none⟩=some (Sz a n c):=bxc (HBX.out _ k3).2.2 rfl
 have z3:w3.cell? ⟨w.heap.size+1+1,3,none⟩=some (I O X):=bxc (HBX.out _ k3).2.2 rfl
 have z4:w3.cell? ⟨w.heap.size+1+1,4,none⟩=some (I O Y):=bxc (HBX.out _ k3).2.2 rfl
 have z5:w3.cell? ⟨w.heap.size+1+1,5,none⟩=some (.bool wrp):=bxc (HBX.out _ k3).2.2 rfl
 have i4:=HBX.out _ k3
 have hVr:((w3.setCell ⟨w.heap.size,6,none⟩ (I O 0)).setCell ⟨w.heap.size,7,none⟩ (Sz none 0 0)).heap[w.heap.size+1]?=some (.cells #[I O 0,I O 0,Sz none 0 0,I O 0,I O 0,.bool false,I O 0,Sz none 0 0,Sz none 0 0,I O 0] 31 (0,0)):=by rw[box_other _ (by omega),box_other _ (by omega)];exact i4.2.1
 have q0:w3.cell? ⟨w.heap.size,0,none⟩=some (I O W):=bxc i4.1 rfl
 have q1:w3.cell? ⟨w.heap.size,1,none⟩=some (I O H):=bxc i4.1 rfl
 have q2:w3.cell? ⟨w.heap.size,2,none⟩=some (Sz a n c):=bxc i4.1 rfl
 have q3:w3.cell? ⟨w.heap.size,3,none⟩=some (I O X):=bxc i4.1 rfl
 have q4:w3.cell? ⟨w.heap.size,4,none⟩=some (I O Y):=bxc i4.1 rfl
 have q5:w3.cell? ⟨w.heap.size,5,none⟩=some (.bool wrp):=bxc i4.1 rfl
 have q6:w3.cell? ⟨w.heap.size,6,none⟩=some (I O st):=bxc i4.1 rfl
 have q7:w3.cell? ⟨w.heap.size,7,none⟩=some (Sz a7 n7 c7):=bxc i4.1 rfl
 have q8:w3.cell? ⟨w.heap.size,8,none⟩=some (Sz a8 n8 c8):=bxc i4.1 rfl
 have q9:w3.cell? ⟨w.heap.size,9,none⟩=some (I O be):=bxc i4.1 rfl
 have f6:w3.frozen? ⟨w.heap.size,6,none⟩=false:=box_frozen i4.1
 have f7:w3.frozen? ⟨w.heap.size,7,none⟩=false:=box_frozen i4.1
 have HLD:(loadVar 31 ⟨w.heap.size+1,0,none⟩).run Tryd.prog (((w3.setCell ⟨w.heap.size,6,none⟩ (I O 0)).setCell ⟨w.heap.size,7,none⟩ (Sz none 0 0)).setRow (w.heap.size+1) #[I O W,I O H,Sz a n c,I O X,I O Y,.bool wrp,I O 0,Sz none 0 0,Sz a8 n8 c8,I O be])=.ok (.agg #[I O W,I O H,Sz a n c,I O X,I O Y,.bool wrp,I O 0,Sz none 0 0,Sz a8 n8 c8,I O be]) (((w3.setCell ⟨w.heap.size,6,none⟩ (I O 0)).setCell ⟨w.heap.size,7,none⟩ (Sz none 0 0)).setRow (w.heap.size+1) #[I O W,I O H,Sz a n c,I O X,I O Y,.bool wrp,I O 0,Sz none 0 0,Sz a8 n8 c8,I O be]):=run_loadVar_row _ _ _ _ _ _ _ (setRow_heap _ _ _ _ _ _ hVr) Tryd.underlying31 rfl (by kernel_rfl)
 have bF:Below w.heap.size w (((w3.setCell ⟨w.heap.size,6,none⟩ (I O 0)).setCell ⟨w.heap.size,7,none⟩ (Sz none 0 0)).setRow (w.heap.size+1) #[I O W,I O H,Sz a n c,I O X,I O Y,.bool wrp,I O 0,Sz none 0 0,Sz a8 n8 c8,I O be]):=
   below_setRow (Below.setCell (p:=⟨w.heap.size,7,none⟩) (Below.setCell (p:=⟨w.heap.size,6,none⟩) b3 (Nat.le_refl _) _) (Nat.le_refl _) _) (Nat.le_add_right _ 1) _
 have HF:Hid (Below _ _ _):=bF
 clear i4 bF b3 k3
 go_wp2_with (refine wpList_store_row rfl _ _ _ rfl _ _ rfl rfl _ _ hVr (by kernel_rfl) rfl (by simp[Value.oneCell']) ?_)
 (try simp only[Exit.inBlock,Exit.then])
 refine bodyPost_ret (by simp[results,Tryd.results72,asAddr,Act.put,HLD];try rfl) rfl ?_
 refine⟨[I O W,I O H,Sz a n c,I O X,I O Y,.bool wrp,I O 0,Sz none 0 0,Sz a8 n8 c8,I O be],rfl,?_,HF.out⟩
 rw[HE.out]
 intro w'' hk r2 r7 r8
 exact reads_Vt (d:=(((W,H,zs,X,Y,wrp,()),(0:Int),[],pl,be,()):TD)) r2 (nil_readI _) r8
end Go.Proofs.YthodinpflcbklaaDoor
