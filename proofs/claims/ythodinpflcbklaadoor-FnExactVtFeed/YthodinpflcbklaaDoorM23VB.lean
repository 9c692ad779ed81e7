/-
  Parts of the road to VB, joined: SvH, SvG, SvJ.
-/
import Derived.Test.YthodinpflcbklaaDoorM21VB
open Go.Value renaming int → I,slice → Sz
open Go.IntKind renaming i64 → O
open List renaming setIfInBounds_toArray → lA,getElem_toArray → lB,getElem_cons_succ → lC,getElem_cons_zero → lD,set_cons_zero → lE,set_cons_succ → lF
set_option linter.unusedVariables false
set_option linter.unusedSimpArgs false
set_option maxHeartbeats 40000000
namespace Go.Proofs.YthodinpflcbklaaDoor
open Go.RowKit
set_option maxRecDepth 100000
theorem sact_H(W H X Y st be:Int)(wrp:Bool)(a a7 a8:Option Addr)(n c n7 c7 n8 c8:Nat)(zs al pl:List Int)(w:World)(hg:gokB (W,H,zs,X,Y,wrp,())=true)(h2:Reads (.sl .int) w [Sz a n c] zs)(h7:Reads (.sl .int) w [Sz a7 n7 c7] al)(h8:Reads (.sl .u8) w [Sz a8 n8 c8] pl)(hal:∀ i,0≤at0 al i∧at0 al i≤9999):
   Calls Tryd.prog 72 #[.agg #[I O W,I O H,Sz a n c,I O X,I O Y,.bool wrp,I O st,Sz a7 n7 c7,Sz a8 n8 c8,I O be],I O 72] w fun e w'=>∃ o,e=.returned (.agg o.toArray)∧RK w w' o (((doD (W,H,zs,X,Y,wrp,()) al 72,(0:Int),[],pl,be,()):TD)) (Sz a n c) (Sz a7 n7 c7) (Sz a8 n8 c8) zs al pl∧Below w.heap.size w w':=by
 obtain⟨W2,hW2,bW2,zW2,hA2,hZ2,hG2,HBX⟩:=mpro2 W H X Y st be wrp a a7 a8 n c n7 c7 n8 c8 w
 have HB2:Hid (Below w.heap.size w W2∧W2.heap.size=w.heap.size+3):=⟨bW2,zW2⟩
 have HW:Hid (W2=_):=hW2
 have HR:Hid (Reads (.sl .int) w [Sz a n c] zs∧Reads (.sl .u8) w [Sz a8 n8 c8] pl):=⟨h2,h8⟩
 obtain⟨W',H',eW,eH,g1,g2,g3,g4,g5,hlen,hcl,hcu⟩:=gok_parts hg
 obtain⟨c1,c2,c3,c4,c5⟩:=cursB_iff.1 hcu
 obtain⟨hl7,hr7,_,_⟩:=reads_ints h7
 obtain⟨N,hN⟩:∃ N,N=argM al 0 1:=⟨_,rfl⟩
 have hNb:1≤N∧N≤9999:=by rw[hN];have:=hal 0;unfold argM;split <;> omega
 have hNc:N=cntN al 0:=by rw[hN];exact argM_cnt (hal 0).1
 have QA:Hid (Calls Tryd.prog 87 #[Sz a7 n7 c7,I O 0,I O 1] W2 fun e w'=>e=.returned (I O N)∧Below W2.heap.size W2 w'):=by rw[hN];exact sarg_any a7 n7 c7 al 0 1 W2 hl7 (hr7.later bW2) (by omega)
 have hYW:0≤Y*W∧Y*W≤40000:=by
   have q1:0≤Y*W:=Int.mul_nonneg (by omega) (by omega)
   have q2:Y*W≤200*200:=Int.mul_le_mul (by omega) (by omega) (by omega) (by omega)
   omega
 obtain⟨PP,hPP⟩:∃ P,P=Y*W:=⟨_,rfl⟩
 have wp1:IntKind.i64.wrap (Y*W)=PP:=by rw[wrap_i64_in _ (by omega) (by omega)];exact hPP.symm
 have wp2:IntKind.i64.wrap (PP+X)=PP+X:=wrap_i64_in _ (by omega) (by omega)
 obtain⟨M,hM⟩:∃ M,M=argM al 1 1:=⟨_,rfl⟩
 have hMb:1≤M∧M≤9999:=by rw[hM];have:=hal 1;unfold argM;split <;> omega
 have HE:Hid (((doD (W,H,zs,X,Y,wrp,()) al 72,(0:Int),[],pl,be,()):TD)=(goD (W,H,zs,X,Y,wrp,()) (M - 1) (N - 1),(0:Int),[],pl,be,())):=by
   rw[hNc,hM,argM_cnt (hal 1).1]
   rfl
 have wq1:IntKind.i64.wrap (M - 1)=M - 1:=wrap_i64_in _ (by omega) (by omega)
 have wq2:IntKind.i64.wrap (N - 1)=N - 1:=wrap_i64_in _ (by omega) (by omega)
 have QB:Hid (∀ w',Below w.heap.size w w'→Calls Tryd.prog 87 #[Sz a7 n7 c7,I O 1,I O 1] w' fun e w''=>e=.returned (I O M)∧Below w'.heap.size w' w''):=fun w' hb=>by rw[hM];exact sarg_any a7 n7 c7 al 1 1 w' hl7 (hr7.later hb) (by omega)
 have QG:Hid (∀ w',Below w.heap.size w w'→Calls Tryd.prog 44 #[.agg #[I O W,I O H,Sz a n c,I O X,I O Y,.bool wrp],I O (M - 1),I O (N - 1)] w' fun e w''=>GAns w' w'' e (goD (W,H,zs,X,Y,wrp,()) (M - 1) (N - 1))):=fun w' hb=>sgo_any (g:=(W,H,zs,X,Y,wrp,())) (M - 1) (N - 1) w' hg (h2.later hb)
 clear hg h2 h7 h8 hal hN hNc hl7 hr7 hlen hcl hcu hW2 bW2 zW2 hA2 hZ2 hG2 eW eH hM hPP hYW
 have y0:W2.cell? ⟨w.heap.size,0,none⟩=some (I O W):=bxc (HBX.out _ (Below.refl _ _)).1 rfl
 have y1:W2.cell? ⟨w.heap.size,1,none⟩=some (I O H):=bxc (HBX.out _ (Below.refl _ _)).1 rfl
 have y2:W2.cell? ⟨w.heap.size,2,none⟩=some (Sz a n c):=bxc (HBX.out _ (Below.refl _ _)).1 rfl
 have y3:W2.cell? ⟨w.heap.size,3,none⟩=some (I O X):=bxc (HBX.out _ (Below.refl _ _)).1 rfl
 have y4:W2.cell? ⟨w.heap.size,4,none⟩=some (I O Y):=bxc (HBX.out _ (Below.refl _ _)).1 rfl
 have y5:W2.cell? ⟨w.heap.size,5,none⟩=some (.bool wrp):=bxc (HBX.out _ (Below.refl _ _)).1 rfl
 have y6:W2.cell? ⟨w.heap.size,6,none⟩=some (I O st):=bxc (HBX.out _ (Below.refl _ _)).1 rfl
 have y7:W2.cell? ⟨w.heap.size,7,none⟩=some (Sz a7 n7 c7):=bxc (HBX.out _ (Below.refl _ _)).1 rfl
 have y8:W2.cell? ⟨w.heap.size,8,none⟩=some (Sz a8 n8 c8):=bxc (HBX.out _ (Below.refl _ _)).1 rfl
 have y9:W2.cell? ⟨w.heap.size,9,none⟩=some (I O be):=bxc (HBX.out _ (Below.refl _ _)).1 rfl
 have z0:W2.cell? ⟨w.heap.size+1+1,0,none⟩=some (I O W):=bxc (HBX.out _ (Below.refl _ _)).2.2 rfl
 have z1:W2.cell? ⟨w.heap.size+1+1,1,none⟩=some (I O H):=bxc (HBX.out _ (Below.refl _ _)).2.2 rfl
 have z2:W2.cell? ⟨w.heap.size+1+1,2,none⟩=some (Sz a n c):=bxc (HBX.out _ (Below.refl _ _)).2.2 rfl
 have z3:W2.cell? ⟨w.heap.size+1+1,3,none⟩=some (I O X):=bxc (HBX.out _ (Below.refl _ _)).2.2 rfl
 have z4:W2.cell? ⟨w.heap.size+1+1,4,none⟩=some (I O Y):=bxc (HBX.out _ (Below.refl _ _)).2.2 rfl
 have z5:W2.cell? ⟨w.heap.size+1+1,5,none⟩=some (.bool wrp):=bxc (HBX.out _ (Below.refl _ _)).2.2 rfl
 go_enter Tryd.func72,Tryd.ntmps72
 go_wp2_with fail
 rw[← HW.out]
 refine QA.out.mono ?_
 rintro e w3 ⟨rfl,hb3⟩
 have b3:=HB2.out.1.trans (hb3.mono HB2.out.1.size)
 have k3:=hb3
 clear y0 y1 y2 y3 y4 y5 y6 y7 y8 y9 z0 z1 z2 z3 z4 z5 hb3
 have z0:w3.cell? ⟨w.heap.size+1+1,0,none⟩=some (I O W):=bxc (HBX.out _ k3).2.2 rfl
 have z1:w3.cell? ⟨w.heap.size+1+1,1,none⟩=some (I O H):=bxc (HBX.out _ k3).2.2 rfl
 have z2:w3.cell? ⟨w.heap.size+1+1,2,none⟩=some (Sz a n c):=bxc (HBX.out _ k3).2.2 rfl
 have z3:w3.cell? ⟨w.heap.size+1+1,3,none⟩=some (I O X):=bxc (HBX.out _ k3).2.2 rfl
 have z4:w3.cell? ⟨w.heap.size+1+1,4,none⟩=some (I O Y):=bxc (HBX.out _ k3).2.2 rfl
 have z5:w3.cell? ⟨w.heap.size+1+1,5,none⟩=some (.bool wrp):=bxc (HBX.out _ k3).2.2 rfl
 have hS3:w3.drew.heap[w.heap.size+1+1]?=some (.cells #[I O W,I O H,Sz a n c,I O X,I O Y,.bool wrp] 29 (0,0))∧w3.drew.cell? ⟨w.heap.size,7,none⟩=some (Sz a7 n7 c7):=⟨(HBX.out _ k3).2.2,bxc (w:=w3) (HBX.out _ k3).1 rfl⟩
 have b3d:Below w.heap.size w w3.drew:=b3.trans ((Below.refl _ w3).drew.mono b3.size)
 have k3d:Below W2.heap.size W2 w3.drew:=k3.trans ((Below.refl _ w3).drew.mono k3.size)
 go_wp2_with fail
 clear z0 z1 z2 z3 z4 z5
 refine wp_region_held_drew (S:=fun w'=>w'.heap[w.heap.size+1+1]?=some (.cells #[I O W,I O H,Sz a n c,I O X,I O Y,.bool wrp] 29 (0,0))∧w'.cell? ⟨w.heap.size,7,none⟩=some (Sz a7 n7 c7)) (by kernel_rfl) hS3 (fun hHeld=>?_)
 refine wpAnyH_take (i:=0) (v:=.agg #[I O W,I O H,Sz a n c,I O X,I O Y,.bool wrp]) rfl (by kernel_rfl) (by kernel_rfl) (by kernel_rfl) (fun _ _ _ h=>h) (Or.inl ⟨by kernel_rfl,?_⟩) (by assumption) ?_
 · intro w9 hSw;(try dsimp only at hSw);have q:=hSw.1;have q0:w9.cell? ⟨w.heap.size+1+1,0,none⟩=some (I O W):=bxc q rfl;have q1:w9.cell? ⟨w.heap.size+1+1,1,none⟩=some (I O H):=bxc q rfl;have q2:w9.cell? ⟨w.heap.size+1+1,2,none⟩=some (Sz a n c):=bxc q rfl;have q3:w9.cell? ⟨w.heap.size+1+1,3,none⟩=some (I O X):=bxc q rfl;have q4:w9.cell? ⟨w.heap.size+1+1,4,none⟩=some (I O Y):=bxc q rfl;have q5:w9.cell? ⟨w.heap.size+1+1,5,none⟩=some (.bool wrp):=bxc q rfl;clear q;go_simp
 simp only[Act.put,lB,lC,lD,lA,lE,lF]
 refine wpAnyH_take (i:=1) (v:=.pointer (some ⟨w.heap.size,7,none⟩)) rfl (by kernel_rfl) (by kernel_rfl) (by kernel_rfl) (fun _ _ _ h=>h) (Or.inl ⟨by kernel_rfl,?_⟩) (by assumption) ?_
 · intro w9 hSw;(try dsimp only at hSw);go_simp
 simp only[Act.put,lB,lC,lD,lA,lE,lF]
 refine wpAnyH_take (i:=2) (v:=Sz a7 n7 c7) rfl (by kernel_rfl) (by kernel_rfl) (by kernel_rfl) (fun _ _ _ h=>h) (Or.inl ⟨by kernel_rfl,?_⟩) (by assumption) ?_
 · intro w9 hSw;(try dsimp only at hSw);have q7:=hSw.2;go_simp
 simp only[Act.put,lB,lC,lD,lA,lE,lF]
 refine wpAnyH_take (i:=5) (v:=I O N) rfl (by kernel_rfl) (by kernel_rfl) (by kernel_rfl) (fun _ _ _ h=>h) (Or.inl ⟨by kernel_rfl,?_⟩) (by assumption) ?_
 · intro w9 hSw;(try dsimp only at hSw);go_simp
 simp only[Act.put,lB,lC,lD,lA,lE,lF]
 refine wpAnyH_take (i:=6) (v:=I O (N - 1)) rfl (by kernel_rfl) (by kernel_rfl) (by kernel_rfl) (fun _ _ _ h=>h) (Or.inl ⟨by kernel_rfl,?_⟩) (by assumption) ?_
 · intro w9 hSw;(try dsimp only at hSw);go_simp
 simp only[Act.put,lB,lC,lD,lA,lE,lF]
 refine wpAnyH_ready (rs:=[3]) (by kernel_rfl) (by simp) ?_
 refine AllReadyH.cons rfl (fun K hK=>?_) AllReadyH.nil
 go_simp
 refine(QB.out _ b3d).mono ?_
 rintro e w5 ⟨rfl,hbw5⟩
 have bw5:=b3d.trans (hbw5.mono b3d.size)
 have kw5:=k3d.trans (hbw5.mono k3d.size)
 have hSw5:w5.heap[w.heap.size+1+1]?=some (.cells #[I O W,I O H,Sz a n c,I O X,I O Y,.bool wrp] 29 (0,0))∧w5.cell? ⟨w.heap.size,7,none⟩=some (Sz a7 n7 c7):=⟨(HBX.out _ kw5).2.2,bxc (HBX.out _ kw5).1 rfl⟩
 go_wp2_with fail
 refine hK.out _ _ hSw5 (fun hHeld3=>?_)
 clear hK
 refine wpAnyH_take (i:=4) (v:=I O (M - 1)) rfl (by kernel_rfl) (by kernel_rfl) (by kernel_rfl) (fun _ _ _ h=>h) (Or.inl ⟨by kernel_rfl,?_⟩) (by assumption) ?_
 · intro w9 hSw;(try dsimp only at hSw);go_simp
 simp only[Act.put,lB,lC,lD,lA,lE,lF]
 refine wpAnyH_ready (rs:=[7]) (by kernel_rfl) (by simp) ?_
 refine AllReadyH.cons rfl (fun K hK=>?_) AllReadyH.nil
 go_simp
 refine(QG.out _ bw5).mono ?_
 rintro e w6 ⟨a5,n5,c5',F,rfl,hown,hbw6⟩
 have bw6:=bw5.trans (hbw6.mono bw5.size)
 have kw6:=kw5.trans (hbw6.mono kw5.size)
 have hSw6:w6.heap[w.heap.size+1+1]?=some (.cells #[I O W,I O H,Sz a n c,I O X,I O Y,.bool wrp] 29 (0,0))∧w6.cell? ⟨w.heap.size,7,none⟩=some (Sz a7 n7 c7):=⟨(HBX.out _ kw6).2.2,bxc (HBX.out _ kw6).1 rfl⟩
 go_wp2_with fail
 refine hK.out _ _ hSw6 (fun hHeld7=>?_)
 clear hK
 refine wpAnyH_take (i:=8) (v:=.pointer (some ⟨w.heap.size,0,none⟩)) rfl (by kernel_rfl) (by kernel_rfl) (by kernel_rfl) (fun _ _ _ h=>h) (Or.inl ⟨by kernel_rfl,?_⟩) (by assumption) ?_
 · intro w9 hSw;(try dsimp only at hSw);go_simp
 simp only[Act.put,lB,lC,lD,lA,lE,lF]
 have ho:(∃ F,Own (.sl .int) w6 w5.heap.size [Sz a5 n5 c5'] zs F)∨(a5=a∧n5=n∧c5'=c∧zs=zs):=.inl ⟨F,hown⟩
 have hsz:=kw5.size
 have hsz2:=HB2.out.2
 have kE:=kw6
 have bE:=bw6
 have i4:=HBX.out _ kE
 obtain⟨VV,hVV⟩:∃ U,U=w6.setCells w.heap.size 0 (#[I O W,I O H,Sz a5 n5 c5',I O (clampG (M - 1) W),I O (clampG (N - 1) H),.bool false]:Array Value).toList:=⟨_,rfl⟩
 have hVb:VV.heap[w.heap.size]?=some (.cells #[I O W,I O H,Sz a5 n5 c5',I O (clampG (M - 1) W),I O (clampG (N - 1) H),.bool false,I O st,Sz a7 n7 c7,Sz a8 n8 c8,I O be] 31 (0,0)):=by rw[hVV];exact six_in i4.1
 have hVg:VV.heap[w.heap.size+1+1]?=some (.cells #[I O W,I O H,Sz a n c,I O X,I O Y,.bool wrp] 29 (0,0)):=by rw[hVV,setCells_other (by omega)];exact i4.2.2
 have hth:w6.there w.heap.size 0 6:=six_there i4.1
 have hVr:((VV.setCell ⟨w.heap.size,6,none⟩ (I O 0)).setCell ⟨w.heap.size,7,none⟩ (Sz none 0 0)).heap[w.heap.size+1]?=some (.cells #[I O 0,I O 0,Sz none 0 0,I O 0,I O 0,.bool false,I O 0,Sz none 0 0,Sz none 0 0,I O 0] 31 (0,0)):=by rw[box_other _ (by omega),box_other _ (by omega),hVV,setCells_other (by omega)];exact i4.2.1
 have q0:VV.cell? ⟨w.heap.size,0,none⟩=some (I O W):=bxc hVb rfl
 have q1:VV.cell? ⟨w.heap.size,1,none⟩=some (I O H):=bxc hVb rfl
 have q2:VV.cell? ⟨w.heap.size,2,none⟩=some (Sz a5 n5 c5'):=bxc hVb rfl
 have q3:VV.cell? ⟨w.heap.size,3,none⟩=some (I O (clampG (M - 1) W)):=bxc hVb rfl
 have q4:VV.cell? ⟨w.heap.size,4,none⟩=some (I O (clampG (N - 1) H)):=bxc hVb rfl
 have q5:VV.cell? ⟨w.heap.size,5,none⟩=some (.bool false):=bxc hVb rfl
 have q6:VV.cell? ⟨w.heap.size,6,none⟩=some (I O st):=bxc hVb rfl
 have q7:VV.cell? ⟨w.heap.size,7,none⟩=some (Sz a7 n7 c7):=bxc hVb rfl
 have q8:VV.cell? ⟨w.heap.size,8,none⟩=some (Sz a8 n8 c8):=bxc hVb rfl
 have q9:VV.cell? ⟨w.heap.size,9,none⟩=some (I O be):=bxc hVb rfl
 have f6:VV.frozen? ⟨w.heap.size,6,none⟩=false:=box_frozen hVb
 have f7:VV.frozen? ⟨w.heap.size,7,none⟩=false:=box_frozen hVb
 have HLD:(loadVar 31 ⟨w.heap.size+1,0,none⟩).run Tryd.prog (((VV.setCell ⟨w.heap.size,6,none⟩ (I O 0)).setCell ⟨w.heap.size,7,none⟩ (Sz none 0 0)).setRow (w.heap.size+1) #[I O W,I O H,Sz a5 n5 c5',I O (clampG (M - 1) W),I O (clampG (N - 1) H),.bool false,I O 0,Sz none 0 0,Sz a8 n8 c8,I O be])=.ok (.agg #[I O W,I O H,Sz a5 n5 c5',I O (clampG (M - 1) W),I O (clampG (N - 1) H),.bool false,I O 0,Sz none 0 0,Sz a8 n8 c8,I O be]) (((VV.setCell ⟨w.heap.size,6,none⟩ (I O 0)).setCell ⟨w.heap.size,7,none⟩ (Sz none 0 0)).setRow (w.heap.size+1) #[I O W,I O H,Sz a5 n5 c5',I O (clampG (M - 1) W),I O (clampG (N - 1) H),.bool false,I O 0,Sz none 0 0,Sz a8 n8 c8,I O be]):=run_loadVar_row _ _ _ _ _ _ _ (setRow_heap _ _ _ _ _ _ hVr) Tryd.underlying31 rfl (by kernel_rfl)
 have bF:Below w.heap.size w (((VV.setCell ⟨w.heap.size,6,none⟩ (I O 0)).setCell ⟨w.heap.size,7,none⟩ (Sz none 0 0)).setRow (w.heap.size+1) #[I O W,I O H,Sz a5 n5 c5',I O (clampG (M - 1) W),I O (clampG (N - 1) H),.bool false,I O 0,Sz none 0 0,Sz a8 n8 c8,I O be]):=
   below_setRow (Below.setCell (p:=⟨w.heap.size,7,none⟩) (Below.setCell (p:=⟨w.heap.size,6,none⟩) (by rw[hVV];exact below_setCells _ _ _ bE (Nat.le_refl _)) (Nat.le_refl _) _) (Nat.le_refl _) _) (Nat.le_add_right _ 1) _
 have rN:∀ w'':World,(∀ g,w.heap.size≤g→g < (((VV.setCell ⟨w.heap.size,6,none⟩ (I O 0)).setCell ⟨w.heap.size,7,none⟩ (Sz none 0 0)).setRow (w.heap.size+1) #[I O W,I O H,Sz a5 n5 c5',I O (clampG (M - 1) W),I O (clampG (N - 1) H),.bool false,I O 0,Sz none 0 0,Sz a8 n8 c8,I O be]).heap.size→w''.heap[g]?=(((VV.setCell ⟨w.heap.size,6,none⟩ (I O 0)).setCell ⟨w.heap.size,7,none⟩ (Sz none 0 0)).setRow (w.heap.size+1) #[I O W,I O H,Sz a5 n5 c5',I O (clampG (M - 1) W),I O (clampG (N - 1) H),.bool false,I O 0,Sz none 0 0,Sz a8 n8 c8,I O be]).heap[g]?)→Reads (.sl .int) w'' [Sz a n c] zs→Reads (.sl .int) w'' [Sz a5 n5 c5'] (zs):=by
   intro w'' hk r2
   rcases ho with ⟨F,ho⟩ | ⟨e1,e2,e3,e4⟩
   · rw[hVV] at hk
     exact own_read (own_keepAll ho (by omega) (by omega) _ _ _ _ _) (by omega) hk
   · subst e1;subst e2;subst e3
     rw[e4]
     exact r2
 have HF:Hid (_∧_):=⟨bF,rN⟩
 have HVV:Hid (VV=_):=hVV
 have HTH:Hid (w6.there w.heap.size 0 6):=hth
 have hSV:VV.heap[w.heap.size+1+1]?=some (.cells #[I O W,I O H,Sz a n c,I O X,I O Y,.bool wrp] 29 (0,0))∧VV.cell? ⟨w.heap.size,7,none⟩=some (Sz a7 n7 c7):=⟨hVg,q7⟩
 clear hVV hVb hth i4 bF rN ho kE bE hVg
 refine wpAnyH_ready (rs:=[9]) (by kernel_rfl) (by simp) ?_
 refine AllReadyH.cons rfl (fun K hK=>?_) AllReadyH.nil
 rw[if_pos (by simp[Region.wanted])]
 refine wp_store_mid _ _ _ rfl w.heap.size 0 #[I O W,I O H,Sz a5 n5 c5',I O (clampG (M - 1) W),I O (clampG (N - 1) H),.bool false] (by rfl) (by rfl) HTH.out (by kernel_rfl) (by simp[Value.oneCell']) ?_
 rw[← HVV.out]
 refine hK.out _ _ hSV (fun hHeldE=>?_)
 clear hK
 refine wpAnyH_done (by kernel_rfl) ?_ _
 clear hHeld hHeld3 hHeld7 hSw5 hSw6 hS3 bw5 kw5 bw6 kw6 b3d k3d b3 k3 hown hbw5 hbw6
 clear hSV hHeldE
 go_wp2_with (refine wpList_store_row rfl _ _ _ rfl _ _ rfl rfl _ _ hVr (by kernel_rfl) rfl (by simp[Value.oneCell']) ?_)
 (try simp only[Exit.inBlock,Exit.then])
 refine bodyPost_ret (by simp[results,Tryd.results72,asAddr,Act.put,HLD];try rfl) rfl ?_
 refine⟨[I O W,I O H,Sz a5 n5 c5',I O (clampG (M - 1) W),I O (clampG (N - 1) H),.bool false,I O 0,Sz none 0 0,Sz a8 n8 c8,I O be],rfl,?_,HF.out.1⟩
 rw[HE.out]
 intro w'' hk r2 r7 r8
 exact reads_Vt (d:=((goD (W,H,zs,X,Y,wrp,()) (M - 1) (N - 1),(0:Int),[],pl,be,()):TD)) (HF.out.2 w'' hk r2) (nil_readI _) r8
end Go.Proofs.YthodinpflcbklaaDoor
namespace Go.Proofs.YthodinpflcbklaaDoor
open Go.RowKit
theorem serase_any(W H X Y:Int)(wrp:Bool)(a:Option Addr)(n c:Nat)(zs:List Int)(x A y m:Int)(w:World)(hg:gokB (W,H,zs,X,Y,wrp,())=true)(hr:Reads (.sl .int) w [Sz a n c] zs)(hA:0≤A∧A≤1000000):
   Calls Tryd.prog 88 #[.agg #[I O W,I O H,Sz a n c,I O X,I O Y,.bool wrp],I O x,I O A,I O y,I O m] w fun e w'=>∃ a5 n5 c5,e=.returned (.agg #[I O W,I O H,Sz a5 n5 c5,I O X,I O Y,.bool wrp])∧((∃ F,Own (.sl .int) w' w.heap.size [Sz a5 n5 c5] (ersM m x A y zs) F)∨(a5=a∧n5=n∧c5=c∧ersM m x A y zs=zs))∧Below w.heap.size w w':=by
 have key:∀ {e w'},GAns w w' e (ersD m x A y (W,H,zs,X,Y,wrp,()))→∃ a5 n5 c5,e=.returned (.agg #[I O W,I O H,Sz a5 n5 c5,I O X,I O Y,.bool wrp])∧((∃ F,Own (.sl .int) w' w.heap.size [Sz a5 n5 c5] (ersM m x A y zs) F)∨(a5=a∧n5=n∧c5=c∧ersM m x A y zs=zs))∧Below w.heap.size w w':=by
   rintro e w' ⟨a5,n5,c5,F,he,ho,hb⟩
   exact⟨a5,n5,c5,he,.inl ⟨F,ho⟩,hb⟩
 by_cases h0:m=0
 · exact(serase_0 W H X Y wrp a n c zs x A y m w hg hr h0).mono fun e w' h=>key h
 by_cases h1:m=1
 · exact(serase_1 W H X Y wrp a n c zs x A y m w hg hr h1 hA).mono fun e w' h=>key h
 by_cases h2:m=2
 · exact(serase_2 W H X Y wrp a n c zs x A y m w hg hr h2).mono fun e w' h=>key h
 refine(serase_no W H X Y wrp a n c zs x A y m w hg hr ⟨h0,h1,h2⟩).mono ?_
 rintro e w' ⟨he,hd,hb⟩
 exact⟨a,n,c,he,.inr ⟨rfl,rfl,rfl,congrArg (fun g:GrD=>g.2.2.1) hd⟩,hb⟩
end Go.Proofs.YthodinpflcbklaaDoor
namespace Go.Proofs.YthodinpflcbklaaDoor
open Go.RowKit
set_option maxRecDepth 100000
theorem sact_J(W H X Y st be:Int)(wrp:Bool)(a a7 a8:Option Addr)(n c n7 c7 n8 c8:Nat)(zs al pl:List Int)(w:World)(hg:gokB (W,H,zs,X,Y,wrp,())=true)(h2:Reads (.sl .int) w [Sz a n c] zs)(h7:Reads (.sl .int) w [Sz a7 n7 c7] al)(h8:Reads (.sl .u8) w [Sz a8 n8 c8] pl)(hal:∀ i,0≤at0 al i∧at0 al i≤9999):
   Calls Tryd.prog 72 #[.agg #[I O W,I O H,Sz a n c,I O X,I O Y,.bool wrp,I O st,Sz a7 n7 c7,Sz a8 n8 c8,I O be],I O 74] w fun e w'=>∃ o,e=.returned (.agg o.toArray)∧RK w w' o (((doD (W,H,zs,X,Y,wrp,()) al 74,(0:Int),[],pl,be,()):TD)) (Sz a n c) (Sz a7 n7 c7) (Sz a8 n8 c8) zs al pl∧Below w.heap.size w w':=by
 obtain⟨W2,hW2,bW2,zW2,hA2,hZ2,hG2,HBX⟩:=mpro2 W H X Y st be wrp a a7 a8 n c n7 c7 n8 c8 w
 have HB2:Hid (Below w.heap.size w W2∧W2.heap.size=w.heap.size+3):=⟨bW2,zW2⟩
 have HW:Hid (W2=_):=hW2
 have HR:Hid (Reads (.sl .int) w [Sz a n c] zs∧Reads (.sl .u8) w [Sz a8 n8 c8] pl):=⟨h2,h8⟩
 obtain⟨W',H',eW,eH,g1,g2,g3,g4,g5,hlen,hcl,hcu⟩:=gok_parts hg
 obtain⟨c1,c2,c3,c4,c5⟩:=cursB_iff.1 hcu
 obtain⟨hl7,hr7,_,_⟩:=reads_ints h7
 obtain⟨N,hN⟩:∃ N,N=argM al 0 1:=⟨_,rfl⟩
 have hNb:1≤N∧N≤9999:=by rw[hN];have:=hal 0;unfold argM;split <;> omega
 have hNc:N=cntN al 0:=by rw[hN];exact argM_cnt (hal 0).1
 have QA:Hid (Calls Tryd.prog 87 #[Sz a7 n7 c7,I O 0,I O 1] W2 fun e w'=>e=.returned (I O N)∧Below W2.heap.size W2 w'):=by rw[hN];exact sarg_any a7 n7 c7 al 0 1 W2 hl7 (hr7.later bW2) (by omega)
 have hYW:0≤Y*W∧Y*W≤40000:=by
   have q1:0≤Y*W:=Int.mul_nonneg (by omega) (by omega)
   have q2:Y*W≤200*200:=Int.mul_le_mul (by omega) (by omega) (by omega) (by omega)
   omega
 obtain⟨PP,hPP⟩:∃ P,P=Y*W:=⟨_,rfl⟩
 have wp1:IntKind.i64.wrap (Y*W)=PP:=by rw[wrap_i64_in _ (by omega) (by omega)];exact hPP.symm
 have wp2:IntKind.i64.wrap (PP+X)=PP+X:=wrap_i64_in _ (by omega) (by omega)
 obtain⟨M,hM⟩:∃ M,M=at0 al 0:=⟨_,rfl⟩
 have hln:(zs.length:Int)=n:=by have:=(reads_ints h2).1;omega
 have HE:Hid (((doD (W,H,zs,X,Y,wrp,()) al 74,(0:Int),[],pl,be,()):TD)=((W,H,ersM M (0) (PP+X) (n) zs,X,Y,wrp,()),(0:Int),[],pl,be,())):=by
   show ((doG al 74 W H X Y wrp zs,(0:Int),[],pl,be,()):TD)=_
   unfold doG
   rw[if_neg (by decide),if_neg (by decide),if_neg (by decide),if_neg (by decide),if_neg (by decide),if_pos (by decide),hln,← hPP,← hM]
 have QB:Hid (∀ w',Below w.heap.size w w'→Calls Tryd.prog 87 #[Sz a7 n7 c7,I O 0,I O 0] w' fun e w''=>e=.returned (I O M)∧Below w'.heap.size w' w''):=fun w' hb=>by rw[hM,← argM_zero al 0];exact sarg_any a7 n7 c7 al 0 0 w' hl7 (hr7.later hb) (by omega)
 have QG:Hid (∀ w',Below w.heap.size w w'→Calls Tryd.prog 88 #[.agg #[I O W,I O H,Sz a n c,I O X,I O Y,.bool wrp],I O (0),I O (PP+X),I O (n),I O M] w' fun e w''=>∃ a5 n5 c5,e=.returned (.agg #[I O W,I O H,Sz a5 n5 c5,I O X,I O Y,.bool wrp])∧((∃ F,Own (.sl .int) w'' w'.heap.size [Sz a5 n5 c5] (ersM M (0) (PP+X) (n) zs) F)∨(a5=a∧n5=n∧c5=c∧ersM M (0) (PP+X) (n) zs=zs))∧Below w'.heap.size w' w''):=fun w' hb=>serase_any W H X Y wrp a n c zs (0) (PP+X) (n) M w' hg (h2.later hb) (by omega)
 clear hg h2 h7 h8 hal hN hNc hl7 hr7 hlen hcl hcu hW2 bW2 zW2 hA2 hZ2 hG2 eW eH hM hln hPP hYW
 have y0:W2.cell? ⟨w.heap.size,0,none⟩=some (I O W):=bxc (HBX.out _ (Below.refl _ _)).1 rfl
 have y1:W2.cell? ⟨w.heap.size,1,none⟩=some (I O H):=bxc (HBX.out _ (Below.refl _ _)).1 rfl
 have y2:W2.cell? ⟨w.heap.size,2,none⟩=some (Sz a n c):=bxc (HBX.out _ (Below.refl _ _)).1 rfl
 have y3:W2.cell? ⟨w.heap.size,3,none⟩=some (I O X):=bxc (HBX.out _ (Below.refl _ _)).1 rfl
 have y4:W2.cell? ⟨w.heap.size,4,none⟩=some (I O Y):=bxc (HBX.out _ (Below.refl _ _)).1 rfl
 have y5:W2.cell? ⟨w.heap.size,5,none⟩=some (.bool wrp):=bxc (HBX.out _ (Below.refl _ _)).1 rfl
 have y6:W2.cell? ⟨w.heap.size,6,none⟩=some (I O st):=bxc (HBX.out _ (Below.refl _ _)).1 rfl
 have y7:W2.cell? ⟨w.heap.size,7,none⟩=some (Sz a7 n7 c7):=bxc (HBX.out _ (Below.refl _ _)).1 rfl
 have y8:W2.cell? ⟨w.heap.size,8,none⟩=some (Sz a8 n8 c8):=bxc (HBX.out _ (Below.refl _ _)).1 rfl
 have y9:W2.cell? ⟨w.heap.size,9,none⟩=some (I O be):=bxc (HBX.out _ (Below.refl _ _)).1 rfl
 have z0:W2.cell? ⟨w.heap.size+1+1,0,none⟩=some (I O W):=bxc (HBX.out _ (Below.refl _ _)).2.2 rfl
 have z1:W2.cell? ⟨w.heap.size+1+1,1,none⟩=some (I O H):=bxc (HBX.out _ (Below.refl _ _)).2.2 rfl
 have z2:W2.cell? ⟨w.heap.size+1+1,2,none⟩=some (Sz a n c):=bxc (HBX.out _ (Below.refl _ _)).2.2 rfl
 have z3:W2.cell? ⟨w.heap.size+1+1,3,none⟩=some (I O X):=bxc (HBX.out _ (Below.refl _ _)).2.2 rfl
 have z4:W2.cell? ⟨w.heap.size+1+1,4,none⟩=some (I O Y):=bxc (HBX.out _ (Below.refl _ _)).2.2 rfl
 have z5:W2.cell? ⟨w.heap.size+1+1,5,none⟩=some (.bool wrp):=bxc (HBX.out _ (Below.refl _ _)).2.2 rfl
 go_enter Tryd.func72,Tryd.ntmps72
 go_wp2_with fail
 rw[← HW.out]
 refine QA.out.mono ?_
 rintro e w3 ⟨rfl,hb3⟩
 have b3:=HB2.out.1.trans (hb3.mono HB2.out.1.size)
 have k3:=hb3
 clear y0 y1 y2 y3 y4 y5 y6 y7 y8 y9 z0 z1 z2 z3 z4 z5 hb3
 have z0:w3.cell? ⟨w.heap.size+1+1,0,none⟩=some (I O W):=bxc (HBX.out _ k3).2.2 rfl
 have z1:w3.cell? ⟨w.heap.size+1+1,1,none⟩=some (I O H):=bxc (HBX.out _ k3).2.2 rfl
 have z2:w3.cell? ⟨w.heap.size+1+1,2,none⟩=some (Sz a n c):=bxc (HBX.out _ k3).2.2 rfl
 have z3:w3.cell? ⟨w.heap.size+1+1,3,none⟩=some (I O X):=bxc (HBX.out _ k3).2.2 rfl
 have z4:w3.cell? ⟨w.heap.size+1+1,4,none⟩=some (I O Y):=bxc (HBX.out _ k3).2.2 rfl
 have z5:w3.cell? ⟨w.heap.size+1+1,5,none⟩=some (.bool wrp):=bxc (HBX.out _ k3).2.2 rfl
 have hS3:w3.drew.heap[w.heap.size+1+1]?=some (.cells #[I O W,I O H,Sz a n c,I O X,I O Y,.bool wrp] 29 (0,0))∧w3.drew.cell? ⟨w.heap.size,7,none⟩=some (Sz a7 n7 c7):=⟨(HBX.out _ k3).2.2,bxc (w:=w3) (HBX.out _ k3).1 rfl⟩
 have b3d:Below w.heap.size w w3.drew:=b3.trans ((Below.refl _ w3).drew.mono b3.size)
 have k3d:Below W2.heap.size W2 w3.drew:=k3.trans ((Below.refl _ w3).drew.mono k3.size)
 go_wp2_with fail
 clear z0 z1 z2 z3 z4 z5
 refine wp_region_held_drew (S:=fun w'=>w'.heap[w.heap.size+1+1]?=some (.cells #[I O W,I O H,Sz a n c,I O X,I O Y,.bool wrp] 29 (0,0))∧w'.cell? ⟨w.heap.size,7,none⟩=some (Sz a7 n7 c7)) (by kernel_rfl) hS3 (fun hHeld=>?_)
 refine wpAnyH_take (i:=0) (v:=.agg #[I O W,I O H,Sz a n c,I O X,I O Y,.bool wrp]) rfl (by kernel_rfl) (by kernel_rfl) (by kernel_rfl) (fun _ _ _ h=>h) (Or.inl ⟨by kernel_rfl,?_⟩) (by assumption) ?_
 · intro w9 hSw;(try dsimp only at hSw);have q:=hSw.1;have q0:w9.cell? ⟨w.heap.size+1+1,0,none⟩=some (I O W):=bxc q rfl;have q1:w9.cell? ⟨w.heap.size+1+1,1,none⟩=some (I O H):=bxc q rfl;have q2:w9.cell? ⟨w.heap.size+1+1,2,none⟩=some (Sz a n c):=bxc q rfl;have q3:w9.cell? ⟨w.heap.size+1+1,3,none⟩=some (I O X):=bxc q rfl;have q4:w9.cell? ⟨w.heap.size+1+1,4,none⟩=some (I O Y):=bxc q rfl;have q5:w9.cell? ⟨w.heap.size+1+1,5,none⟩=some (.bool wrp):=bxc q rfl;clear q;go_simp
 simp only[Act.put,lB,lC,lD,lA,lE,lF]
 refine wpAnyH_take (i:=1) (v:=I O (PP+X)) rfl (by kernel_rfl) (by kernel_rfl) (by kernel_rfl) (fun _ _ _ h=>h) (Or.inl ⟨by kernel_rfl,?_⟩) (by assumption) ?_
 · intro w9 hSw;(try dsimp only at hSw);go_simp
 simp only[Act.put,lB,lC,lD,lA,lE,lF]
 refine wpAnyH_take (i:=2) (v:=.pointer (some ⟨w.heap.size+1+1,2,none⟩)) rfl (by kernel_rfl) (by kernel_rfl) (by kernel_rfl) (fun _ _ _ h=>h) (Or.inl ⟨by kernel_rfl,?_⟩) (by assumption) ?_
 · intro w9 hSw;(try dsimp only at hSw);go_simp
 simp only[Act.put,lB,lC,lD,lA,lE,lF]
 refine wpAnyH_take (i:=3) (v:=Sz a n c) rfl (by kernel_rfl) (by kernel_rfl) (by kernel_rfl) (fun _ _ _ h=>h) (Or.inl ⟨by kernel_rfl,?_⟩) (by assumption) ?_
 · intro w9 hSw;(try dsimp only at hSw);have q:=hSw.1;have q0:w9.cell? ⟨w.heap.size+1+1,0,none⟩=some (I O W):=bxc q rfl;have q1:w9.cell? ⟨w.heap.size+1+1,1,none⟩=some (I O H):=bxc q rfl;have q2:w9.cell? ⟨w.heap.size+1+1,2,none⟩=some (Sz a n c):=bxc q rfl;have q3:w9.cell? ⟨w.heap.size+1+1,3,none⟩=some (I O X):=bxc q rfl;have q4:w9.cell? ⟨w.heap.size+1+1,4,none⟩=some (I O Y):=bxc q rfl;have q5:w9.cell? ⟨w.heap.size+1+1,5,none⟩=some (.bool wrp):=bxc q rfl;clear q;go_simp
 simp only[Act.put,lB,lC,lD,lA,lE,lF]
 refine wpAnyH_take (i:=4) (v:=I O n) rfl (by kernel_rfl) (by kernel_rfl) (by kernel_rfl) (fun _ _ _ h=>h) (Or.inl ⟨by kernel_rfl,?_⟩) (by assumption) ?_
 · intro w9 hSw;(try dsimp only at hSw);go_simp
 simp only[Act.put,lB,lC,lD,lA,lE,lF]
 refine wpAnyH_take (i:=5) (v:=.pointer (some ⟨w.heap.size,7,none⟩)) rfl (by kernel_rfl) (by kernel_rfl) (by kernel_rfl) (fun _ _ _ h=>h) (Or.inl ⟨by kernel_rfl,?_⟩) (by assumption) ?_
 · intro w9 hSw;(try dsimp only at hSw);go_simp
 simp only[Act.put,lB,lC,lD,lA,lE,lF]
 refine wpAnyH_take (i:=6) (v:=Sz a7 n7 c7) rfl (by kernel_rfl) (by kernel_rfl) (by kernel_rfl) (fun _ _ _ h=>h) (Or.inl ⟨by kernel_rfl,?_⟩) (by assumption) ?_
 · intro w9 hSw;(try dsimp only at hSw);have q7:=hSw.2;go_simp
 simp only[Act.put,lB,lC,lD,lA,lE,lF]
 refine wpAnyH_ready (rs:=[7]) (by kernel_rfl) (by simp) ?_
 refine AllReadyH.cons rfl (fun K hK=>?_) AllReadyH.nil
 go_simp
 refine(QB.out _ b3d).mono ?_
 rintro e w5 ⟨rfl,hbw5⟩
 have bw5:=b3d.trans (hbw5.mono b3d.size)
 have kw5:=k3d.trans (hbw5.mono k3d.size)
 have hSw5:w5.heap[w.heap.size+1+1]?=some (.cells #[I O W,I O H,Sz a n c,I O X,I O Y,.bool wrp] 29 (0,0))∧w5.cell? ⟨w.heap.size,7,none⟩=some (Sz a7 n7 c7):=⟨(HBX.out _ kw5).2.2,bxc (HBX.out _ kw5).1 rfl⟩
 go_wp2_with fail
 refine hK.out _ _ hSw5 (fun hHeld7=>?_)
 clear hK
 refine wpAnyH_ready (rs:=[8]) (by kernel_rfl) (by simp) ?_
 refine AllReadyH.cons rfl (fun K hK=>?_) AllReadyH.nil
 go_simp
 refine(QG.out _ bw5).mono ?_
 rintro e w6 ⟨a5,n5,c5,rfl,hown,hbw6⟩
 have bw6:=bw5.trans (hbw6.mono bw5.size)
 have kw6:=kw5.trans (hbw6.mono kw5.size)
 have hSw6:w6.heap[w.heap.size+1+1]?=some (.cells #[I O W,I O H,Sz a n c,I O X,I O Y,.bool wrp] 29 (0,0))∧w6.cell? ⟨w.heap.size,7,none⟩=some (Sz a7 n7 c7):=⟨(HBX.out _ kw6).2.2,bxc (HBX.out _ kw6).1 rfl⟩
 go_wp2_with fail
 refine hK.out _ _ hSw6 (fun hHeld8=>?_)
 clear hK
 refine wpAnyH_take (i:=9) (v:=.pointer (some ⟨w.heap.size,0,none⟩)) rfl (by kernel_rfl) (by kernel_rfl) (by kernel_rfl) (fun _ _ _ h=>h) (Or.inl ⟨by kernel_rfl,?_⟩) (by assumption) ?_
 · intro w9 hSw;(try dsimp only at hSw);go_simp
 simp only[Act.put,lB,lC,lD,lA,lE,lF]
 have ho:=hown
 have hsz:=kw5.size
 have hsz2:=HB2.out.2
 have kE:=kw6
 have bE:=bw6
 have i4:=HBX.out _ kE
 obtain⟨VV,hVV⟩:∃ U,U=w6.setCells w.heap.size 0 (#[I O W,I O H,Sz a5 n5 c5,I O X,I O Y,.bool wrp]:Array Value).toList:=⟨_,rfl⟩
 have hVb:VV.heap[w.heap.size]?=some (.cells #[I O W,I O H,Sz a5 n5 c5,I O X,I O Y,.bool wrp,I O st,Sz a7 n7 c7,Sz a8 n8 c8,I O be] 31 (0,0)):=by rw[hVV];exact six_in i4.1
 have hVg:VV.heap[w.heap.size+1+1]?=some (.cells #[I O W,I O H,Sz a n c,I O X,I O Y,.bool wrp] 29 (0,0)):=by rw[hVV,setCells_other (by omega)];exact i4.2.2
 have hth:w6.there w.heap.size 0 6:=six_there i4.1
 have hVr:((VV.setCell ⟨w.heap.size,6,none⟩ (I O 0)).setCell ⟨w.heap.size,7,none⟩ (Sz none 0 0)).heap[w.heap.size+1]?=some (.cells #[I O 0,I O 0,Sz none 0 0,I O 0,I O 0,.bool false,I O 0,Sz none 0 0,Sz none 0 0,I O 0] 31 (0,0)):=by rw[box_other _ (by omega),box_other _ (by omega),hVV,setCells_other (by omega)];exact i4.2.1
 have q0:VV.cell? ⟨w.heap.size,0,none⟩=some (I O W):=bxc hVb rfl
 have q1:VV.cell? ⟨w.heap.size,1,none⟩=some (I O H):=bxc hVb rfl
 have q2:VV.cell? ⟨w.heap.size,2,none⟩=some (Sz a5 n5 c5):=bxc hVb rfl
 have q3:VV.cell? ⟨w.heap.size,3,none⟩=some (I O X):=bxc hVb rfl
 have q4:VV.cell? ⟨w.heap.size,4,none⟩=some (I O Y):=bxc hVb rfl
 have q5:VV.cell? ⟨w.heap.size,5,none⟩=some (.bool wrp):=bxc hVb rfl
 have q6:VV.cell? ⟨w.heap.size,6,none⟩=some (I O st):=bxc hVb rfl
 have q7:VV.cell? ⟨w.heap.size,7,none⟩=some (Sz a7 n7 c7):=bxc hVb rfl
 have q8:VV.cell? ⟨w.heap.size,8,none⟩=some (Sz a8 n8 c8):=bxc hVb rfl
 have q9:VV.cell? ⟨w.heap.size,9,none⟩=some (I O be):=bxc hVb rfl
 have f6:VV.frozen? ⟨w.heap.size,6,none⟩=false:=box_frozen hVb
 have f7:VV.frozen? ⟨w.heap.size,7,none⟩=false:=box_frozen hVb
 have HLD:(loadVar 31 ⟨w.heap.size+1,0,none⟩).run Tryd.prog (((VV.setCell ⟨w.heap.size,6,none⟩ (I O 0)).setCell ⟨w.heap.size,7,none⟩ (Sz none 0 0)).setRow (w.heap.size+1) #[I O W,I O H,Sz a5 n5 c5,I O X,I O Y,.bool wrp,I O 0,Sz none 0 0,Sz a8 n8 c8,I O be])=.ok (.agg #[I O W,I O H,Sz a5 n5 c5,I O X,I O Y,.bool wrp,I O 0,Sz none 0 0,Sz a8 n8 c8,I O be]) (((VV.setCell ⟨w.heap.size,6,none⟩ (I O 0)).setCell ⟨w.heap.size,7,none⟩ (Sz none 0 0)).setRow (w.heap.size+1) #[I O W,I O H,Sz a5 n5 c5,I O X,I O Y,.bool wrp,I O 0,Sz none 0 0,Sz a8 n8 c8,I O be]):=run_loadVar_row _ _ _ _ _ _ _ (setRow_heap _ _ _ _ _ _ hVr) Tryd.underlying31 rfl (by kernel_rfl)
 have bF:Below w.heap.size w (((VV.setCell ⟨w.heap.size,6,none⟩ (I O 0)).setCell ⟨w.heap.size,7,none⟩ (Sz none 0 0)).setRow (w.heap.size+1) #[I O W,I O H,Sz a5 n5 c5,I O X,I O Y,.bool wrp,I O 0,Sz none 0 0,Sz a8 n8 c8,I O be]):=
   below_setRow (Below.setCell (p:=⟨w.heap.size,7,none⟩) (Below.setCell (p:=⟨w.heap.size,6,none⟩) (by rw[hVV];exact below_setCells _ _ _ bE (Nat.le_refl _)) (Nat.le_refl _) _) (Nat.le_refl _) _) (Nat.le_add_right _ 1) _
 have rN:∀ w'':World,(∀ g,w.heap.size≤g→g < (((VV.setCell ⟨w.heap.size,6,none⟩ (I O 0)).setCell ⟨w.heap.size,7,none⟩ (Sz none 0 0)).setRow (w.heap.size+1) #[I O W,I O H,Sz a5 n5 c5,I O X,I O Y,.bool wrp,I O 0,Sz none 0 0,Sz a8 n8 c8,I O be]).heap.size→w''.heap[g]?=(((VV.setCell ⟨w.heap.size,6,none⟩ (I O 0)).setCell ⟨w.heap.size,7,none⟩ (Sz none 0 0)).setRow (w.heap.size+1) #[I O W,I O H,Sz a5 n5 c5,I O X,I O Y,.bool wrp,I O 0,Sz none 0 0,Sz a8 n8 c8,I O be]).heap[g]?)→Reads (.sl .int) w'' [Sz a n c] zs→Reads (.sl .int) w'' [Sz a5 n5 c5] (ersM M (0) (PP+X) (n) zs):=by
   intro w'' hk r2
   rcases ho with ⟨F,ho⟩ | ⟨e1,e2,e3,e4⟩
   · rw[hVV] at hk
     exact own_read (own_keepAll ho (by omega) (by omega) _ _ _ _ _) (by omega) hk
   · subst e1;subst e2;subst e3
     rw[e4]
     exact r2
 have HF:Hid (_∧_):=⟨bF,rN⟩
 have HVV:Hid (VV=_):=hVV
 have HTH:Hid (w6.there w.heap.size 0 6):=hth
 have hSV:VV.heap[w.heap.size+1+1]?=some (.cells #[I O W,I O H,Sz a n c,I O X,I O Y,.bool wrp] 29 (0,0))∧VV.cell? ⟨w.heap.size,7,none⟩=some (Sz a7 n7 c7):=⟨hVg,q7⟩
 clear hVV hVb hth i4 bF rN ho kE bE hVg
 refine wpAnyH_ready (rs:=[10]) (by kernel_rfl) (by simp) ?_
 refine AllReadyH.cons rfl (fun K hK=>?_) AllReadyH.nil
 rw[if_pos (by simp[Region.wanted])]
 refine wp_store_mid _ _ _ rfl w.heap.size 0 #[I O W,I O H,Sz a5 n5 c5,I O X,I O Y,.bool wrp] (by rfl) (by rfl) HTH.out (by kernel_rfl) (by simp[Value.oneCell']) ?_
 rw[← HVV.out]
 refine hK.out _ _ hSV (fun hHeldE=>?_)
 clear hK
 refine wpAnyH_done (by kernel_rfl) ?_ _
 clear hHeld hHeld7 hHeld8 hSw5 hSw6 hS3 bw5 kw5 bw6 kw6 b3d k3d b3 k3 hown hbw5 hbw6
 clear hSV hHeldE
 go_wp2_with (refine wpList_store_row rfl _ _ _ rfl _ _ rfl rfl _ _ hVr (by kernel_rfl) rfl (by simp[Value.oneCell']) ?_)
 (try simp only[Exit.inBlock,Exit.then])
 refine bodyPost_ret (by simp[results,Tryd.results72,asAddr,Act.put,HLD];try rfl) rfl ?_
 refine⟨[I O W,I O H,Sz a5 n5 c5,I O X,I O Y,.bool wrp,I O 0,Sz none 0 0,Sz a8 n8 c8,I O be],rfl,?_,HF.out.1⟩
 rw[HE.out]
 intro w'' hk r2 r7 r8
 exact reads_Vt (d:=(((W,H,ersM M (0) (PP+X) (n) zs,X,Y,wrp,()),(0:Int),[],pl,be,()):TD)) (HF.out.2 w'' hk r2) (nil_readI _) r8
end Go.Proofs.YthodinpflcbklaaDoor
