/-
  Parts of the road to VB, joined: SvK, TmN, AppS.
-/
import Derived.Test.YthodinpflcbklaaDoorM23VB
import Derived.Test.YthodinpflcbklaaDoorM21VB
import Derived.Test.YthodinpflcbklaaDoorM18VB
import Derived.Test.YthodinpflcbklaaDoorM0VB
import Derived.Laws.AppendOwnNone
import Derived.Deep.AppendLies
import Derived.Lib.AppendStr
open Go.Value renaming int → I,slice → Sz
open Go.IntKind renaming i64 → O
open List renaming setIfInBounds_toArray → lA,getElem_toArray → lB,getElem_cons_succ → lC,getElem_cons_zero → lD,set_cons_zero → lE,set_cons_succ → lF
set_option linter.unusedVariables false
set_option linter.unusedSimpArgs false
set_option maxHeartbeats 40000000
namespace Go.Proofs.YthodinpflcbklaaDoor
open Go.RowKit
set_option maxRecDepth 100000
theorem sact_K(W H X Y st be:Int)(wrp:Bool)(a a7 a8:Option Addr)(n c n7 c7 n8 c8:Nat)(zs al pl:List Int)(w:World)(hg:gokB (W,H,zs,X,Y,wrp,())=true)(h2:Reads (.sl .int) w [Sz a n c] zs)(h7:Reads (.sl .int) w [Sz a7 n7 c7] al)(h8:Reads (.sl .u8) w [Sz a8 n8 c8] pl)(hal:∀ i,0≤at0 al i∧at0 al i≤9999):
   Calls Tryd.prog 72 #[.agg #[I O W,I O H,Sz a n c,I O X,I O Y,.bool wrp,I O st,Sz a7 n7 c7,Sz a8 n8 c8,I O be],I O 75] w fun e w'=>∃ o,e=.returned (.agg o.toArray)∧RK w w' o (((doD (W,H,zs,X,Y,wrp,()) al 75,(0:Int),[],pl,be,()):TD)) (Sz a n c) (Sz a7 n7 c7) (Sz a8 n8 c8) zs al pl∧Below w.heap.size w w':=by
 obtain⟨W2,hW2,bW2,zW2,hA2,hZ2,hG2,HBX⟩:=mpro2 W H X Y st be wrp a a7 a8 n c n7 c7 n8 c8 w
 have HB2:Hid (Below w.heap.size w W2∧W2.heap.size=w.heap.size+3):=⟨bW2,zW2⟩
 have HW:Hid (W2=_):=hW2
 have HR:Hid (Reads (.sl .int) w [Sz a n c] zs∧Reads (.sl .u8) w [Sz a8 n8 c8] pl):=⟨h2,h8⟩
 obtain⟨W',H',eW,eH,g1,g2,g3,g4,g5,hlen,hcl,hcu⟩:=gok_parts hg
 obtain⟨c1,c2,c3,c4,c5⟩:=cursB_iff.1 hcu
 obtain⟨hl7,hr7,_,_⟩:=reads_ints h7
 obtain⟨N,hN⟩:∃ N,N=argM al 0 1:=⟨_,rfl⟩
 have hNb:1≤N∧N≤9999:=by rw[hN];have:=hal 0;unfold argM;split <;> omega
 have hNc:N=cntN al 0:=by rw[hN];exact argM_cnt (hal 0).1
 have QA:Hid (Calls Tryd.prog 87 #[Sz a7 n7 c7,I O 0,I O 1] W2 fun e w'=>e=.returned (I O N)∧Below W2.heap.size W2 w'):=by rw[hN];exact sarg_any a7 n7 c7 al 0 1 W2 hl7 (hr7.later bW2) (by omega)
 have hYW:0≤Y*W∧Y*W≤40000:=by
   have q1:0≤Y*W:=Int.mul_nonneg (by omega) (by omega)
   have q2:Y*W≤200*200:=Int.mul_le_mul (by omega) (by omega) (by omega) (by omega)
   omega
 obtain⟨PP,hPP⟩:∃ P,P=Y*W:=⟨_,rfl⟩
 have wp1:IntKind.i64.wrap (Y*W)=PP:=by rw[wrap_i64_in _ (by omega) (by omega)];exact hPP.symm
 have wp2:IntKind.i64.wrap (PP+X)=PP+X:=wrap_i64_in _ (by omega) (by omega)
 obtain⟨M,hM⟩:∃ M,M=at0 al 0:=⟨_,rfl⟩
 have hln:(zs.length:Int)=n:=by have:=(reads_ints h2).1;omega
 have wq3:IntKind.i64.wrap (PP+W)=PP+W:=wrap_i64_in _ (by omega) (by omega)
 have HE:Hid (((doD (W,H,zs,X,Y,wrp,()) al 75,(0:Int),[],pl,be,()):TD)=((W,H,ersM M (PP) (PP+X) (PP+W) zs,X,Y,wrp,()),(0:Int),[],pl,be,())):=by
   show ((doG al 75 W H X Y wrp zs,(0:Int),[],pl,be,()):TD)=_
   unfold doG
   have e9:(Y+1)*W=PP+W:=by rw[Int.add_mul,Int.one_mul,← hPP]
   rw[if_neg (by decide),if_neg (by decide),if_neg (by decide),if_neg (by decide),if_neg (by decide),if_neg (by decide),if_pos (by decide),e9,← hPP,← hM]
 have QB:Hid (∀ w',Below w.heap.size w w'→Calls Tryd.prog 87 #[Sz a7 n7 c7,I O 0,I O 0] w' fun e w''=>e=.returned (I O M)∧Below w'.heap.size w' w''):=fun w' hb=>by rw[hM,← argM_zero al 0];exact sarg_any a7 n7 c7 al 0 0 w' hl7 (hr7.later hb) (by omega)
 have QG:Hid (∀ w',Below w.heap.size w w'→Calls Tryd.prog 88 #[.agg #[I O W,I O H,Sz a n c,I O X,I O Y,.bool wrp],I O (PP),I O (PP+X),I O (PP+W),I O M] w' fun e w''=>∃ a5 n5 c5,e=.returned (.agg #[I O W,I O H,Sz a5 n5 c5,I O X,I O Y,.bool wrp])∧((∃ F,Own (.sl .int) w'' w'.heap.size [Sz a5 n5 c5] (ersM M (PP) (PP+X) (PP+W) zs) F)∨(a5=a∧n5=n∧c5=c∧ersM M (PP) (PP+X) (PP+W) zs=zs))∧Below w'.heap.size w' w''):=fun w' hb=>serase_any W H X Y wrp a n c zs (PP) (PP+X) (PP+W) M w' hg (h2.later hb) (by omega)
 clear hg h2 h7 h8 hal hN hNc hl7 hr7 hlen hcl hcu hW2 bW2 zW2 hA2 hZ2 hG2 eW eH hM hln hPP hYW
 have y0:W2.cell? ⟨w.heap.size,0,none⟩=some (I O W):=bxc (HBX.out _ (Below.refl _ _)).1 rfl
 have y1:W2.cell? ⟨w.heap.size,1,none⟩=some (I O H):=bxc (HBX.out _ (Below.refl _ _)).1 rfl
 have y2:W2.cell? ⟨w.heap.size,2,none⟩=some (Sz a n c):=bxc (HBX.out _ (Below.refl _ _)).1 rfl
 have y3:W2.cell? ⟨w.heap.size,3,none⟩=some (I O X):=bxc (HBX.out _ (Below.refl _ _)).1 rfl
 have y4:W2.cell? ⟨w.heap.size,4,none⟩=some (I O Y):=bxc (HBX.out _ (Below.refl _ _)).1 rfl
 have y5:W2.cell? ⟨w.heap.size,5,none⟩=some (.bool wrp):=bxc (HBX.out _ (Below.refl _ _)).1 rfl
 have y6:W2.cell? ⟨w.heap.size,6,none⟩=some (I O st):=bxc (HBX.out _ (Below.refl _ _)).1 rfl
 have y7:W2.cell? ⟨w.heap.size,7,none⟩=some (Sz a7 n7 c7):=bxc (HBX.out _ (Below.refl _ _)).1 rfl
 have y8:W2.cell? ⟨w.heap.size,8,none⟩=some (Sz a8 n8 c8):=bxc (HBX.out _ (Below.refl _ _)).1 rfl
 have y9:W2.cell? ⟨w.heap.size,9,none⟩=some (I O be):=bxc (HBX.out _ (Below.refl _ _)).1 rfl
 have z0:W2.cell? ⟨w.heap.size+1+1,0,none⟩=some (I O W):=bxc (HBX.out _ (Below.refl _ _)).2.2 rfl
 have z1:W2.cell? ⟨w.heap.size+1+1,1,none⟩=some (I O H):=bxc (HBX.out _ (Below.refl _ _)).2.2 rfl
 have z2:W2.cell? ⟨w.heap.size+1+1,2,none⟩=some (Sz a n c):=bxc (HBX.out _ (Below.refl _ _)).2.2 rfl
 have z3:W2.cell? ⟨w.heap.size+1+1,3,none⟩=some (I O X):=bxc (HBX.out _ (Below.refl _ _)).2.2 rfl
 have z4:W2.cell? ⟨w.heap.size+1+1,4,none⟩=some (I O Y):=bxc (HBX.out _ (Below.refl _ _)).2.2 rfl
 have z5:W2.cell? ⟨w.heap.size+1+1,5,none⟩=some (.bool wrp):=bxc (HBX.out _ (Below.refl _ _)).2.2 rfl
 go_enter Tryd.func72,Tryd.ntmps72
 go_wp2_with fail
 rw[← HW.out]
 refine QA.out.mono ?_
 rintro e w3 ⟨rfl,hb3⟩
 have b3:=HB2.out.1.trans (hb3.mono HB2.out.1.size)
 have k3:=hb3
 clear y0 y1 y2 y3 y4 y5 y6 y7 y8 y9 z0 z1 z2 z3 z4 z5 hb3
 have z0:w3.cell? ⟨w.heap.size+1+1,0,none⟩=some (I O W):=bxc (HBX.out _ k3).2.2 rfl
 have z1:w3.cell? ⟨w.heap.size+1+1,1,none⟩=some (I O H):=bxc (HBX.out _ k3).2.2 rfl
 have z2:w3.cell? ⟨w.heap.size+1+1,2,none⟩=some (Sz a n c):=bxc (HBX.out _ k3).2.2 rfl
 have z3:w3.cell? ⟨w.heap.size+1+1,3,none⟩=some (I O X):=bxc (HBX.out _ k3).2.2 rfl
 have z4:w3.cell? ⟨w.heap.size+1+1,4,none⟩=some (I O Y):=bxc (HBX.out _ k3).2.2 rfl
 have z5:w3.cell? ⟨w.heap.size+1+1,5,none⟩=some (.bool wrp):=bxc (HBX.out _ k3).2.2 rfl
 have hS3:w3.drew.heap[w.heap.size+1+1]?=some (.cells #[I O W,I O H,Sz a n c,I O X,I O Y,.bool wrp] 29 (0,0))∧w3.drew.cell? ⟨w.heap.size,7,none⟩=some (Sz a7 n7 c7):=⟨(HBX.out _ k3).2.2,bxc (w:=w3) (HBX.out _ k3).1 rfl⟩
 have b3d:Below w.heap.size w w3.drew:=b3.trans ((Below.refl _ w3).drew.mono b3.size)
 have k3d:Below W2.heap.size W2 w3.drew:=k3.trans ((Below.refl _ w3).drew.mono k3.size)
 go_wp2_with fail
 clear z0 z1 z2 z3 z4 z5
 refine wp_region_held_drew (S:=fun w'=>w'.heap[w.heap.size+1+1]?=some (.cells #[I O W,I O H,Sz a n c,I O X,I O Y,.bool wrp] 29 (0,0))∧w'.cell? ⟨w.heap.size,7,none⟩=some (Sz a7 n7 c7)) (by kernel_rfl) hS3 (fun hHeld=>?_)
 refine wpAnyH_take (i:=0) (v:=.agg #[I O W,I O H,Sz a n c,I O X,I O Y,.bool wrp]) rfl (by kernel_rfl) (by kernel_rfl) (by kernel_rfl) (fun _ _ _ h=>h) (Or.inl ⟨by kernel_rfl,?_⟩) (by assumption) ?_
 · intro w9 hSw;(try dsimp only at hSw);have q:=hSw.1;have q0:w9.cell? ⟨w.heap.size+1+1,0,none⟩=some (I O W):=bxc q rfl;have q1:w9.cell? ⟨w.heap.size+1+1,1,none⟩=some (I O H):=bxc q rfl;have q2:w9.cell? ⟨w.heap.size+1+1,2,none⟩=some (Sz a n c):=bxc q rfl;have q3:w9.cell? ⟨w.heap.size+1+1,3,none⟩=some (I O X):=bxc q rfl;have q4:w9.cell? ⟨w.heap.size+1+1,4,none⟩=some (I O Y):=bxc q rfl;have q5:w9.cell? ⟨w.heap.size+1+1,5,none⟩=some (.bool wrp):=bxc q rfl;clear q;go_simp
 simp only[Act.put,lB,lC,lD,lA,lE,lF]
 refine wpAnyH_take (i:=1) (v:=.pointer (some ⟨w.heap.size+1+1,4,none⟩)) rfl (by kernel_rfl) (by kernel_rfl) (by kernel_rfl) (fun _ _ _ h=>h) (Or.inl ⟨by kernel_rfl,?_⟩) (by assumption) ?_
 · intro w9 hSw;(try dsimp only at hSw);go_simp
 simp only[Act.put,lB,lC,lD,lA,lE,lF]
 refine wpAnyH_take (i:=2) (v:=I O Y) rfl (by kernel_rfl) (by kernel_rfl) (by kernel_rfl) (fun _ _ _ h=>h) (Or.inl ⟨by kernel_rfl,?_⟩) (by assumption) ?_
 · intro w9 hSw;(try dsimp only at hSw);have q:=hSw.1;have q0:w9.cell? ⟨w.heap.size+1+1,0,none⟩=some (I O W):=bxc q rfl;have q1:w9.cell? ⟨w.heap.size+1+1,1,none⟩=some (I O H):=bxc q rfl;have q2:w9.cell? ⟨w.heap.size+1+1,2,none⟩=some (Sz a n c):=bxc q rfl;have q3:w9.cell? ⟨w.heap.size+1+1,3,none⟩=some (I O X):=bxc q rfl;have q4:w9.cell? ⟨w.heap.size+1+1,4,none⟩=some (I O Y):=bxc q rfl;have q5:w9.cell? ⟨w.heap.size+1+1,5,none⟩=some (.bool wrp):=bxc q rfl;clear q;go_simp
 simp only[Act.put,lB,lC,lD,lA,lE,lF]
 refine wpAnyH_take (i:=3) (v:=.pointer (some ⟨w.heap.size+1+1,0,none⟩)) rfl (by kernel_rfl) (by kernel_rfl) (by kernel_rfl) (fun _ _ _ h=>h) (Or.inl ⟨by kernel_rfl,?_⟩) (by assumption) ?_
 · intro w9 hSw;(try dsimp only at hSw);go_simp
 simp only[Act.put,lB,lC,lD,lA,lE,lF]
 refine wpAnyH_take (i:=4) (v:=I O W) rfl (by kernel_rfl) (by kernel_rfl) (by kernel_rfl) (fun _ _ _ h=>h) (Or.inl ⟨by kernel_rfl,?_⟩) (by assumption) ?_
 · intro w9 hSw;(try dsimp only at hSw);have q:=hSw.1;have q0:w9.cell? ⟨w.heap.size+1+1,0,none⟩=some (I O W):=bxc q rfl;have q1:w9.cell? ⟨w.heap.size+1+1,1,none⟩=some (I O H):=bxc q rfl;have q2:w9.cell? ⟨w.heap.size+1+1,2,none⟩=some (Sz a n c):=bxc q rfl;have q3:w9.cell? ⟨w.heap.size+1+1,3,none⟩=some (I O X):=bxc q rfl;have q4:w9.cell? ⟨w.heap.size+1+1,4,none⟩=some (I O Y):=bxc q rfl;have q5:w9.cell? ⟨w.heap.size+1+1,5,none⟩=some (.bool wrp):=bxc q rfl;clear q;go_simp
 simp only[Act.put,lB,lC,lD,lA,lE,lF]
 refine wpAnyH_take (i:=5) (v:=I O PP) rfl (by kernel_rfl) (by kernel_rfl) (by kernel_rfl) (fun _ _ _ h=>h) (Or.inl ⟨by kernel_rfl,?_⟩) (by assumption) ?_
 · intro w9 hSw;(try dsimp only at hSw);go_simp
 simp only[Act.put,lB,lC,lD,lA,lE,lF]
 refine wpAnyH_take (i:=6) (v:=I O (PP+X)) rfl (by kernel_rfl) (by kernel_rfl) (by kernel_rfl) (fun _ _ _ h=>h) (Or.inl ⟨by kernel_rfl,?_⟩) (by assumption) ?_
 · intro w9 hSw;(try dsimp only at hSw);go_simp
 simp only[Act.put,lB,lC,lD,lA,lE,lF]
 refine wpAnyH_take (i:=7) (v:=.pointer (some ⟨w.heap.size+1+1,4,none⟩)) rfl (by kernel_rfl) (by kernel_rfl) (by kernel_rfl) (fun _ _ _ h=>h) (Or.inl ⟨by kernel_rfl,?_⟩) (by assumption) ?_
 · intro w9 hSw;(try dsimp only at hSw);go_simp
 simp only[Act.put,lB,lC,lD,lA,lE,lF]
 refine wpAnyH_take (i:=8) (v:=I O Y) rfl (by kernel_rfl) (by kernel_rfl) (by kernel_rfl) (fun _ _ _ h=>h) (Or.inl ⟨by kernel_rfl,?_⟩) (by assumption) ?_
 · intro w9 hSw;(try dsimp only at hSw);have q:=hSw.1;have q0:w9.cell? ⟨w.heap.size+1+1,0,none⟩=some (I O W):=bxc q rfl;have q1:w9.cell? ⟨w.heap.size+1+1,1,none⟩=some (I O H):=bxc q rfl;have q2:w9.cell? ⟨w.heap.size+1+1,2,none⟩=some (Sz a n c):=bxc q rfl;have q3:w9.cell? ⟨w.heap.size+1+1,3,none⟩=some (I O X):=bxc q rfl;have q4:w9.cell? ⟨w.heap.size+1+1,4,none⟩=some (I O Y):=bxc q rfl;have q5:w9.cell? ⟨w.heap.size+1+1,5,none⟩=some (.bool wrp):=bxc q rfl;clear q;go_simp
 simp only[Act.put,lB,lC,lD,lA,lE,lF]
 refine wpAnyH_take (i:=9) (v:=.pointer (some ⟨w.heap.size+1+1,0,none⟩)) rfl (by kernel_rfl) (by kernel_rfl) (by kernel_rfl) (fun _ _ _ h=>h) (Or.inl ⟨by kernel_rfl,?_⟩) (by assumption) ?_
 · intro w9 hSw;(try dsimp only at hSw);go_simp
 simp only[Act.put,lB,lC,lD,lA,lE,lF]
 refine wpAnyH_take (i:=10) (v:=I O W) rfl (by kernel_rfl) (by kernel_rfl) (by kernel_rfl) (fun _ _ _ h=>h) (Or.inl ⟨by kernel_rfl,?_⟩) (by assumption) ?_
 · intro w9 hSw;(try dsimp only at hSw);have q:=hSw.1;have q0:w9.cell? ⟨w.heap.size+1+1,0,none⟩=some (I O W):=bxc q rfl;have q1:w9.cell? ⟨w.heap.size+1+1,1,none⟩=some (I O H):=bxc q rfl;have q2:w9.cell? ⟨w.heap.size+1+1,2,none⟩=some (Sz a n c):=bxc q rfl;have q3:w9.cell? ⟨w.heap.size+1+1,3,none⟩=some (I O X):=bxc q rfl;have q4:w9.cell? ⟨w.heap.size+1+1,4,none⟩=some (I O Y):=bxc q rfl;have q5:w9.cell? ⟨w.heap.size+1+1,5,none⟩=some (.bool wrp):=bxc q rfl;clear q;go_simp
 simp only[Act.put,lB,lC,lD,lA,lE,lF]
 refine wpAnyH_take (i:=11) (v:=I O PP) rfl (by kernel_rfl) (by kernel_rfl) (by kernel_rfl) (fun _ _ _ h=>h) (Or.inl ⟨by kernel_rfl,?_⟩) (by assumption) ?_
 · intro w9 hSw;(try dsimp only at hSw);go_simp
 simp only[Act.put,lB,lC,lD,lA,lE,lF]
 refine wpAnyH_take (i:=12) (v:=.pointer (some ⟨w.heap.size+1+1,0,none⟩)) rfl (by kernel_rfl) (by kernel_rfl) (by kernel_rfl) (fun _ _ _ h=>h) (Or.inl ⟨by kernel_rfl,?_⟩) (by assumption) ?_
 · intro w9 hSw;(try dsimp only at hSw);go_simp
 simp only[Act.put,lB,lC,lD,lA,lE,lF]
 refine wpAnyH_take (i:=13) (v:=I O W) rfl (by kernel_rfl) (by kernel_rfl) (by kernel_rfl) (fun _ _ _ h=>h) (Or.inl ⟨by kernel_rfl,?_⟩) (by assumption) ?_
 · intro w9 hSw;(try dsimp only at hSw);have q:=hSw.1;have q0:w9.cell? ⟨w.heap.size+1+1,0,none⟩=some (I O W):=bxc q rfl;have q1:w9.cell? ⟨w.heap.size+1+1,1,none⟩=some (I O H):=bxc q rfl;have q2:w9.cell? ⟨w.heap.size+1+1,2,none⟩=some (Sz a n c):=bxc q rfl;have q3:w9.cell? ⟨w.heap.size+1+1,3,none⟩=some (I O X):=bxc q rfl;have q4:w9.cell? ⟨w.heap.size+1+1,4,none⟩=some (I O Y):=bxc q rfl;have q5:w9.cell? ⟨w.heap.size+1+1,5,none⟩=some (.bool wrp):=bxc q rfl;clear q;go_simp
 simp only[Act.put,lB,lC,lD,lA,lE,lF]
 refine wpAnyH_take (i:=14) (v:=I O (PP+W)) rfl (by kernel_rfl) (by kernel_rfl) (by kernel_rfl) (fun _ _ _ h=>h) (Or.inl ⟨by kernel_rfl,?_⟩) (by assumption) ?_
 · intro w9 hSw;(try dsimp only at hSw);go_simp
 simp only[Act.put,lB,lC,lD,lA,lE,lF]
 refine wpAnyH_take (i:=15) (v:=.pointer (some ⟨w.heap.size,7,none⟩)) rfl (by kernel_rfl) (by kernel_rfl) (by kernel_rfl) (fun _ _ _ h=>h) (Or.inl ⟨by kernel_rfl,?_⟩) (by assumption) ?_
 · intro w9 hSw;(try dsimp only at hSw);go_simp
 simp only[Act.put,lB,lC,lD,lA,lE,lF]
 refine wpAnyH_take (i:=16) (v:=Sz a7 n7 c7) rfl (by kernel_rfl) (by kernel_rfl) (by kernel_rfl) (fun _ _ _ h=>h) (Or.inl ⟨by kernel_rfl,?_⟩) (by assumption) ?_
 · intro w9 hSw;(try dsimp only at hSw);have q7:=hSw.2;go_simp
 simp only[Act.put,lB,lC,lD,lA,lE,lF]
 refine wpAnyH_ready (rs:=[17]) (by kernel_rfl) (by simp) ?_
 refine AllReadyH.cons rfl (fun K hK=>?_) AllReadyH.nil
 go_simp
 refine(QB.out _ b3d).mono ?_
 rintro e w5 ⟨rfl,hbw5⟩
 have bw5:=b3d.trans (hbw5.mono b3d.size)
 have kw5:=k3d.trans (hbw5.mono k3d.size)
 have hSw5:w5.heap[w.heap.size+1+1]?=some (.cells #[I O W,I O H,Sz a n c,I O X,I O Y,.bool wrp] 29 (0,0))∧w5.cell? ⟨w.heap.size,7,none⟩=some (Sz a7 n7 c7):=⟨(HBX.out _ kw5).2.2,bxc (HBX.out _ kw5).1 rfl⟩
 go_wp2_with fail
 refine hK.out _ _ hSw5 (fun hHeld17=>?_)
 clear hK
 refine wpAnyH_ready (rs:=[18]) (by kernel_rfl) (by simp) ?_
 refine AllReadyH.cons rfl (fun K hK=>?_) AllReadyH.nil
 go_simp
 refine(QG.out _ bw5).mono ?_
 rintro e w6 ⟨a5,n5,c5,rfl,hown,hbw6⟩
 have bw6:=bw5.trans (hbw6.mono bw5.size)
 have kw6:=kw5.trans (hbw6.mono kw5.size)
 have hSw6:w6.heap[w.heap.size+1+1]?=some (.cells #[I O W,I O H,Sz a n c,I O X,I O Y,.bool wrp] 29 (0,0))∧w6.cell? ⟨w.heap.size,7,none⟩=some (Sz a7 n7 c7):=⟨(HBX.out _ kw6).2.2,bxc (HBX.out _ kw6).1 rfl⟩
 go_wp2_with fail
 refine hK.out _ _ hSw6 (fun hHeld18=>?_)
 clear hK
 refine wpAnyH_take (i:=19) (v:=.pointer (some ⟨w.heap.size,0,none⟩)) rfl (by kernel_rfl) (by kernel_rfl) (by kernel_rfl) (fun _ _ _ h=>h) (Or.inl ⟨by kernel_rfl,?_⟩) (by assumption) ?_
 · intro w9 hSw;(try dsimp only at hSw);go_simp
 simp only[Act.put,lB,lC,lD,lA,lE,lF]
 have ho:=hown
 have hsz:=kw5.size
 have hsz2:=HB2.out.2
 have kE:=kw6
 have bE:=bw6
 have i4:=HBX.out _ kE
 obtain⟨VV,hVV⟩:∃ U,U=w6.setCells w.heap.size 0 (#[I O W,I O H,Sz a5 n5 c5,I O X,I O Y,.bool wrp]:Array Value).toList:=⟨_,rfl⟩
 have hVb:VV.heap[w.heap.size]?=some (.cells #[I O W,I O H,Sz a5 n5 c5,I O X,I O Y,.bool wrp,I O st,Sz a7 n7 c7,Sz a8 n8 c8,I O be] 31 (0,0)):=by rw[hVV];exact six_in i4.1
 have hVg:VV.heap[w.heap.size+1+1]?=some (.cells #[I O W,I O H,Sz a n c,I O X,I O Y,.bool wrp] 29 (0,0)):=by rw[hVV,setCells_other (by omega)];exact i4.2.2
 have hth:w6.there w.heap.size 0 6:=six_there i4.1
 have hVr:((VV.setCell ⟨w.heap.size,6,none⟩ (I O 0)).setCell ⟨w.heap.size,7,none⟩ (Sz none 0 0)).heap[w.heap.size+1]?=some (.cells #[I O 0,I O 0,Sz none 0 0,I O 0,I O 0,.bool false,I O 0,Sz none 0 0,Sz none 0 0,I O 0] 31 (0,0)):=by rw[box_other _ (by omega),box_other _ (by omega),hVV,setCells_other (by omega)];exact i4.2.1
 have q0:VV.cell? ⟨w.heap.size,0,none⟩=some (I O W):=bxc hVb rfl
 have q1:VV.cell? ⟨w.heap.size,1,none⟩=some (I O H):=bxc hVb rfl
 have q2:VV.cell? ⟨w.heap.size,2,none⟩=some (Sz a5 n5 c5):=bxc hVb rfl
 have q3:VV.cell? ⟨w.heap.size,3,none⟩=some (I O X):=bxc hVb rfl
 have q4:VV.cell? ⟨w.heap.size,4,none⟩=some (I O Y):=bxc hVb rfl
 have q5:VV.cell? ⟨w.heap.size,5,none⟩=some (.bool wrp):=bxc hVb rfl
 have q6:VV.cell? ⟨w.heap.size,6,none⟩=some (I O st):=bxc hVb rfl
 have q7:VV.cell? ⟨w.heap.size,7,none⟩=some (Sz a7 n7 c7):=bxc hVb rfl
 have q8:VV.cell? ⟨w.heap.size,8,none⟩=some (Sz a8 n8 c8):=bxc hVb rfl
 have q9:VV.cell? ⟨w.heap.size,9,none⟩=some (I O be):=bxc hVb rfl
 have f6:VV.frozen? ⟨w.heap.size,6,none⟩=false:=box_frozen hVb
 have f7:VV.frozen? ⟨w.heap.size,7,none⟩=false:=box_frozen hVb
 have HLD:(loadVar 31 ⟨w.heap.size+1,0,none⟩).run Tryd.prog (((VV.setCell ⟨w.heap.size,6,none⟩ (I O 0)).setCell ⟨w.heap.size,7,none⟩ (Sz none 0 0)).setRow (w.heap.size+1) #[I O W,I O H,Sz a5 n5 c5,I O X,I O Y,.bool wrp,I O 0,Sz none 0 0,Sz a8 n8 c8,I O be])=.ok (.agg #[I O W,I O H,Sz a5 n5 c5,I O X,I O Y,.bool wrp,I O 0,Sz none 0 0,Sz a8 n8 c8,I O be]) (((VV.setCell ⟨w.heap.size,6,none⟩ (I O 0)).setCell ⟨w.heap.size,7,none⟩ (Sz none 0 0)).setRow (w.heap.size+1) #[I O W,I O H,Sz a5 n5 c5,I O X,I O Y,.bool wrp,I O 0,Sz none 0 0,Sz a8 n8 c8,I O be]):=run_loadVar_row _ _ _ _ _ _ _ (setRow_heap _ _ _ _ _ _ hVr) Tryd.underlying31 rfl (by kernel_rfl)
 have bF:Below w.heap.size w (((VV.setCell ⟨w.heap.size,6,none⟩ (I O 0)).setCell ⟨w.heap.size,7,none⟩ (Sz none 0 0)).setRow (w.heap.size+1) #[I O W,I O H,Sz a5 n5 c5,I O X,I O Y,.bool wrp,I O 0,Sz none 0 0,Sz a8 n8 c8,I O be]):=
   below_setRow (Below.setCell (p:=⟨w.heap.size,7,none⟩) (Below.setCell (p:=⟨w.heap.size,6,none⟩) (by rw[hVV];exact below_setCells _ _ _ bE (Nat.le_refl _)) (Nat.le_refl _) _) (Nat.le_refl _) _) (Nat.le_add_right _ 1) _
 have rN:∀ w'':World,(∀ g,w.heap.size≤g→g < (((VV.setCell ⟨w.heap.size,6,none⟩ (I O 0)).setCell ⟨w.heap.size,7,none⟩ (Sz none 0 0)).setRow (w.heap.size+1) #[I O W,I O H,Sz a5 n5 c5,I O X,I O Y,.bool wrp,I O 0,Sz none 0 0,Sz a8 n8 c8,I O be]).heap.size→w''.heap[g]?=(((VV.setCell ⟨w.heap.size,6,none⟩ (I O 0)).setCell ⟨w.heap.size,7,none⟩ (Sz none 0 0)).setRow (w.heap.size+1) #[I O W,I O H,Sz a5 n5 c5,I O X,I O Y,.bool wrp,I O 0,Sz none 0 0,Sz a8 n8 c8,I O be]).heap[g]?)→Reads (.sl .int) w'' [Sz a n c] zs→Reads (.sl .int) w'' [Sz a5 n5 c5] (ersM M (PP) (PP+X) (PP+W) zs):=by
   intro w'' hk r2
   rcases ho with ⟨F,ho⟩ | ⟨e1,e2,e3,e4⟩
   · rw[hVV] at hk
     exact own_read (own_keepAll ho (by omega) (by omega) _ _ _ _ _) (by omega) hk
   · subst e1;subst e2;subst e3
     rw[e4]
     exact r2
 have HF:Hid (_∧_):=⟨bF,rN⟩
 have HVV:Hid (VV=_):=hVV
 have HTH:Hid (w6.there w.heap.size 0 6):=hth
 have hSV:VV.heap[w.heap.size+1+1]?=some (.cells #[I O W,I O H,Sz a n c,I O X,I O Y,.bool wrp] 29 (0,0))∧VV.cell? ⟨w.heap.size,7,none⟩=some (Sz a7 n7 c7):=⟨hVg,q7⟩
 clear hVV hVb hth i4 bF rN ho kE bE hVg
 refine wpAnyH_ready (rs:=[20]) (by kernel_rfl) (by simp) ?_
 refine AllReadyH.cons rfl (fun K hK=>?_) AllReadyH.nil
 rw[if_pos (by simp[Region.wanted])]
 refine wp_store_mid _ _ _ rfl w.heap.size 0 #[I O W,I O H,Sz a5 n5 c5,I O X,I O Y,.bool wrp] (by rfl) (by rfl) HTH.out (by kernel_rfl) (by simp[Value.oneCell']) ?_
 rw[← HVV.out]
 refine hK.out _ _ hSV (fun hHeldE=>?_)
 clear hK
 refine wpAnyH_done (by kernel_rfl) ?_ _
 clear hHeld hHeld17 hHeld18 hSw5 hSw6 hS3 bw5 kw5 bw6 kw6 b3d k3d b3 k3 hown hbw5 hbw6
 clear hSV hHeldE
 go_wp2_with (refine wpList_store_row rfl _ _ _ rfl _ _ rfl rfl _ _ hVr (by kernel_rfl) rfl (by simp[Value.oneCell']) ?_)
 (try simp only[Exit.inBlock,Exit.then])
 refine bodyPost_ret (by simp[results,Tryd.results72,asAddr,Act.put,HLD];try rfl) rfl ?_
 refine⟨[I O W,I O H,Sz a5 n5 c5,I O X,I O Y,.bool wrp,I O 0,Sz none 0 0,Sz a8 n8 c8,I O be],rfl,?_,HF.out.1⟩
 rw[HE.out]
 intro w'' hk r2 r7 r8
 exact reads_Vt (d:=(((W,H,ersM M (PP) (PP+X) (PP+W) zs,X,Y,wrp,()),(0:Int),[],pl,be,()):TD)) (HF.out.2 w'' hk r2) (nil_readI _) r8
end Go.Proofs.YthodinpflcbklaaDoor
namespace Go.Proofs.YthodinpflcbklaaDoor
open Go.RowKit
structure TermD (w:World) (B t p g n:Nat) (W H:Int) (d:TD) (av pv:Value):Prop where
 at':TermAt w B t p g n W H d.1.2.2.2.1 d.1.2.2.2.2.1 d.1.2.2.2.2.2.1 (up (-32) d.1.2.2.1) d.2.1 av d.2.2.1 pv d.2.2.2.1 d.2.2.2.2.1 (fvOf t d.2.1)
 w1:d.1.1=W
 h1:d.1.2.1=H
 len:d.1.2.2.1.length=n
theorem good_len{d:TD}(h:goodT d):(d.1.2.2.1.length:Int)=d.1.1*d.1.2.1:=by
 have h1:gokB d.1=true:=(vt_parts h.1).1
 unfold gokB at h1
 simp only[Bool.and_eq_true,decide_eq_true_eq] at h1
 exact h1.1.1.2
theorem byte_dim(d:TD)(b:Int):(byteT d b).1.1=d.1.1∧(byteT d b).1.2.1=d.1.2.1:=by
 have hga:∀ pl,(gaD d.1 pl b).1=d.1.1∧(gaD d.1 pl b).2.1=d.1.2.1:=fun pl=>by
   unfold gaD
   split
   · exact putN_1 _ _
   · exact⟨rfl,rfl⟩
 have hdo:(doD d.1 d.2.2.1 b).1=d.1.1∧(doD d.1 d.2.2.1 b).2.1=d.1.2.1:=by
   unfold doD doG
   repeat' split
   all_goals exact⟨rfl,rfl⟩
 unfold byteT
 split
 · unfold plainT
   split
   · exact hga _
   repeat' split
   all_goals first | exact⟨rfl,rfl⟩ | exact putN_1 _ _
 · split
   · exact⟨rfl,rfl⟩
   · unfold csiT
     split
     · exact⟨rfl,rfl⟩
     · split
       · exact⟨rfl,rfl⟩
       · exact hdo
theorem byte_len{d:TD}{b:Int}{n:Nat}(h:goodT d)(hb:0≤b∧b≤255)(hl:d.1.2.2.1.length=n):(byteT d b).1.2.2.1.length=n:=by
 have h1:=good_len h
 have h2:=good_len (byte_good h hb)
 obtain⟨e1,e2⟩:=byte_dim d b
 rw[e1,e2] at h2
 omega
def takeF(st:Int):Nat:=if st=1 then 74 else if st=2 then 75 else 76
theorem take_any(B t p g n:Nat)(W H:Int)(d:TD)(av pv:Value)(b:Int)(w:World)(h:TermD w B t p g n W H d av pv)(hd:goodT d)(hb:0≤b∧b≤255)(hT:∀ w',Kp B w w'→Tabs w'):
   Calls Tryd.prog (takeF d.2.1) #[.pointer (some ⟨t,0,none⟩),I .u8 b] w fun e w'=>e=.returned (.tuple #[])∧(∃ av' pv',TermD w' B t p g n W H (byteT d b) av' pv')∧Kp B w w':=by
 have hdim:=byte_dim d b
 have hlen:=byte_len hd hb h.len
 obtain⟨ha,hW,hH,hl⟩:=h
 subst hW
 subst hH
 obtain⟨hv,hp⟩:=hd
 obtain⟨h1,h2,h3,h4,h5⟩:=vt_parts hv
 obtain⟨⟨W,H,zs,X,Y,wr,u⟩,st,al,pl,be,u2⟩:=d
 have h1:gokB (W,H,zs,X,Y,wr,())=true:=h1
 have h2:statB st=true:=h2
 have h3:argsB al st=true:=h3
 have h4:partB pl st=true:=h4
 have h5:bellB be=true:=h5
 have hp:∀ x ∈ pl,0≤x∧x≤255:=hp
 have ha:TermAt w B t p g n W H X Y wr (up (-32) zs) st av al pv pl be (fvOf t st):=ha
 have hl:zs.length=n:=hl
 have hsb:0≤st∧st≤2:=stat_bd h2
 have hbe:0≤be∧be≤1000000:=by unfold bellB at h5;simpa using h5
 have key:∀ (f:Nat) (D:TD),takeF st=f→byteT (((W,H,zs,X,Y,wr,u),st,al,pl,be,u2):TD) b=D →
     (Calls Tryd.prog f #[.pointer (some ⟨t,0,none⟩),I .u8 b] w fun e w'=>e=.returned (.tuple #[])∧(∃ av' pv',TermAt w' B t p g n W H D.1.2.2.2.1 D.1.2.2.2.2.1 D.1.2.2.2.2.2.1 (up (-32) D.1.2.2.1) D.2.1 av' D.2.2.1 pv' D.2.2.2.1 D.2.2.2.2.1 (fvOf t D.2.1))∧Kp B w w') →
     Calls Tryd.prog (takeF st) #[.pointer (some ⟨t,0,none⟩),I .u8 b] w fun e w'=>e=.returned (.tuple #[])∧(∃ av' pv',TermD w' B t p g n W H (byteT (((W,H,zs,X,Y,wr,u),st,al,pl,be,u2):TD) b) av' pv')∧Kp B w w':=by
   intro f D hf hD hC
   rw[hf]
   refine hC.mono ?_
   rintro e w' ⟨he,⟨av',pv',h9⟩,hk⟩
   refine⟨he,⟨av',pv',?_⟩,hk⟩
   rw[hD] at hdim hlen ⊢
   exact⟨h9,hdim.1,hdim.2,hlen⟩
 by_cases s0:st=0
 · subst s0
   have eb:byteT (((W,H,zs,X,Y,wr,u),(0:Int),al,pl,be,u2):TD) b=plainT ((W,H,zs,X,Y,wr,u),(0:Int),al,pl,be,u2) b:=by unfold byteT;rw[if_pos rfl]
   have ef:takeF 0=76:=rfl
   obtain⟨W',H',rfl,rfl,g1,g2,g3,g4,g5,hlz,hcl,hcu⟩:=gok_parts h1
   obtain⟨c1,c2,c3,c4,c5⟩:=cursB_iff.1 hcu
   by_cases q1:128≤b
   · refine key _ _ ef (eb.trans (by unfold plainT;rw[if_pos q1])) ?_
     exact(plain_hi B t p g n W' H' X Y wr zs 0 av al pv pl be _ b w ha hl h1 ⟨q1,hb.2⟩ hp (Nat.le_trans (part_len3 hp (part_or h4)) (by omega)) hT).mono fun e w' ⟨r1,⟨pv',r2⟩,r3⟩=>⟨r1,⟨av,pv',r2⟩,r3⟩
   by_cases q2:b=7
   · subst q2
     refine key _ _ ef (eb.trans (by unfold plainT;rw[if_neg (by omega),if_pos rfl])) ?_
     exact(plain_bell B t p g n W' H' X Y wr _ 0 av al pv pl be _ w ha hbe).mono fun e w' ⟨r1,r2,r3⟩=>⟨r1,⟨av,_,r2⟩,r3⟩
   by_cases q3:b=8
   · subst q3
     refine key _ _ ef (eb.trans (by unfold plainT;rw[if_neg (by omega),if_neg (by omega),if_pos rfl])) ?_
     exact(plain_back B t p g n W' H' X Y wr _ 0 av al pv pl be _ w ha (by omega)).mono fun e w' ⟨r1,r2,r3⟩=>⟨r1,⟨av,_,r2⟩,r3⟩
   by_cases q4:b=10
   · subst q4
     refine key _ _ ef (eb.trans (by unfold plainT;rw[if_neg (by omega),if_neg (by omega),if_neg (by omega),if_pos rfl])) ?_
     exact(plain_downG B t p g n W' H' X Y wr zs 0 av al pv pl be _ w ha hl h1).mono fun e w' ⟨r1,r2,r3⟩=>⟨r1,⟨av,_,r2⟩,r3⟩
   by_cases q5:b=13
   · subst q5
     refine key _ _ ef (eb.trans (by unfold plainT;rw[if_neg (by omega),if_neg (by omega),if_neg (by omega),if_neg (by omega),if_pos rfl])) ?_
     exact(plain_ret B t p g n W' H' X Y wr _ 0 av al pv pl be _ w ha (by omega)).mono fun e w' ⟨r1,r2,r3⟩=>⟨r1,⟨av,_,r2⟩,r3⟩
   by_cases q6:b=27
   · subst q6
     refine key _ _ ef (eb.trans (by unfold plainT;rw[if_neg (by omega),if_neg (by omega),if_neg (by omega),if_neg (by omega),if_neg (by omega),if_pos rfl])) ?_
     exact(plain_esc B t p g n W' H' X Y wr _ 0 av al pv pl be _ w ha).mono fun e w' ⟨r1,r2,r3⟩=>⟨r1,⟨av,_,r2⟩,r3⟩
   refine key _ _ ef (eb.trans (by unfold plainT;rw[if_neg q1,if_neg q2,if_neg q3,if_neg q4,if_neg q5,if_neg q6])) ?_
   exact(plain_put B t p g n W' H' X Y wr zs 0 av al pv pl be _ b w ha hl h1 ⟨hb.1,by omega,q2,q3,q4,q5,q6⟩).mono fun e w' ⟨r1,r2,r3⟩=>⟨r1,⟨av,_,r2⟩,r3⟩
 · by_cases s1:st=1
   · subst s1
     refine key _ _ rfl (by unfold byteT;rw[if_neg (show ¬ (1:Int)=0 by decide),if_pos rfl]) ?_
     exact(escaped_any B t p g n W H X Y wr _ 1 av al pv pl be _ b w ha).mono fun e w' ⟨r1,r2,r3⟩=>⟨r1,⟨av,pv,r2⟩,r3⟩
   · have s2:st=2:=by omega
     subst s2
     have eb:byteT (((W,H,zs,X,Y,wr,u),(2:Int),al,pl,be,u2):TD) b=csiT ((W,H,zs,X,Y,wr,u),(2:Int),al,pl,be,u2) b:=by unfold byteT;rw[if_neg (show ¬ (2:Int)=0 by decide),if_neg (show ¬ (2:Int)=1 by decide)]
     have ef:takeF 2=75:=rfl
     by_cases q1:48≤b∧b≤57
     · refine key _ _ ef (eb.trans (by unfold csiT;rw[if_pos q1])) ?_
       exact(seq_digit B t p g n W H X Y wr _ 2 av al pv pl be _ b q1 w ha (args_len h3) (args_bd h3)).mono fun e w' ⟨r1,⟨av',r2⟩,r3⟩=>⟨r1,⟨av',pv,r2⟩,r3⟩
     by_cases q2:b=59
     · subst q2
       refine key _ _ ef (eb.trans (by unfold csiT;rw[if_neg q1,if_pos rfl])) ?_
       exact(seq_semi B t p g n W H X Y wr _ 2 av al pv pl be _ w ha (args_len h3)).mono fun e w' ⟨r1,⟨av',r2⟩,r3⟩=>⟨r1,⟨av',pv,r2⟩,r3⟩
     refine key _ _ ef (eb.trans (by unfold csiT;rw[if_neg q1,if_neg q2])) ?_
     exact(seq_endG B t p g n W H X Y wr zs 2 av al pv pl be _ b ⟨q1,q2⟩ w ha hl h1 (args_bd h3)).mono fun e w' ⟨r1,r2,r3⟩=>⟨r1,⟨_,pv,r2⟩,r3⟩
end Go.Proofs.YthodinpflcbklaaDoor
namespace Go.Proofs.YthodinpflcbklaaDoor
open Go.RowKit
def Src(w:World)(x:Value)(m:Nat)(news:List Value):Prop:=
 (x=Sz none 0 0∧m=0∧news=[])∨∃ ad c,x=Sz (some ad) m c∧∀ (j:Nat) (u:Value),news[j]?=some u→w.cell? (ad.add j)=some u
theorem wp_append_src{P:Program}{w:World}{o:Oper}{a:Act}{K:Act→World→Prop}{Q:Exit→Act→World→Prop}(s x:Operand)(t:TypeId)
   (ho:o.op=.call { callee:=.builtin .append,args:=#[s,x],argTypes:=#[t,t] })
   (base:Nat) (e:TypeId) (i:TypeInfo) (z:Value) (size bytes:Nat) (ht:P.underlying t=some (.slice e)) (hi:P.info? e=some i) (hz:i.zero=some z)
   (hsize:i.size=size) (hby:i.bytes=bytes) (hzs:z.cells.size=size) (hsz:0 < size)
   (v:Value) (n:Nat) (xs:List Value) (hs:a.eval s=v) (hown:w.ownsRow base e size v n xs)
   (xv:Value) (m:Nat) (news:List Value) (hx:a.eval x=xv) (hl:news.length=m*size) (hsrc:Src w xv m news) (h1:∀ u ∈ news,u.oneCell'=true)
   (h63:n+m≤maxLen) (hbytes:(n+m)*bytes≤140737488355328) (hbase:base≤w.heap.size)
   (h:∀ v' w',w'.ownsRow base e size v' (n+m) (xs++news)→w.grownBy w' v.ownBlock→K (a.put o.dst v') w'):o.wp P a w K Q:=by
 rcases hsrc with ⟨h2,rfl,rfl⟩ | ⟨ad,c,h2,h3⟩
 · have hrun:=run_append_owned_none (P:=P) (w:=w) base t o.type e i size ht hi v n xs hown
   unfold Oper.wp execOp
   simp only[ho,resolve,invoke,builtin,Sem.run_bind,Sem.run_pure,Result.andThen_ok,List.map_toArray,List.map_cons,List.map_nil,hs,hx,h2,hrun]
   exact h v w (by simpa using hown) (World.grownBy.refl _ _)
 · exact wp_append_own w s x t ho base e i z size bytes ht hi hz hsize hby hzs hsz v n xs hs hown ad m c news (hx.trans h2) hl h3 h1 h63 hbytes hbase fun v' w' k1 k2 _=>h v' w' k1 k2
theorem step_append_src{P:Program}{w:World}{ops:Array Oper}{o:Oper}{a:Act}{K:Act→World→Prop}{Q:Exit→Act→World→Prop}{E:Prop}(hgd:o.guard=none)(s x:Operand)(t:TypeId)
   (ho:o.op=.call { callee:=.builtin .append,args:=#[s,x],argTypes:=#[t,t] })
   (base:Nat) (e:TypeId) (i:TypeInfo) (z:Value) (size bytes:Nat) (ht:P.underlying t=some (.slice e)) (hi:P.info? e=some i) (hz:i.zero=some z)
   (hsize:i.size=size) (hby:i.bytes=bytes) (hzs:z.cells.size=size) (hsz:0 < size)
   (v:Value) (n:Nat) (xs:List Value) (hs:a.eval s=v) (hown:w.ownsRow base e size v n xs)
   (xv:Value) (m:Nat) (news:List Value) (hx:a.eval x=xv) (hl:news.length=m*size) (hsrc:Src w xv m news) (h1:∀ u ∈ news,u.oneCell'=true)
   (h63:n+m≤maxLen) (hbytes:(n+m)*bytes≤140737488355328) (hbase:base≤w.heap.size)
   (h:∀ v' w',w'.ownsRow base e size v' (n+m) (xs++news)→w.grownBy w' v.ownBlock→K (a.put o.dst v') w') :
   if Region.wanted o (yielded ops a.tmps)=true then Oper.wp P o a w K Q else E:=by
 have hw:Region.wanted o (yielded ops a.tmps)=true:=by simp[Region.wanted,hgd]
 rw[if_pos hw]
 exact wp_append_src s x t ho base e i z size bytes ht hi hz hsize hby hzs hsz v n xs hs hown xv m news hx hl hsrc h1 h63 hbytes hbase h
theorem src_later{w w':World}{x:Value}{m:Nat}{news:List Value}(h:Src w x m news)(hb:Below w.heap.size w w'):Src w' x m news:=by
 rcases h with h | ⟨ad,c,h1,h2⟩
 · exact .inl h
 · refine .inr ⟨ad,c,h1,fun j u hu=>?_⟩
   have h3:=h2 j u hu
   exact(hb.cell (World.block_lt_of_cell? w _ h3)).trans h3
theorem own_lower{w:World}{B B' n:Nat}{e:TypeId}{size:Nat}{v:Value}{xs:List Value}(h:w.ownsRow B e size v n xs)(hb:B'≤B):w.ownsRow B' e size v n xs:=by
 refine⟨h.1,?_⟩
 rcases h.2 with h1 | ⟨g,cap,cur,hv,hg,r⟩
 · exact .inl h1
 · exact .inr ⟨g,cap,cur,hv,Nat.le_trans hb hg,r⟩
end Go.Proofs.YthodinpflcbklaaDoor
