/-
  The walk of the law FnExactVtFeed over the contracts of its two functions. By program (lawgen3.py).
-/
import Derived.Test.YthodinpflcbklaaDoorM4VB
import Derived.Test.YthodinpflcbklaaDoorM1VB
open Go.Value renaming int → I,slice → Sz
open Go.IntKind renaming i64 → O
open List renaming setIfInBounds_toArray → lA,getElem_toArray → lB,getElem_cons_succ → lC,getElem_cons_zero → lD,set_cons_zero → lE,set_cons_succ → lF
set_option linter.unusedVariables false
set_option linter.unusedSimpArgs false
set_option maxHeartbeats 40000000
namespace Go.Proofs.YthodinpflcbklaaDoor
open Go.RowKit
set_option maxRecDepth 100000 in
theorem vtFeed_over (cs0:List Value) (d0:shVt.D) (v1:Value) (d1:List Int) (D0:shVt.D) (w:World) (hr0:Reads shVt w cs0 d0) (hr1:Reads (.sl .u8) w [v1] d1) (hD0:shVt.sz D0≤1048576) (hC0:shVt.cntV D0≤1000000000)
   (hcd0:shVt.sz d0≤1048576→shVt.cntV d0≤1000000000)
   (hcd1:d1.length≤1048576→Sh.cnt (.sl .u8) d1≤1000000000)
   (hS:∀ w' c0 G0 c1 G1,Own shVt w' 0 c0 d0 G0→Own (.sl .u8) w' 0 [c1] d1 G1→shVt.sz d0≤1048576→d1.length≤1048576→Below w.heap.size w w'→Calls Tryd.prog 13 #[.agg c0.toArray,c1] w' fun e w''=>∃ o0,e=.returned (.agg o0.toArray)∧Reads shVt w'' o0 D0∧Below w'.heap.size w' w'')
   (hI:∀ w' c0 G0 c1 G1,Own shVt w' 0 c0 d0 G0→Own (.sl .u8) w' 0 [c1] d1 G1→shVt.sz d0≤1048576→d1.length≤1048576→Below w.heap.size w w'→Calls Tryd.prog 15 #[.agg c0.toArray,c1] w' fun e w''=>∃ o0 F0,e=.returned (.agg o0.toArray)∧Own shVt w'' w'.heap.size o0 D0 F0∧F0.Nodup∧Below w'.heap.size w' w'') :
   Calls Tryd.prog 4 #[.agg cs0.toArray,v1] w fun e w'=>e=.returned (.bool true)∧Below w.heap.size w w':=by
 have qsz0:Hid (∀ w' left,Below w.heap.size w w'→0≤left→left≤1048576→Calls Tryd.prog 6 #[.agg cs0.toArray,I O left] w' fun e w''=>e=.returned (I O (szAns (shVt.sz d0) left))∧Below w'.heap.size w' w''):=fun w' left h' h1 h2=>szVt_any cs0 d0 left w' (hr0.later h') h1 h2
 have qto0:Hid (∀ w',Below w.heap.size w w'→shVt.sz d0≤1048576→Calls Tryd.prog 8 #[.agg cs0.toArray] w' fun e w''=>∃ cs' F,e=.returned (.agg cs'.toArray)∧Own shVt w'' w'.heap.size cs' d0 F∧F.Nodup∧Below w'.heap.size w' w''):=fun w' h' hs=>toVt_any cs0 d0 w' (hr0.later h') hs
 have qeq0:Hid (∀ w' c1 c2,Reads shVt w' c1 d0→Reads shVt w' c2 d0→shVt.sz d0≤1048576→Calls Tryd.prog 10 #[.agg c1.toArray,.agg c2.toArray] w' fun e w''=>e=.returned (.bool true)∧Below w'.heap.size w' w''):=fun w' c1 c2 h1 h2 hs=>eqVt_any c1 c2 d0 w' h1 h2 hs
 have qto1:Hid (∀ w',Below w.heap.size w w'→d1.length≤1048576→Calls Tryd.prog 14 #[v1] w' fun e w''=>∃ v' F,e=.returned v'∧Own (.sl .u8) w'' w'.heap.size [v'] d1 F∧F.Nodup∧Below w'.heap.size w' w''):=fun w' h' hs=>toByteS_v v1 d1 w' (hr1.later h') hs
 have qeq1:Hid (∀ w' c1 c2,Reads (.sl .u8) w' [c1] d1→Reads (.sl .u8) w' [c2] d1→d1.length≤1048576→Calls Tryd.prog 16 #[c1,c2] w' fun e w''=>e=.returned (.bool true)∧Below w'.heap.size w' w''):=fun w' c1 c2 h1 h2 hs=>eqByteS_v c1 c2 d1 w' h1 h2 (by omega)
 obtain⟨a1,cp1,e1',_,hm1⟩:=reads_val hr1
 have e1:v1=Sz a1 d1.length cp1:=e1'
 clear e1'
 obtain⟨L1,hL1⟩:∃ L,L=d1.length:=⟨_,rfl⟩
 rw[← hL1] at e1
 unfold maxLen at hm1
 have qS:Hid (∀ w' c0 G0 c1 G1,Own shVt w' 0 c0 d0 G0→Own (.sl .u8) w' 0 [c1] d1 G1→shVt.sz d0≤1048576→d1.length≤1048576→Below w.heap.size w w'→Calls Tryd.prog 13 #[.agg c0.toArray,c1] w' fun e w''=>∃ o0,e=.returned (.agg o0.toArray)∧Reads shVt w'' o0 D0∧Below w'.heap.size w' w''):=hS
 have qI:Hid (∀ w' c0 G0 c1 G1,Own shVt w' 0 c0 d0 G0→Own (.sl .u8) w' 0 [c1] d1 G1→shVt.sz d0≤1048576→d1.length≤1048576→Below w.heap.size w w'→Calls Tryd.prog 15 #[.agg c0.toArray,c1] w' fun e w''=>∃ o0 F0,e=.returned (.agg o0.toArray)∧Own shVt w'' w'.heap.size o0 D0 F0∧F0.Nodup∧Below w'.heap.size w' w''):=hI
 have qcd0:Hid (shVt.sz d0≤1048576→shVt.cntV d0≤1000000000):=hcd0
 have qcd1:Hid (d1.length≤1048576→Sh.cnt (.sl .u8) d1≤1000000000):=hcd1
 have HD0:Hid (_∧_):=⟨hD0,hC0⟩
 obtain⟨aA0_2,nA0_2,cA0_2,aA0_7,nA0_7,cA0_7,aA0_8,nA0_8,cA0_8,hcs0,_⟩:=open_Vt hr0
 obtain⟨xL0_0,eL0_0⟩:∃ x:Int,x=d0.1.1:=⟨_,rfl⟩
 obtain⟨xL0_1,eL0_1⟩:∃ x:Int,x=d0.1.2.1:=⟨_,rfl⟩
 obtain⟨xL0_3,eL0_3⟩:∃ x:Int,x=d0.1.2.2.2.1:=⟨_,rfl⟩
 obtain⟨xL0_4,eL0_4⟩:∃ x:Int,x=d0.1.2.2.2.2.1:=⟨_,rfl⟩
 obtain⟨xL0_5,eL0_5⟩:∃ x:Bool,x=d0.1.2.2.2.2.2.1:=⟨_,rfl⟩
 obtain⟨xL0_6,eL0_6⟩:∃ x:Int,x=d0.2.1:=⟨_,rfl⟩
 obtain⟨xL0_9,eL0_9⟩:∃ x:Int,x=d0.2.2.2.2.1:=⟨_,rfl⟩
 have HEL0:Hid (xL0_0=d0.1.1∧xL0_1=d0.1.2.1∧xL0_3=d0.1.2.2.2.1∧xL0_4=d0.1.2.2.2.2.1∧xL0_5=d0.1.2.2.2.2.2.1∧xL0_6=d0.2.1∧xL0_9=d0.2.2.2.2.1∧True∧True):=⟨eL0_0,eL0_1,eL0_3,eL0_4,eL0_5,eL0_6,eL0_9,trivial,trivial⟩
 rw[← eL0_0,← eL0_1,← eL0_3,← eL0_4,← eL0_5,← eL0_6,← eL0_9] at hcs0
 subst hcs0
 obtain⟨K0,hK0⟩:∃ K,K=shVt.sz d0:=⟨_,rfl⟩
 rw[← hK0] at qsz0
 obtain⟨xO0_0,eO0_0⟩:∃ x:Int,x=D0.1.1:=⟨_,rfl⟩
 obtain⟨xO0_1,eO0_1⟩:∃ x:Int,x=D0.1.2.1:=⟨_,rfl⟩
 obtain⟨xO0_3,eO0_3⟩:∃ x:Int,x=D0.1.2.2.2.1:=⟨_,rfl⟩
 obtain⟨xO0_4,eO0_4⟩:∃ x:Int,x=D0.1.2.2.2.2.1:=⟨_,rfl⟩
 obtain⟨xO0_5,eO0_5⟩:∃ x:Bool,x=D0.1.2.2.2.2.2.1:=⟨_,rfl⟩
 obtain⟨xO0_6,eO0_6⟩:∃ x:Int,x=D0.2.1:=⟨_,rfl⟩
 obtain⟨xO0_9,eO0_9⟩:∃ x:Int,x=D0.2.2.2.2.1:=⟨_,rfl⟩
 have HEO0:Hid (xO0_0=D0.1.1∧xO0_1=D0.1.2.1∧xO0_3=D0.1.2.2.2.1∧xO0_4=D0.1.2.2.2.2.1∧xO0_5=D0.1.2.2.2.2.2.1∧xO0_6=D0.2.1∧xO0_9=D0.2.2.2.2.1∧True∧True):=⟨eO0_0,eO0_1,eO0_3,eO0_4,eO0_5,eO0_6,eO0_9,trivial,trivial⟩
 clear hS hI hr0 hcd0 hr1 hcd1 hD0 hC0 eL0_0 eL0_1 eL0_3 eL0_4 eL0_5 eL0_6 eL0_9 eO0_0 eO0_1 eO0_3 eO0_4 eO0_5 eO0_6 eO0_9
 subst e1
 have HL1:Hid (L1=d1.length):=hL1
 clear hL1
 by_cases hs1:L1≤1048576
 case neg =>
   have ht:(1048576:Int) < (L1:Int):=by omega
   go_enter Tryd.func4,Tryd.ntmps4
   go_wp2
   go_ret
   exact⟨rfl,(Below.refl _ _).alloc (Nat.le_refl _) _⟩
 have ht1:¬ (1048576:Int) < (L1:Int):=by omega
 go_enter Tryd.func4,Tryd.ntmps4
 go_wp2_with fail
 obtain⟨w1,hw1⟩:∃ W,W=w.alloc (.cells #[I O xL0_0,I O xL0_1,Sz aA0_2 nA0_2 cA0_2,I O xL0_3,I O xL0_4,.bool xL0_5,I O xL0_6,Sz aA0_7 nA0_7 cA0_7,Sz aA0_8 nA0_8 cA0_8,I O xL0_9] 27):=⟨_,rfl⟩
 have hbw1:Below w.heap.size w w1:=by rw[hw1];exact(Below.refl _ _).alloc (Nat.le_refl _) _
 have i_a0_w1:Hid (w1.heap[w.heap.size]?=some (.cells #[I O xL0_0,I O xL0_1,Sz aA0_2 nA0_2 cA0_2,I O xL0_3,I O xL0_4,.bool xL0_5,I O xL0_6,Sz aA0_7 nA0_7 cA0_7,Sz aA0_8 nA0_8 cA0_8,I O xL0_9] 27 (0,0))):=by show _=_;rw[hw1];exact heap_alloc_new w _
 have zzw1:w1.heap.size=w.heap.size+1:=by rw[hw1];simp
 rw[← hw1]
 clear hw1
 have zw1:w.heap.size≤w1.heap.size:=hbw1.size
 have bw1:=(Below.refl w.heap.size w).trans (hbw1.mono (Below.refl w.heap.size w).size)
 clear hbw1
 refine(qsz0.out _ (1048576) bw1 (by omega) (by omega)).mono ?_
 rintro e w2 ⟨rfl,hbw2⟩
 have zw2:w1.heap.size≤w2.heap.size:=hbw2.size
 have bw2:=bw1.trans (hbw2.mono bw1.size)
 clear bw1
 have i_a0_w2:Hid (w2.heap[w.heap.size]?=some (.cells #[I O xL0_0,I O xL0_1,Sz aA0_2 nA0_2 cA0_2,I O xL0_3,I O xL0_4,.bool xL0_5,I O xL0_6,Sz aA0_7 nA0_7 cA0_7,Sz aA0_8 nA0_8 cA0_8,I O xL0_9] 27 (0,0))):=(hbw2.block _ (by omega)).trans i_a0_w1.out
 clear i_a0_w1
 clear hbw2
 by_cases hk0:((K0:Nat):Int)≤1048576
 case neg =>
   rw[szAns_no hk0]
   go_wp2
   go_ret
   exact⟨rfl,bw2⟩
 rw[szAns_yes hk0]
 have hl0:¬ (1048576 - ((K0:Nat):Int) < 0):=by omega
 have HZ0:Hid (shVt.sz d0≤1048576):=by show shVt.sz d0≤1048576;omega
 have hcc0:=qcd0.out HZ0.out
 have HZ1:Hid (d1.length≤1048576):=by show d1.length≤1048576;rw[← HL1.out];omega
 have hcc1:=qcd1.out HZ1.out
 have zl_a0:w.heap.size < w2.heap.size:=by omega
 have y_a0_0:w2.cell? ⟨w.heap.size,0,none⟩=some (I O xL0_0):=bxc i_a0_w2.out rfl
 have y_a0_1:w2.cell? ⟨w.heap.size,1,none⟩=some (I O xL0_1):=bxc i_a0_w2.out rfl
 have y_a0_2:w2.cell? ⟨w.heap.size,2,none⟩=some (Sz aA0_2 nA0_2 cA0_2):=bxc i_a0_w2.out rfl
 have y_a0_3:w2.cell? ⟨w.heap.size,3,none⟩=some (I O xL0_3):=bxc i_a0_w2.out rfl
 have y_a0_4:w2.cell? ⟨w.heap.size,4,none⟩=some (I O xL0_4):=bxc i_a0_w2.out rfl
 have y_a0_5:w2.cell? ⟨w.heap.size,5,none⟩=some (.bool xL0_5):=bxc i_a0_w2.out rfl
 have y_a0_6:w2.cell? ⟨w.heap.size,6,none⟩=some (I O xL0_6):=bxc i_a0_w2.out rfl
 have y_a0_7:w2.cell? ⟨w.heap.size,7,none⟩=some (Sz aA0_7 nA0_7 cA0_7):=bxc i_a0_w2.out rfl
 have y_a0_8:w2.cell? ⟨w.heap.size,8,none⟩=some (Sz aA0_8 nA0_8 cA0_8):=bxc i_a0_w2.out rfl
 have y_a0_9:w2.cell? ⟨w.heap.size,9,none⟩=some (I O xL0_9):=bxc i_a0_w2.out rfl
 go_wp2_with fail
 clear zl_a0 y_a0_0 y_a0_1 y_a0_2 y_a0_3 y_a0_4 y_a0_5 y_a0_6 y_a0_7 y_a0_8 y_a0_9
 refine(qto0.out _ bw2 HZ0.out).mono ?_
 rintro e w3 ⟨cs_y0,F_y0,he_y0,p_y0,nd_y0,hbw3⟩
 have zw3:w2.heap.size≤w3.heap.size:=hbw3.size
 have bw3:=bw2.trans (hbw3.mono bw2.size)
 clear bw2
 have i_a0_w3:Hid (w3.heap[w.heap.size]?=some (.cells #[I O xL0_0,I O xL0_1,Sz aA0_2 nA0_2 cA0_2,I O xL0_3,I O xL0_4,.bool xL0_5,I O xL0_6,Sz aA0_7 nA0_7 cA0_7,Sz aA0_8 nA0_8 cA0_8,I O xL0_9] 27 (0,0))):=(hbw3.block _ (by omega)).trans i_a0_w2.out
 clear i_a0_w2
 clear hbw3
 have lt_y0:Hid (∀ g ∈ F_y0,w2.heap.size≤g∧g < w3.heap.size):=p_y0.lt
 obtain⟨ay0_2,ny0_2,cy0_2,ay0_7,ny0_7,cy0_7,ay0_8,ny0_8,cy0_8,hq_y0,_⟩:=open_Vt p_y0.reads
 rw[← HEL0.out.1,← HEL0.out.2.1,← HEL0.out.2.2.1,← HEL0.out.2.2.2.1,← HEL0.out.2.2.2.2.1,← HEL0.out.2.2.2.2.2.1,← HEL0.out.2.2.2.2.2.2.1] at hq_y0
 subst hq_y0
 subst he_y0
 go_wp2_with fail
 refine(qto1.out _ bw3 HZ1.out).mono ?_
 rintro e w4 ⟨u_y1,F_y1,rfl,p_y1,nd_y1,hbw4⟩
 have zw4:w3.heap.size≤w4.heap.size:=hbw4.size
 have bw4:=bw3.trans (hbw4.mono bw3.size)
 clear bw3
 have o_y0_w4:=p_y0.later hbw4
 clear p_y0
 have i_a0_w4:Hid (w4.heap[w.heap.size]?=some (.cells #[I O xL0_0,I O xL0_1,Sz aA0_2 nA0_2 cA0_2,I O xL0_3,I O xL0_4,.bool xL0_5,I O xL0_6,Sz aA0_7 nA0_7 cA0_7,Sz aA0_8 nA0_8 cA0_8,I O xL0_9] 27 (0,0))):=(hbw4.block _ (by omega)).trans i_a0_w3.out
 clear i_a0_w3
 clear hbw4
 have lt_y1:Hid (∀ g ∈ F_y1,w3.heap.size≤g∧g < w4.heap.size):=p_y1.lt
 go_wp2_with fail
 refine(qS.out _ _ _ _ _ (o_y0_w4.base (Nat.zero_le _)) (p_y1.base (Nat.zero_le _)) HZ0.out HZ1.out bw4).mono ?_
 rintro e w5 ⟨W0,he_W,p_W0,hbw5⟩
 have RW0:Hid (Reads shVt w5 W0 D0):=p_W0
 have zw5:w4.heap.size≤w5.heap.size:=hbw5.size
 have bw5:=bw4.trans (hbw5.mono bw4.size)
 clear bw4
 have o_y0_w5:=o_y0_w4.later hbw5
 clear o_y0_w4
 have o_y1_w5:=p_y1.later hbw5
 clear p_y1
 have i_a0_w5:Hid (w5.heap[w.heap.size]?=some (.cells #[I O xL0_0,I O xL0_1,Sz aA0_2 nA0_2 cA0_2,I O xL0_3,I O xL0_4,.bool xL0_5,I O xL0_6,Sz aA0_7 nA0_7 cA0_7,Sz aA0_8 nA0_8 cA0_8,I O xL0_9] 27 (0,0))):=(hbw5.block _ (by omega)).trans i_a0_w4.out
 clear i_a0_w4
 clear hbw5
 have sw5:Below w5.heap.size w5 w5:=Below.refl _ _
 obtain⟨aW0_2,nW0_2,cW0_2,aW0_7,nW0_7,cW0_7,aW0_8,nW0_8,cW0_8,hq_W0,_⟩:=open_Vt p_W0
 rw[← HEO0.out.1,← HEO0.out.2.1,← HEO0.out.2.2.1,← HEO0.out.2.2.2.1,← HEO0.out.2.2.2.2.1,← HEO0.out.2.2.2.2.2.1,← HEO0.out.2.2.2.2.2.2.1] at hq_W0
 subst hq_W0
 subst he_W
 clear p_W0
 clear o_y0_w5 nd_y0 lt_y0
 clear o_y1_w5 nd_y1 lt_y1
 have zl_a0:w.heap.size < w5.heap.size:=by omega
 have y_a0_0:w5.cell? ⟨w.heap.size,0,none⟩=some (I O xL0_0):=bxc i_a0_w5.out rfl
 have y_a0_1:w5.cell? ⟨w.heap.size,1,none⟩=some (I O xL0_1):=bxc i_a0_w5.out rfl
 have y_a0_2:w5.cell? ⟨w.heap.size,2,none⟩=some (Sz aA0_2 nA0_2 cA0_2):=bxc i_a0_w5.out rfl
 have y_a0_3:w5.cell? ⟨w.heap.size,3,none⟩=some (I O xL0_3):=bxc i_a0_w5.out rfl
 have y_a0_4:w5.cell? ⟨w.heap.size,4,none⟩=some (I O xL0_4):=bxc i_a0_w5.out rfl
 have y_a0_5:w5.cell? ⟨w.heap.size,5,none⟩=some (.bool xL0_5):=bxc i_a0_w5.out rfl
 have y_a0_6:w5.cell? ⟨w.heap.size,6,none⟩=some (I O xL0_6):=bxc i_a0_w5.out rfl
 have y_a0_7:w5.cell? ⟨w.heap.size,7,none⟩=some (Sz aA0_7 nA0_7 cA0_7):=bxc i_a0_w5.out rfl
 have y_a0_8:w5.cell? ⟨w.heap.size,8,none⟩=some (Sz aA0_8 nA0_8 cA0_8):=bxc i_a0_w5.out rfl
 have y_a0_9:w5.cell? ⟨w.heap.size,9,none⟩=some (I O xL0_9):=bxc i_a0_w5.out rfl
 go_wp2_with fail
 clear zl_a0 y_a0_0 y_a0_1 y_a0_2 y_a0_3 y_a0_4 y_a0_5 y_a0_6 y_a0_7 y_a0_8 y_a0_9
 obtain⟨w6,hw6⟩:∃ W,W=w5.alloc (.cells #[I O xO0_0,I O xO0_1,Sz aW0_2 nW0_2 cW0_2,I O xO0_3,I O xO0_4,.bool xO0_5,I O xO0_6,Sz aW0_7 nW0_7 cW0_7,Sz aW0_8 nW0_8 cW0_8,I O xO0_9] 31):=⟨_,rfl⟩
 have hbw6:Below w5.heap.size w5 w6:=by rw[hw6];exact(Below.refl _ _).alloc (Nat.le_refl _) _
 have i_W0_w6:Hid (w6.heap[w5.heap.size]?=some (.cells #[I O xO0_0,I O xO0_1,Sz aW0_2 nW0_2 cW0_2,I O xO0_3,I O xO0_4,.bool xO0_5,I O xO0_6,Sz aW0_7 nW0_7 cW0_7,Sz aW0_8 nW0_8 cW0_8,I O xO0_9] 31 (0,0))):=by show _=_;rw[hw6];exact heap_alloc_new w5 _
 have zzw6:w6.heap.size=w5.heap.size+1:=by rw[hw6];simp
 rw[← hw6]
 clear hw6
 have zw6:w5.heap.size≤w6.heap.size:=hbw6.size
 have bw6:=bw5.trans (hbw6.mono bw5.size)
 clear bw5
 have sw6:=sw5.trans (hbw6.mono sw5.size)
 clear sw5
 have i_a0_w6:Hid (w6.heap[w.heap.size]?=some (.cells #[I O xL0_0,I O xL0_1,Sz aA0_2 nA0_2 cA0_2,I O xL0_3,I O xL0_4,.bool xL0_5,I O xL0_6,Sz aA0_7 nA0_7 cA0_7,Sz aA0_8 nA0_8 cA0_8,I O xL0_9] 27 (0,0))):=(hbw6.block _ (by omega)).trans i_a0_w5.out
 clear i_a0_w5
 clear hbw6
 refine(qto0.out _ bw6 HZ0.out).mono ?_
 rintro e w7 ⟨cs_x0,F_x0,he_x0,p_x0,nd_x0,hbw7⟩
 have zw7:w6.heap.size≤w7.heap.size:=hbw7.size
 have bw7:=bw6.trans (hbw7.mono bw6.size)
 clear bw6
 have sw7:=sw6.trans (hbw7.mono sw6.size)
 clear sw6
 have i_a0_w7:Hid (w7.heap[w.heap.size]?=some (.cells #[I O xL0_0,I O xL0_1,Sz aA0_2 nA0_2 cA0_2,I O xL0_3,I O xL0_4,.bool xL0_5,I O xL0_6,Sz aA0_7 nA0_7 cA0_7,Sz aA0_8 nA0_8 cA0_8,I O xL0_9] 27 (0,0))):=(hbw7.block _ (by omega)).trans i_a0_w6.out
 clear i_a0_w6
 have i_W0_w7:Hid (w7.heap[w5.heap.size]?=some (.cells #[I O xO0_0,I O xO0_1,Sz aW0_2 nW0_2 cW0_2,I O xO0_3,I O xO0_4,.bool xO0_5,I O xO0_6,Sz aW0_7 nW0_7 cW0_7,Sz aW0_8 nW0_8 cW0_8,I O xO0_9] 31 (0,0))):=(hbw7.block _ (by omega)).trans i_W0_w6.out
 clear i_W0_w6
 clear hbw7
 have lt_x0:Hid (∀ g ∈ F_x0,w6.heap.size≤g∧g < w7.heap.size):=p_x0.lt
 obtain⟨ax0_2,nx0_2,cx0_2,ax0_7,nx0_7,cx0_7,ax0_8,nx0_8,cx0_8,hq_x0,_⟩:=open_Vt p_x0.reads
 rw[← HEL0.out.1,← HEL0.out.2.1,← HEL0.out.2.2.1,← HEL0.out.2.2.2.1,← HEL0.out.2.2.2.2.1,← HEL0.out.2.2.2.2.2.1,← HEL0.out.2.2.2.2.2.2.1] at hq_x0
 subst hq_x0
 subst he_x0
 go_wp2_with fail
 obtain⟨w8,hw8⟩:∃ W,W=w7.alloc (.cells #[I O xL0_0,I O xL0_1,Sz ax0_2 nx0_2 cx0_2,I O xL0_3,I O xL0_4,.bool xL0_5,I O xL0_6,Sz ax0_7 nx0_7 cx0_7,Sz ax0_8 nx0_8 cx0_8,I O xL0_9] 31):=⟨_,rfl⟩
 have hbw8:Below w7.heap.size w7 w8:=by rw[hw8];exact(Below.refl _ _).alloc (Nat.le_refl _) _
 have i_x0_w8:Hid (w8.heap[w7.heap.size]?=some (.cells #[I O xL0_0,I O xL0_1,Sz ax0_2 nx0_2 cx0_2,I O xL0_3,I O xL0_4,.bool xL0_5,I O xL0_6,Sz ax0_7 nx0_7 cx0_7,Sz ax0_8 nx0_8 cx0_8,I O xL0_9] 31 (0,0))):=by show _=_;rw[hw8];exact heap_alloc_new w7 _
 have zzw8:w8.heap.size=w7.heap.size+1:=by rw[hw8];simp
 rw[← hw8]
 clear hw8
 have zw8:w7.heap.size≤w8.heap.size:=hbw8.size
 have bw8:=bw7.trans (hbw8.mono bw7.size)
 clear bw7
 have sw8:=sw7.trans (hbw8.mono sw7.size)
 clear sw7
 have o_x0_w8:=p_x0.later hbw8
 clear p_x0
 have i_a0_w8:Hid (w8.heap[w.heap.size]?=some (.cells #[I O xL0_0,I O xL0_1,Sz aA0_2 nA0_2 cA0_2,I O xL0_3,I O xL0_4,.bool xL0_5,I O xL0_6,Sz aA0_7 nA0_7 cA0_7,Sz aA0_8 nA0_8 cA0_8,I O xL0_9] 27 (0,0))):=(hbw8.block _ (by omega)).trans i_a0_w7.out
 clear i_a0_w7
 have i_W0_w8:Hid (w8.heap[w5.heap.size]?=some (.cells #[I O xO0_0,I O xO0_1,Sz aW0_2 nW0_2 cW0_2,I O xO0_3,I O xO0_4,.bool xO0_5,I O xO0_6,Sz aW0_7 nW0_7 cW0_7,Sz aW0_8 nW0_8 cW0_8,I O xO0_9] 31 (0,0))):=(hbw8.block _ (by omega)).trans i_W0_w7.out
 clear i_W0_w7
 clear hbw8
 refine(qto1.out _ bw8 HZ1.out).mono ?_
 rintro e w9 ⟨u_x1,F_x1,rfl,p_x1,nd_x1,hbw9⟩
 have zw9:w8.heap.size≤w9.heap.size:=hbw9.size
 have bw9:=bw8.trans (hbw9.mono bw8.size)
 clear bw8
 have sw9:=sw8.trans (hbw9.mono sw8.size)
 clear sw8
 have o_x0_w9:=o_x0_w8.later hbw9
 clear o_x0_w8
 have i_a0_w9:Hid (w9.heap[w.heap.size]?=some (.cells #[I O xL0_0,I O xL0_1,Sz aA0_2 nA0_2 cA0_2,I O xL0_3,I O xL0_4,.bool xL0_5,I O xL0_6,Sz aA0_7 nA0_7 cA0_7,Sz aA0_8 nA0_8 cA0_8,I O xL0_9] 27 (0,0))):=(hbw9.block _ (by omega)).trans i_a0_w8.out
 clear i_a0_w8
 have i_W0_w9:Hid (w9.heap[w5.heap.size]?=some (.cells #[I O xO0_0,I O xO0_1,Sz aW0_2 nW0_2 cW0_2,I O xO0_3,I O xO0_4,.bool xO0_5,I O xO0_6,Sz aW0_7 nW0_7 cW0_7,Sz aW0_8 nW0_8 cW0_8,I O xO0_9] 31 (0,0))):=(hbw9.block _ (by omega)).trans i_W0_w8.out
 clear i_W0_w8
 have i_x0_w9:Hid (w9.heap[w7.heap.size]?=some (.cells #[I O xL0_0,I O xL0_1,Sz ax0_2 nx0_2 cx0_2,I O xL0_3,I O xL0_4,.bool xL0_5,I O xL0_6,Sz ax0_7 nx0_7 cx0_7,Sz ax0_8 nx0_8 cx0_8,I O xL0_9] 31 (0,0))):=(hbw9.block _ (by omega)).trans i_x0_w8.out
 clear i_x0_w8
 clear hbw9
 have lt_x1:Hid (∀ g ∈ F_x1,w8.heap.size≤g∧g < w9.heap.size):=p_x1.lt
 have zl_x0:w7.heap.size < w9.heap.size:=by omega
 have y_x0_0:w9.cell? ⟨w7.heap.size,0,none⟩=some (I O xL0_0):=bxc i_x0_w9.out rfl
 have y_x0_1:w9.cell? ⟨w7.heap.size,1,none⟩=some (I O xL0_1):=bxc i_x0_w9.out rfl
 have y_x0_2:w9.cell? ⟨w7.heap.size,2,none⟩=some (Sz ax0_2 nx0_2 cx0_2):=bxc i_x0_w9.out rfl
 have y_x0_3:w9.cell? ⟨w7.heap.size,3,none⟩=some (I O xL0_3):=bxc i_x0_w9.out rfl
 have y_x0_4:w9.cell? ⟨w7.heap.size,4,none⟩=some (I O xL0_4):=bxc i_x0_w9.out rfl
 have y_x0_5:w9.cell? ⟨w7.heap.size,5,none⟩=some (.bool xL0_5):=bxc i_x0_w9.out rfl
 have y_x0_6:w9.cell? ⟨w7.heap.size,6,none⟩=some (I O xL0_6):=bxc i_x0_w9.out rfl
 have y_x0_7:w9.cell? ⟨w7.heap.size,7,none⟩=some (Sz ax0_7 nx0_7 cx0_7):=bxc i_x0_w9.out rfl
 have y_x0_8:w9.cell? ⟨w7.heap.size,8,none⟩=some (Sz ax0_8 nx0_8 cx0_8):=bxc i_x0_w9.out rfl
 have y_x0_9:w9.cell? ⟨w7.heap.size,9,none⟩=some (I O xL0_9):=bxc i_x0_w9.out rfl
 go_wp2_with fail
 clear zl_x0 y_x0_0 y_x0_1 y_x0_2 y_x0_3 y_x0_4 y_x0_5 y_x0_6 y_x0_7 y_x0_8 y_x0_9
 refine(qI.out _ _ _ _ _ (o_x0_w9.base (Nat.zero_le _)) (p_x1.base (Nat.zero_le _)) HZ0.out HZ1.out bw9).mono ?_
 rintro e w10 ⟨g0,F_g0,he_g,p_g0,nd_g0,hbw10⟩
 have zw10:w9.heap.size≤w10.heap.size:=hbw10.size
 have bw10:=bw9.trans (hbw10.mono bw9.size)
 clear bw9
 have sw10:=sw9.trans (hbw10.mono sw9.size)
 clear sw9
 have o_x0_w10:=o_x0_w9.later hbw10
 clear o_x0_w9
 have o_x1_w10:=p_x1.later hbw10
 clear p_x1
 have i_a0_w10:Hid (w10.heap[w.heap.size]?=some (.cells #[I O xL0_0,I O xL0_1,Sz aA0_2 nA0_2 cA0_2,I O xL0_3,I O xL0_4,.bool xL0_5,I O xL0_6,Sz aA0_7 nA0_7 cA0_7,Sz aA0_8 nA0_8 cA0_8,I O xL0_9] 27 (0,0))):=(hbw10.block _ (by omega)).trans i_a0_w9.out
 clear i_a0_w9
 have i_W0_w10:Hid (w10.heap[w5.heap.size]?=some (.cells #[I O xO0_0,I O xO0_1,Sz aW0_2 nW0_2 cW0_2,I O xO0_3,I O xO0_4,.bool xO0_5,I O xO0_6,Sz aW0_7 nW0_7 cW0_7,Sz aW0_8 nW0_8 cW0_8,I O xO0_9] 31 (0,0))):=(hbw10.block _ (by omega)).trans i_W0_w9.out
 clear i_W0_w9
 have i_x0_w10:Hid (w10.heap[w7.heap.size]?=some (.cells #[I O xL0_0,I O xL0_1,Sz ax0_2 nx0_2 cx0_2,I O xL0_3,I O xL0_4,.bool xL0_5,I O xL0_6,Sz ax0_7 nx0_7 cx0_7,Sz ax0_8 nx0_8 cx0_8,I O xL0_9] 31 (0,0))):=(hbw10.block _ (by omega)).trans i_x0_w9.out
 clear i_x0_w9
 clear hbw10
 have lt_g0:Hid (∀ g ∈ F_g0,w9.heap.size≤g∧g < w10.heap.size):=p_g0.lt
 obtain⟨ag0_2,ng0_2,cg0_2,ag0_7,ng0_7,cg0_7,ag0_8,ng0_8,cg0_8,hq_g0,_⟩:=open_Vt p_g0.reads
 rw[← HEO0.out.1,← HEO0.out.2.1,← HEO0.out.2.2.1,← HEO0.out.2.2.2.1,← HEO0.out.2.2.2.2.1,← HEO0.out.2.2.2.2.2.1,← HEO0.out.2.2.2.2.2.2.1] at hq_g0
 subst hq_g0
 subst he_g
 have zl_W0:w5.heap.size < w10.heap.size:=by omega
 have y_W0_0:w10.cell? ⟨w5.heap.size,0,none⟩=some (I O xO0_0):=bxc i_W0_w10.out rfl
 have y_W0_1:w10.cell? ⟨w5.heap.size,1,none⟩=some (I O xO0_1):=bxc i_W0_w10.out rfl
 have y_W0_2:w10.cell? ⟨w5.heap.size,2,none⟩=some (Sz aW0_2 nW0_2 cW0_2):=bxc i_W0_w10.out rfl
 have y_W0_3:w10.cell? ⟨w5.heap.size,3,none⟩=some (I O xO0_3):=bxc i_W0_w10.out rfl
 have y_W0_4:w10.cell? ⟨w5.heap.size,4,none⟩=some (I O xO0_4):=bxc i_W0_w10.out rfl
 have y_W0_5:w10.cell? ⟨w5.heap.size,5,none⟩=some (.bool xO0_5):=bxc i_W0_w10.out rfl
 have y_W0_6:w10.cell? ⟨w5.heap.size,6,none⟩=some (I O xO0_6):=bxc i_W0_w10.out rfl
 have y_W0_7:w10.cell? ⟨w5.heap.size,7,none⟩=some (Sz aW0_7 nW0_7 cW0_7):=bxc i_W0_w10.out rfl
 have y_W0_8:w10.cell? ⟨w5.heap.size,8,none⟩=some (Sz aW0_8 nW0_8 cW0_8):=bxc i_W0_w10.out rfl
 have y_W0_9:w10.cell? ⟨w5.heap.size,9,none⟩=some (I O xO0_9):=bxc i_W0_w10.out rfl
 go_wp2_with fail
 clear zl_W0 y_W0_0 y_W0_1 y_W0_2 y_W0_3 y_W0_4 y_W0_5 y_W0_6 y_W0_7 y_W0_8 y_W0_9
 obtain⟨w11,hw11⟩:∃ W,W=w10.alloc (.cells #[I O xO0_0,I O xO0_1,Sz ag0_2 ng0_2 cg0_2,I O xO0_3,I O xO0_4,.bool xO0_5,I O xO0_6,Sz ag0_7 ng0_7 cg0_7,Sz ag0_8 ng0_8 cg0_8,I O xO0_9] 31):=⟨_,rfl⟩
 have hbw11:Below w10.heap.size w10 w11:=by rw[hw11];exact(Below.refl _ _).alloc (Nat.le_refl _) _
 have i_g0_w11:Hid (w11.heap[w10.heap.size]?=some (.cells #[I O xO0_0,I O xO0_1,Sz ag0_2 ng0_2 cg0_2,I O xO0_3,I O xO0_4,.bool xO0_5,I O xO0_6,Sz ag0_7 ng0_7 cg0_7,Sz ag0_8 ng0_8 cg0_8,I O xO0_9] 31 (0,0))):=by show _=_;rw[hw11];exact heap_alloc_new w10 _
 have zzw11:w11.heap.size=w10.heap.size+1:=by rw[hw11];simp
 rw[← hw11]
 clear hw11
 have zw11:w10.heap.size≤w11.heap.size:=hbw11.size
 have bw11:=bw10.trans (hbw11.mono bw10.size)
 clear bw10
 have sw11:=sw10.trans (hbw11.mono sw10.size)
 clear sw10
 have o_x0_w11:=o_x0_w10.later hbw11
 clear o_x0_w10
 have o_x1_w11:=o_x1_w10.later hbw11
 clear o_x1_w10
 have o_g0_w11:=p_g0.later hbw11
 clear p_g0
 have i_a0_w11:Hid (w11.heap[w.heap.size]?=some (.cells #[I O xL0_0,I O xL0_1,Sz aA0_2 nA0_2 cA0_2,I O xL0_3,I O xL0_4,.bool xL0_5,I O xL0_6,Sz aA0_7 nA0_7 cA0_7,Sz aA0_8 nA0_8 cA0_8,I O xL0_9] 27 (0,0))):=(hbw11.block _ (by omega)).trans i_a0_w10.out
 clear i_a0_w10
 have i_W0_w11:Hid (w11.heap[w5.heap.size]?=some (.cells #[I O xO0_0,I O xO0_1,Sz aW0_2 nW0_2 cW0_2,I O xO0_3,I O xO0_4,.bool xO0_5,I O xO0_6,Sz aW0_7 nW0_7 cW0_7,Sz aW0_8 nW0_8 cW0_8,I O xO0_9] 31 (0,0))):=(hbw11.block _ (by omega)).trans i_W0_w10.out
 clear i_W0_w10
 have i_x0_w11:Hid (w11.heap[w7.heap.size]?=some (.cells #[I O xL0_0,I O xL0_1,Sz ax0_2 nx0_2 cx0_2,I O xL0_3,I O xL0_4,.bool xL0_5,I O xL0_6,Sz ax0_7 nx0_7 cx0_7,Sz ax0_8 nx0_8 cx0_8,I O xL0_9] 31 (0,0))):=(hbw11.block _ (by omega)).trans i_x0_w10.out
 clear i_x0_w10
 clear hbw11
 refine(eqVt_any _ _ D0 _ o_g0_w11.reads (RW0.out.later sw11) HD0.out.1).mono ?_
 rintro e w12 ⟨rfl,hbw12⟩
 have zw12:w11.heap.size≤w12.heap.size:=hbw12.size
 have bw12:=bw11.trans (hbw12.mono bw11.size)
 clear bw11
 have sw12:=sw11.trans (hbw12.mono sw11.size)
 clear sw11
 have o_x0_w12:=o_x0_w11.later hbw12
 clear o_x0_w11
 have o_x1_w12:=o_x1_w11.later hbw12
 clear o_x1_w11
 have o_g0_w12:=o_g0_w11.later hbw12
 clear o_g0_w11
 have i_a0_w12:Hid (w12.heap[w.heap.size]?=some (.cells #[I O xL0_0,I O xL0_1,Sz aA0_2 nA0_2 cA0_2,I O xL0_3,I O xL0_4,.bool xL0_5,I O xL0_6,Sz aA0_7 nA0_7 cA0_7,Sz aA0_8 nA0_8 cA0_8,I O xL0_9] 27 (0,0))):=(hbw12.block _ (by omega)).trans i_a0_w11.out
 clear i_a0_w11
 have i_W0_w12:Hid (w12.heap[w5.heap.size]?=some (.cells #[I O xO0_0,I O xO0_1,Sz aW0_2 nW0_2 cW0_2,I O xO0_3,I O xO0_4,.bool xO0_5,I O xO0_6,Sz aW0_7 nW0_7 cW0_7,Sz aW0_8 nW0_8 cW0_8,I O xO0_9] 31 (0,0))):=(hbw12.block _ (by omega)).trans i_W0_w11.out
 clear i_W0_w11
 have i_x0_w12:Hid (w12.heap[w7.heap.size]?=some (.cells #[I O xL0_0,I O xL0_1,Sz ax0_2 nx0_2 cx0_2,I O xL0_3,I O xL0_4,.bool xL0_5,I O xL0_6,Sz ax0_7 nx0_7 cx0_7,Sz ax0_8 nx0_8 cx0_8,I O xL0_9] 31 (0,0))):=(hbw12.block _ (by omega)).trans i_x0_w11.out
 clear i_x0_w11
 have i_g0_w12:Hid (w12.heap[w10.heap.size]?=some (.cells #[I O xO0_0,I O xO0_1,Sz ag0_2 ng0_2 cg0_2,I O xO0_3,I O xO0_4,.bool xO0_5,I O xO0_6,Sz ag0_7 ng0_7 cg0_7,Sz ag0_8 ng0_8 cg0_8,I O xO0_9] 31 (0,0))):=(hbw12.block _ (by omega)).trans i_g0_w11.out
 clear i_g0_w11
 clear hbw12
 have zlt:w.heap.size < w12.heap.size:=by omega
 have zlt4:w7.heap.size < w12.heap.size:=by omega
 have hbb:Below w12.heap.size w12 w12:=Below.refl _ _
 have ya0:w12.cell? ⟨w.heap.size,0,none⟩=some (I O xL0_0):=bxc i_a0_w12.out rfl
 have ya1:w12.cell? ⟨w.heap.size,1,none⟩=some (I O xL0_1):=bxc i_a0_w12.out rfl
 have ya2:w12.cell? ⟨w.heap.size,2,none⟩=some (Sz aA0_2 nA0_2 cA0_2):=bxc i_a0_w12.out rfl
 have ya3:w12.cell? ⟨w.heap.size,3,none⟩=some (I O xL0_3):=bxc i_a0_w12.out rfl
 have ya4:w12.cell? ⟨w.heap.size,4,none⟩=some (I O xL0_4):=bxc i_a0_w12.out rfl
 have ya5:w12.cell? ⟨w.heap.size,5,none⟩=some (.bool xL0_5):=bxc i_a0_w12.out rfl
 have ya6:w12.cell? ⟨w.heap.size,6,none⟩=some (I O xL0_6):=bxc i_a0_w12.out rfl
 have ya7:w12.cell? ⟨w.heap.size,7,none⟩=some (Sz aA0_7 nA0_7 cA0_7):=bxc i_a0_w12.out rfl
 have ya8:w12.cell? ⟨w.heap.size,8,none⟩=some (Sz aA0_8 nA0_8 cA0_8):=bxc i_a0_w12.out rfl
 have ya9:w12.cell? ⟨w.heap.size,9,none⟩=some (I O xL0_9):=bxc i_a0_w12.out rfl
 have yb0:w12.cell? ⟨w7.heap.size,0,none⟩=some (I O xL0_0):=bxc i_x0_w12.out rfl
 have yb1:w12.cell? ⟨w7.heap.size,1,none⟩=some (I O xL0_1):=bxc i_x0_w12.out rfl
 have yb2:w12.cell? ⟨w7.heap.size,2,none⟩=some (Sz ax0_2 nx0_2 cx0_2):=bxc i_x0_w12.out rfl
 have yb3:w12.cell? ⟨w7.heap.size,3,none⟩=some (I O xL0_3):=bxc i_x0_w12.out rfl
 have yb4:w12.cell? ⟨w7.heap.size,4,none⟩=some (I O xL0_4):=bxc i_x0_w12.out rfl
 have yb5:w12.cell? ⟨w7.heap.size,5,none⟩=some (.bool xL0_5):=bxc i_x0_w12.out rfl
 have yb6:w12.cell? ⟨w7.heap.size,6,none⟩=some (I O xL0_6):=bxc i_x0_w12.out rfl
 have yb7:w12.cell? ⟨w7.heap.size,7,none⟩=some (Sz ax0_7 nx0_7 cx0_7):=bxc i_x0_w12.out rfl
 have yb8:w12.cell? ⟨w7.heap.size,8,none⟩=some (Sz ax0_8 nx0_8 cx0_8):=bxc i_x0_w12.out rfl
 have yb9:w12.cell? ⟨w7.heap.size,9,none⟩=some (I O xL0_9):=bxc i_x0_w12.out rfl
 go_wp2_with fail
 go_region_held (fun w'=>w'.cell? ⟨w.heap.size,0,none⟩=some (I O xL0_0)∧w'.cell? ⟨w.heap.size,1,none⟩=some (I O xL0_1)∧w'.cell? ⟨w.heap.size,2,none⟩=some (Sz aA0_2 nA0_2 cA0_2)∧w'.cell? ⟨w.heap.size,3,none⟩=some (I O xL0_3)∧w'.cell? ⟨w.heap.size,4,none⟩=some (I O xL0_4)∧w'.cell? ⟨w.heap.size,5,none⟩=some (.bool xL0_5)∧w'.cell? ⟨w.heap.size,6,none⟩=some (I O xL0_6)∧w'.cell? ⟨w.heap.size,7,none⟩=some (Sz aA0_7 nA0_7 cA0_7)∧w'.cell? ⟨w.heap.size,8,none⟩=some (Sz aA0_8 nA0_8 cA0_8)∧w'.cell? ⟨w.heap.size,9,none⟩=some (I O xL0_9)∧w'.cell? ⟨w7.heap.size,0,none⟩=some (I O xL0_0)∧w'.cell? ⟨w7.heap.size,1,none⟩=some (I O xL0_1)∧w'.cell? ⟨w7.heap.size,2,none⟩=some (Sz ax0_2 nx0_2 cx0_2)∧w'.cell? ⟨w7.heap.size,3,none⟩=some (I O xL0_3)∧w'.cell? ⟨w7.heap.size,4,none⟩=some (I O xL0_4)∧w'.cell? ⟨w7.heap.size,5,none⟩=some (.bool xL0_5)∧w'.cell? ⟨w7.heap.size,6,none⟩=some (I O xL0_6)∧w'.cell? ⟨w7.heap.size,7,none⟩=some (Sz ax0_7 nx0_7 cx0_7)∧w'.cell? ⟨w7.heap.size,8,none⟩=some (Sz ax0_8 nx0_8 cx0_8)∧w'.cell? ⟨w7.heap.size,9,none⟩=some (I O xL0_9))
   (first | go_keep | (refine⟨?_,?_,?_,?_,?_,?_,?_,?_,?_,?_,?_,?_,?_,?_,?_,?_,?_,?_,?_,?_⟩ <;> first | (refine(hb7.cell ?_).trans ?_;(have h6:=hb6.size;simp at h6 ⊢;omega);assumption) | (refine(hb6.cell ?_).trans ?_;(simp;omega);assumption)))
   (first | ((go_at_call 8;refine(qto0.out _ (bw12.drew) HZ0.out).mono ?_;rintro e w13 ⟨cs6,F6,rfl,o6,nd6,hb6⟩;have za0:w13.cell? ⟨w.heap.size,0,none⟩=some (I O xL0_0):=(hb6.cell (p:=⟨w.heap.size,0,none⟩) (by simp;omega)).trans ya0;have za1:w13.cell? ⟨w.heap.size,1,none⟩=some (I O xL0_1):=(hb6.cell (p:=⟨w.heap.size,1,none⟩) (by simp;omega)).trans ya1;have za2:w13.cell? ⟨w.heap.size,2,none⟩=some (Sz aA0_2 nA0_2 cA0_2):=(hb6.cell (p:=⟨w.heap.size,2,none⟩) (by simp;omega)).trans ya2;have za3:w13.cell? ⟨w.heap.size,3,none⟩=some (I O xL0_3):=(hb6.cell (p:=⟨w.heap.size,3,none⟩) (by simp;omega)).trans ya3;have za4:w13.cell? ⟨w.heap.size,4,none⟩=some (I O xL0_4):=(hb6.cell (p:=⟨w.heap.size,4,none⟩) (by simp;omega)).trans ya4;have za5:w13.cell? ⟨w.heap.size,5,none⟩=some (.bool xL0_5):=(hb6.cell (p:=⟨w.heap.size,5,none⟩) (by simp;omega)).trans ya5;have za6:w13.cell? ⟨w.heap.size,6,none⟩=some (I O xL0_6):=(hb6.cell (p:=⟨w.heap.size,6,none⟩) (by simp;omega)).trans ya6;have za7:w13.cell? ⟨w.heap.size,7,none⟩=some (Sz aA0_7 nA0_7 cA0_7):=(hb6.cell (p:=⟨w.heap.size,7,none⟩) (by simp;omega)).trans ya7;have za8:w13.cell? ⟨w.heap.size,8,none⟩=some (Sz aA0_8 nA0_8 cA0_8):=(hb6.cell (p:=⟨w.heap.size,8,none⟩) (by simp;omega)).trans ya8;have za9:w13.cell? ⟨w.heap.size,9,none⟩=some (I O xL0_9):=(hb6.cell (p:=⟨w.heap.size,9,none⟩) (by simp;omega)).trans ya9;have zb0:w13.cell? ⟨w7.heap.size,0,none⟩=some (I O xL0_0):=(hb6.cell (p:=⟨w7.heap.size,0,none⟩) (by simp;omega)).trans yb0;have zb1:w13.cell? ⟨w7.heap.size,1,none⟩=some (I O xL0_1):=(hb6.cell (p:=⟨w7.heap.size,1,none⟩) (by simp;omega)).trans yb1;have zb2:w13.cell? ⟨w7.heap.size,2,none⟩=some (Sz ax0_2 nx0_2 cx0_2):=(hb6.cell (p:=⟨w7.heap.size,2,none⟩) (by simp;omega)).trans yb2;have zb3:w13.cell? ⟨w7.heap.size,3,none⟩=some (I O xL0_3):=(hb6.cell (p:=⟨w7.heap.size,3,none⟩) (by simp;omega)).trans yb3;have zb4:w13.cell? ⟨w7.heap.size,4,none⟩=some (I O xL0_4):=(hb6.cell (p:=⟨w7.heap.size,4,none⟩) (by simp;omega)).trans yb4;have zb5:w13.cell? ⟨w7.heap.size,5,none⟩=some (.bool xL0_5):=(hb6.cell (p:=⟨w7.heap.size,5,none⟩) (by simp;omega)).trans yb5;have zb6:w13.cell? ⟨w7.heap.size,6,none⟩=some (I O xL0_6):=(hb6.cell (p:=⟨w7.heap.size,6,none⟩) (by simp;omega)).trans yb6;have zb7:w13.cell? ⟨w7.heap.size,7,none⟩=some (Sz ax0_7 nx0_7 cx0_7):=(hb6.cell (p:=⟨w7.heap.size,7,none⟩) (by simp;omega)).trans yb7;have zb8:w13.cell? ⟨w7.heap.size,8,none⟩=some (Sz ax0_8 nx0_8 cx0_8):=(hb6.cell (p:=⟨w7.heap.size,8,none⟩) (by simp;omega)).trans yb8;have zb9:w13.cell? ⟨w7.heap.size,9,none⟩=some (I O xL0_9):=(hb6.cell (p:=⟨w7.heap.size,9,none⟩) (by simp;omega)).trans yb9)) | ((go_at_call 10;refine(qeq0.out _ _ cs6 (o_x0_w12.later ((Below.drew hbb).trans (hb6.mono (by simp)))).reads o6.reads HZ0.out).mono ?_;rintro e w14 ⟨rfl,hb7⟩)))
 have hbw14:Below w12.heap.size w12 w14:=hbb.drew.trans ((hb6.trans (hb7.mono hb6.size)).mono hbb.drew.size)
 clear hb6 hb7 o6 nd6 hbb zlt zlt4 ya0 ya1 ya2 ya3 ya4 ya5 ya6 ya7 ya8 ya9 yb0 yb1 yb2 yb3 yb4 yb5 yb6 yb7 yb8 yb9 za0 za1 za2 za3 za4 za5 za6 za7 za8 za9 zb0 zb1 zb2 zb3 zb4 zb5 zb6 zb7 zb8 zb9
 have zw14:w12.heap.size≤w14.heap.size:=hbw14.size
 have bw14:=bw12.trans (hbw14.mono bw12.size)
 clear bw12
 have sw14:=sw12.trans (hbw14.mono sw12.size)
 clear sw12
 have o_x0_w14:=o_x0_w12.later hbw14
 clear o_x0_w12
 have o_x1_w14:=o_x1_w12.later hbw14
 clear o_x1_w12
 have o_g0_w14:=o_g0_w12.later hbw14
 clear o_g0_w12
 have i_a0_w14:Hid (w14.heap[w.heap.size]?=some (.cells #[I O xL0_0,I O xL0_1,Sz aA0_2 nA0_2 cA0_2,I O xL0_3,I O xL0_4,.bool xL0_5,I O xL0_6,Sz aA0_7 nA0_7 cA0_7,Sz aA0_8 nA0_8 cA0_8,I O xL0_9] 27 (0,0))):=(hbw14.block _ (by omega)).trans i_a0_w12.out
 clear i_a0_w12
 have i_W0_w14:Hid (w14.heap[w5.heap.size]?=some (.cells #[I O xO0_0,I O xO0_1,Sz aW0_2 nW0_2 cW0_2,I O xO0_3,I O xO0_4,.bool xO0_5,I O xO0_6,Sz aW0_7 nW0_7 cW0_7,Sz aW0_8 nW0_8 cW0_8,I O xO0_9] 31 (0,0))):=(hbw14.block _ (by omega)).trans i_W0_w12.out
 clear i_W0_w12
 have i_x0_w14:Hid (w14.heap[w7.heap.size]?=some (.cells #[I O xL0_0,I O xL0_1,Sz ax0_2 nx0_2 cx0_2,I O xL0_3,I O xL0_4,.bool xL0_5,I O xL0_6,Sz ax0_7 nx0_7 cx0_7,Sz ax0_8 nx0_8 cx0_8,I O xL0_9] 31 (0,0))):=(hbw14.block _ (by omega)).trans i_x0_w12.out
 clear i_x0_w12
 have i_g0_w14:Hid (w14.heap[w10.heap.size]?=some (.cells #[I O xO0_0,I O xO0_1,Sz ag0_2 ng0_2 cg0_2,I O xO0_3,I O xO0_4,.bool xO0_5,I O xO0_6,Sz ag0_7 ng0_7 cg0_7,Sz ag0_8 ng0_8 cg0_8,I O xO0_9] 31 (0,0))):=(hbw14.block _ (by omega)).trans i_g0_w12.out
 clear i_g0_w12
 clear hbw14
 go_wp2_with fail
 refine(qto1.out _ bw14 HZ1.out).mono ?_
 rintro e w15 ⟨u_t1,F_t1,rfl,p_t1,nd_t1,hbw15⟩
 have zw15:w14.heap.size≤w15.heap.size:=hbw15.size
 have bw15:=bw14.trans (hbw15.mono bw14.size)
 clear bw14
 have sw15:=sw14.trans (hbw15.mono sw14.size)
 clear sw14
 have o_x0_w15:=o_x0_w14.later hbw15
 clear o_x0_w14
 have o_x1_w15:=o_x1_w14.later hbw15
 clear o_x1_w14
 have o_g0_w15:=o_g0_w14.later hbw15
 clear o_g0_w14
 have i_a0_w15:Hid (w15.heap[w.heap.size]?=some (.cells #[I O xL0_0,I O xL0_1,Sz aA0_2 nA0_2 cA0_2,I O xL0_3,I O xL0_4,.bool xL0_5,I O xL0_6,Sz aA0_7 nA0_7 cA0_7,Sz aA0_8 nA0_8 cA0_8,I O xL0_9] 27 (0,0))):=(hbw15.block _ (by omega)).trans i_a0_w14.out
 clear i_a0_w14
 have i_W0_w15:Hid (w15.heap[w5.heap.size]?=some (.cells #[I O xO0_0,I O xO0_1,Sz aW0_2 nW0_2 cW0_2,I O xO0_3,I O xO0_4,.bool xO0_5,I O xO0_6,Sz aW0_7 nW0_7 cW0_7,Sz aW0_8 nW0_8 cW0_8,I O xO0_9] 31 (0,0))):=(hbw15.block _ (by omega)).trans i_W0_w14.out
 clear i_W0_w14
 have i_x0_w15:Hid (w15.heap[w7.heap.size]?=some (.cells #[I O xL0_0,I O xL0_1,Sz ax0_2 nx0_2 cx0_2,I O xL0_3,I O xL0_4,.bool xL0_5,I O xL0_6,Sz ax0_7 nx0_7 cx0_7,Sz ax0_8 nx0_8 cx0_8,I O xL0_9] 31 (0,0))):=(hbw15.block _ (by omega)).trans i_x0_w14.out
 clear i_x0_w14
 have i_g0_w15:Hid (w15.heap[w10.heap.size]?=some (.cells #[I O xO0_0,I O xO0_1,Sz ag0_2 ng0_2 cg0_2,I O xO0_3,I O xO0_4,.bool xO0_5,I O xO0_6,Sz ag0_7 ng0_7 cg0_7,Sz ag0_8 ng0_8 cg0_8,I O xO0_9] 31 (0,0))):=(hbw15.block _ (by omega)).trans i_g0_w14.out
 clear i_g0_w14
 clear hbw15
 have lt_t1:Hid (∀ g ∈ F_t1,w14.heap.size≤g∧g < w15.heap.size):=p_t1.lt
 go_wp2_with fail
 refine(qeq1.out _ _ _ o_x1_w15.reads p_t1.reads HZ1.out).mono ?_
 rintro e w16 ⟨rfl,hbw16⟩
 have zw16:w15.heap.size≤w16.heap.size:=hbw16.size
 have bw16:=bw15.trans (hbw16.mono bw15.size)
 clear bw15
 have sw16:=sw15.trans (hbw16.mono sw15.size)
 clear sw15
 have o_x0_w16:=o_x0_w15.later hbw16
 clear o_x0_w15
 have o_x1_w16:=o_x1_w15.later hbw16
 clear o_x1_w15
 have o_g0_w16:=o_g0_w15.later hbw16
 clear o_g0_w15
 have o_t1_w16:=p_t1.later hbw16
 clear p_t1
 have i_a0_w16:Hid (w16.heap[w.heap.size]?=some (.cells #[I O xL0_0,I O xL0_1,Sz aA0_2 nA0_2 cA0_2,I O xL0_3,I O xL0_4,.bool xL0_5,I O xL0_6,Sz aA0_7 nA0_7 cA0_7,Sz aA0_8 nA0_8 cA0_8,I O xL0_9] 27 (0,0))):=(hbw16.block _ (by omega)).trans i_a0_w15.out
 clear i_a0_w15
 have i_W0_w16:Hid (w16.heap[w5.heap.size]?=some (.cells #[I O xO0_0,I O xO0_1,Sz aW0_2 nW0_2 cW0_2,I O xO0_3,I O xO0_4,.bool xO0_5,I O xO0_6,Sz aW0_7 nW0_7 cW0_7,Sz aW0_8 nW0_8 cW0_8,I O xO0_9] 31 (0,0))):=(hbw16.block _ (by omega)).trans i_W0_w15.out
 clear i_W0_w15
 have i_x0_w16:Hid (w16.heap[w7.heap.size]?=some (.cells #[I O xL0_0,I O xL0_1,Sz ax0_2 nx0_2 cx0_2,I O xL0_3,I O xL0_4,.bool xL0_5,I O xL0_6,Sz ax0_7 nx0_7 cx0_7,Sz ax0_8 nx0_8 cx0_8,I O xL0_9] 31 (0,0))):=(hbw16.block _ (by omega)).trans i_x0_w15.out
 clear i_x0_w15
 have i_g0_w16:Hid (w16.heap[w10.heap.size]?=some (.cells #[I O xO0_0,I O xO0_1,Sz ag0_2 ng0_2 cg0_2,I O xO0_3,I O xO0_4,.bool xO0_5,I O xO0_6,Sz ag0_7 ng0_7 cg0_7,Sz ag0_8 ng0_8 cg0_8,I O xO0_9] 31 (0,0))):=(hbw16.block _ (by omega)).trans i_g0_w15.out
 clear i_g0_w15
 clear hbw16
 clear o_t1_w16 nd_t1 lt_t1
 have zl_x0:w7.heap.size < w16.heap.size:=by omega
 have y_x0_0:w16.cell? ⟨w7.heap.size,0,none⟩=some (I O xL0_0):=bxc i_x0_w16.out rfl
 have y_x0_1:w16.cell? ⟨w7.heap.size,1,none⟩=some (I O xL0_1):=bxc i_x0_w16.out rfl
 have y_x0_2:w16.cell? ⟨w7.heap.size,2,none⟩=some (Sz ax0_2 nx0_2 cx0_2):=bxc i_x0_w16.out rfl
 have y_x0_3:w16.cell? ⟨w7.heap.size,3,none⟩=some (I O xL0_3):=bxc i_x0_w16.out rfl
 have y_x0_4:w16.cell? ⟨w7.heap.size,4,none⟩=some (I O xL0_4):=bxc i_x0_w16.out rfl
 have y_x0_5:w16.cell? ⟨w7.heap.size,5,none⟩=some (.bool xL0_5):=bxc i_x0_w16.out rfl
 have y_x0_6:w16.cell? ⟨w7.heap.size,6,none⟩=some (I O xL0_6):=bxc i_x0_w16.out rfl
 have y_x0_7:w16.cell? ⟨w7.heap.size,7,none⟩=some (Sz ax0_7 nx0_7 cx0_7):=bxc i_x0_w16.out rfl
 have y_x0_8:w16.cell? ⟨w7.heap.size,8,none⟩=some (Sz ax0_8 nx0_8 cx0_8):=bxc i_x0_w16.out rfl
 have y_x0_9:w16.cell? ⟨w7.heap.size,9,none⟩=some (I O xL0_9):=bxc i_x0_w16.out rfl
 go_wp2_with fail
 clear zl_x0 y_x0_0 y_x0_1 y_x0_2 y_x0_3 y_x0_4 y_x0_5 y_x0_6 y_x0_7 y_x0_8 y_x0_9
 refine(markVt_own _ _ (1) d0 F_x0 _ o_x0_w16 nd_x0 (by omega) (by omega)).mono ?_
 rintro e w17 ⟨rfl,p2_x0,htw17⟩
 have zw17:w16.heap.size≤w17.heap.size:=htw17.size
 have bw17:=htw17.below bw16 bw16.size (fun g hg=>by have h9:=(lt_x0.out g hg).1;omega)
 clear bw16
 have sw17:=htw17.below sw16 sw16.size (fun g hg=>by have h9:=(lt_x0.out g hg).1;omega)
 clear sw16
 clear o_x0_w16
 have o_x1_w17:=htw17.own o_x1_w16 (fun g hg hf=>by have h8:=lt_x1.out g hg;have h9:=lt_x0.out g hf;omega)
 clear o_x1_w16
 have o_g0_w17:=htw17.own o_g0_w16 (fun g hg hf=>by have h8:=lt_g0.out g hg;have h9:=lt_x0.out g hf;omega)
 clear o_g0_w16
 have i_a0_w17:Hid (w17.heap[w.heap.size]?=some (.cells #[I O xL0_0,I O xL0_1,Sz aA0_2 nA0_2 cA0_2,I O xL0_3,I O xL0_4,.bool xL0_5,I O xL0_6,Sz aA0_7 nA0_7 cA0_7,Sz aA0_8 nA0_8 cA0_8,I O xL0_9] 27 (0,0))):=(htw17.block _ (by omega) (fun hm=>by have h9:=lt_x0.out _ hm;omega)).trans i_a0_w16.out
 clear i_a0_w16
 have i_W0_w17:Hid (w17.heap[w5.heap.size]?=some (.cells #[I O xO0_0,I O xO0_1,Sz aW0_2 nW0_2 cW0_2,I O xO0_3,I O xO0_4,.bool xO0_5,I O xO0_6,Sz aW0_7 nW0_7 cW0_7,Sz aW0_8 nW0_8 cW0_8,I O xO0_9] 31 (0,0))):=(htw17.block _ (by omega) (fun hm=>by have h9:=lt_x0.out _ hm;omega)).trans i_W0_w16.out
 clear i_W0_w16
 have i_x0_w17:Hid (w17.heap[w7.heap.size]?=some (.cells #[I O xL0_0,I O xL0_1,Sz ax0_2 nx0_2 cx0_2,I O xL0_3,I O xL0_4,.bool xL0_5,I O xL0_6,Sz ax0_7 nx0_7 cx0_7,Sz ax0_8 nx0_8 cx0_8,I O xL0_9] 31 (0,0))):=(htw17.block _ (by omega) (fun hm=>by have h9:=lt_x0.out _ hm;omega)).trans i_x0_w16.out
 clear i_x0_w16
 have i_g0_w17:Hid (w17.heap[w10.heap.size]?=some (.cells #[I O xO0_0,I O xO0_1,Sz ag0_2 ng0_2 cg0_2,I O xO0_3,I O xO0_4,.bool xO0_5,I O xO0_6,Sz ag0_7 ng0_7 cg0_7,Sz ag0_8 ng0_8 cg0_8,I O xO0_9] 31 (0,0))):=(htw17.block _ (by omega) (fun hm=>by have h9:=lt_x0.out _ hm;omega)).trans i_g0_w16.out
 clear i_g0_w16
 clear htw17
 go_wp2_with fail
 refine(markByteS_v _ _ _ (1+shVt.cntV d0) d1 F_x1 _ (by first | rfl | omega | (simp;done)) o_x1_w17 nd_x1 (by omega) (by omega)).mono ?_
 rintro e w18 ⟨rfl,p2_x1,htw18⟩
 have zw18:w17.heap.size≤w18.heap.size:=htw18.size
 have bw18:=htw18.below bw17 bw17.size (fun g hg=>by have h9:=(lt_x1.out g hg).1;omega)
 clear bw17
 have sw18:=htw18.below sw17 sw17.size (fun g hg=>by have h9:=(lt_x1.out g hg).1;omega)
 clear sw17
 have o_x0_w18:=htw18.own p2_x0 (fun g hg hf=>by have h8:=lt_x0.out g hg;have h9:=lt_x1.out g hf;omega)
 clear p2_x0
 clear o_x1_w17
 have o_g0_w18:=htw18.own o_g0_w17 (fun g hg hf=>by have h8:=lt_g0.out g hg;have h9:=lt_x1.out g hf;omega)
 clear o_g0_w17
 have i_a0_w18:Hid (w18.heap[w.heap.size]?=some (.cells #[I O xL0_0,I O xL0_1,Sz aA0_2 nA0_2 cA0_2,I O xL0_3,I O xL0_4,.bool xL0_5,I O xL0_6,Sz aA0_7 nA0_7 cA0_7,Sz aA0_8 nA0_8 cA0_8,I O xL0_9] 27 (0,0))):=(htw18.block _ (by omega) (fun hm=>by have h9:=lt_x1.out _ hm;omega)).trans i_a0_w17.out
 clear i_a0_w17
 have i_W0_w18:Hid (w18.heap[w5.heap.size]?=some (.cells #[I O xO0_0,I O xO0_1,Sz aW0_2 nW0_2 cW0_2,I O xO0_3,I O xO0_4,.bool xO0_5,I O xO0_6,Sz aW0_7 nW0_7 cW0_7,Sz aW0_8 nW0_8 cW0_8,I O xO0_9] 31 (0,0))):=(htw18.block _ (by omega) (fun hm=>by have h9:=lt_x1.out _ hm;omega)).trans i_W0_w17.out
 clear i_W0_w17
 have i_x0_w18:Hid (w18.heap[w7.heap.size]?=some (.cells #[I O xL0_0,I O xL0_1,Sz ax0_2 nx0_2 cx0_2,I O xL0_3,I O xL0_4,.bool xL0_5,I O xL0_6,Sz ax0_7 nx0_7 cx0_7,Sz ax0_8 nx0_8 cx0_8,I O xL0_9] 31 (0,0))):=(htw18.block _ (by omega) (fun hm=>by have h9:=lt_x1.out _ hm;omega)).trans i_x0_w17.out
 clear i_x0_w17
 have i_g0_w18:Hid (w18.heap[w10.heap.size]?=some (.cells #[I O xO0_0,I O xO0_1,Sz ag0_2 ng0_2 cg0_2,I O xO0_3,I O xO0_4,.bool xO0_5,I O xO0_6,Sz ag0_7 ng0_7 cg0_7,Sz ag0_8 ng0_8 cg0_8,I O xO0_9] 31 (0,0))):=(htw18.block _ (by omega) (fun hm=>by have h9:=lt_x1.out _ hm;omega)).trans i_g0_w17.out
 clear i_g0_w17
 clear htw18
 have hkk:¬ (((1+shVt.cntV d0+Sh.cnt (.sl .u8) d1:Nat):Int) < 0):=by omega
 clear o_x0_w18 nd_x0 lt_x0
 clear p2_x1 nd_x1 lt_x1
 have zl_g0:w10.heap.size < w18.heap.size:=by omega
 have y_g0_0:w18.cell? ⟨w10.heap.size,0,none⟩=some (I O xO0_0):=bxc i_g0_w18.out rfl
 have y_g0_1:w18.cell? ⟨w10.heap.size,1,none⟩=some (I O xO0_1):=bxc i_g0_w18.out rfl
 have y_g0_2:w18.cell? ⟨w10.heap.size,2,none⟩=some (Sz ag0_2 ng0_2 cg0_2):=bxc i_g0_w18.out rfl
 have y_g0_3:w18.cell? ⟨w10.heap.size,3,none⟩=some (I O xO0_3):=bxc i_g0_w18.out rfl
 have y_g0_4:w18.cell? ⟨w10.heap.size,4,none⟩=some (I O xO0_4):=bxc i_g0_w18.out rfl
 have y_g0_5:w18.cell? ⟨w10.heap.size,5,none⟩=some (.bool xO0_5):=bxc i_g0_w18.out rfl
 have y_g0_6:w18.cell? ⟨w10.heap.size,6,none⟩=some (I O xO0_6):=bxc i_g0_w18.out rfl
 have y_g0_7:w18.cell? ⟨w10.heap.size,7,none⟩=some (Sz ag0_7 ng0_7 cg0_7):=bxc i_g0_w18.out rfl
 have y_g0_8:w18.cell? ⟨w10.heap.size,8,none⟩=some (Sz ag0_8 ng0_8 cg0_8):=bxc i_g0_w18.out rfl
 have y_g0_9:w18.cell? ⟨w10.heap.size,9,none⟩=some (I O xO0_9):=bxc i_g0_w18.out rfl
 have zl_W0:w5.heap.size < w18.heap.size:=by omega
 have y_W0_0:w18.cell? ⟨w5.heap.size,0,none⟩=some (I O xO0_0):=bxc i_W0_w18.out rfl
 have y_W0_1:w18.cell? ⟨w5.heap.size,1,none⟩=some (I O xO0_1):=bxc i_W0_w18.out rfl
 have y_W0_2:w18.cell? ⟨w5.heap.size,2,none⟩=some (Sz aW0_2 nW0_2 cW0_2):=bxc i_W0_w18.out rfl
 have y_W0_3:w18.cell? ⟨w5.heap.size,3,none⟩=some (I O xO0_3):=bxc i_W0_w18.out rfl
 have y_W0_4:w18.cell? ⟨w5.heap.size,4,none⟩=some (I O xO0_4):=bxc i_W0_w18.out rfl
 have y_W0_5:w18.cell? ⟨w5.heap.size,5,none⟩=some (.bool xO0_5):=bxc i_W0_w18.out rfl
 have y_W0_6:w18.cell? ⟨w5.heap.size,6,none⟩=some (I O xO0_6):=bxc i_W0_w18.out rfl
 have y_W0_7:w18.cell? ⟨w5.heap.size,7,none⟩=some (Sz aW0_7 nW0_7 cW0_7):=bxc i_W0_w18.out rfl
 have y_W0_8:w18.cell? ⟨w5.heap.size,8,none⟩=some (Sz aW0_8 nW0_8 cW0_8):=bxc i_W0_w18.out rfl
 have y_W0_9:w18.cell? ⟨w5.heap.size,9,none⟩=some (I O xO0_9):=bxc i_W0_w18.out rfl
 go_wp2_with fail
 clear zl_g0 y_g0_0 y_g0_1 y_g0_2 y_g0_3 y_g0_4 y_g0_5 y_g0_6 y_g0_7 y_g0_8 y_g0_9 zl_W0 y_W0_0 y_W0_1 y_W0_2 y_W0_3 y_W0_4 y_W0_5 y_W0_6 y_W0_7 y_W0_8 y_W0_9
 refine(eqVt_any _ _ D0 _ o_g0_w18.reads (RW0.out.later sw18) HD0.out.1).mono ?_
 rintro e w19 ⟨rfl,hbw19⟩
 have zw19:w18.heap.size≤w19.heap.size:=hbw19.size
 have bw19:=bw18.trans (hbw19.mono bw18.size)
 clear bw18
 have sw19:=sw18.trans (hbw19.mono sw18.size)
 clear sw18
 have o_g0_w19:=o_g0_w18.later hbw19
 clear o_g0_w18
 have i_a0_w19:Hid (w19.heap[w.heap.size]?=some (.cells #[I O xL0_0,I O xL0_1,Sz aA0_2 nA0_2 cA0_2,I O xL0_3,I O xL0_4,.bool xL0_5,I O xL0_6,Sz aA0_7 nA0_7 cA0_7,Sz aA0_8 nA0_8 cA0_8,I O xL0_9] 27 (0,0))):=(hbw19.block _ (by omega)).trans i_a0_w18.out
 clear i_a0_w18
 have i_W0_w19:Hid (w19.heap[w5.heap.size]?=some (.cells #[I O xO0_0,I O xO0_1,Sz aW0_2 nW0_2 cW0_2,I O xO0_3,I O xO0_4,.bool xO0_5,I O xO0_6,Sz aW0_7 nW0_7 cW0_7,Sz aW0_8 nW0_8 cW0_8,I O xO0_9] 31 (0,0))):=(hbw19.block _ (by omega)).trans i_W0_w18.out
 clear i_W0_w18
 have i_g0_w19:Hid (w19.heap[w10.heap.size]?=some (.cells #[I O xO0_0,I O xO0_1,Sz ag0_2 ng0_2 cg0_2,I O xO0_3,I O xO0_4,.bool xO0_5,I O xO0_6,Sz ag0_7 ng0_7 cg0_7,Sz ag0_8 ng0_8 cg0_8,I O xO0_9] 31 (0,0))):=(hbw19.block _ (by omega)).trans i_g0_w18.out
 clear i_g0_w18
 clear hbw19
 clear hkk
 have hcj0:=HD0.out.2
 have zl_g0:w10.heap.size < w19.heap.size:=by omega
 have y_g0_0:w19.cell? ⟨w10.heap.size,0,none⟩=some (I O xO0_0):=bxc i_g0_w19.out rfl
 have y_g0_1:w19.cell? ⟨w10.heap.size,1,none⟩=some (I O xO0_1):=bxc i_g0_w19.out rfl
 have y_g0_2:w19.cell? ⟨w10.heap.size,2,none⟩=some (Sz ag0_2 ng0_2 cg0_2):=bxc i_g0_w19.out rfl
 have y_g0_3:w19.cell? ⟨w10.heap.size,3,none⟩=some (I O xO0_3):=bxc i_g0_w19.out rfl
 have y_g0_4:w19.cell? ⟨w10.heap.size,4,none⟩=some (I O xO0_4):=bxc i_g0_w19.out rfl
 have y_g0_5:w19.cell? ⟨w10.heap.size,5,none⟩=some (.bool xO0_5):=bxc i_g0_w19.out rfl
 have y_g0_6:w19.cell? ⟨w10.heap.size,6,none⟩=some (I O xO0_6):=bxc i_g0_w19.out rfl
 have y_g0_7:w19.cell? ⟨w10.heap.size,7,none⟩=some (Sz ag0_7 ng0_7 cg0_7):=bxc i_g0_w19.out rfl
 have y_g0_8:w19.cell? ⟨w10.heap.size,8,none⟩=some (Sz ag0_8 ng0_8 cg0_8):=bxc i_g0_w19.out rfl
 have y_g0_9:w19.cell? ⟨w10.heap.size,9,none⟩=some (I O xO0_9):=bxc i_g0_w19.out rfl
 go_wp2_with fail
 clear zl_g0 y_g0_0 y_g0_1 y_g0_2 y_g0_3 y_g0_4 y_g0_5 y_g0_6 y_g0_7 y_g0_8 y_g0_9
 refine(markVt_own _ _ (1) D0 F_g0 _ o_g0_w19 nd_g0 (by omega) (by omega)).mono ?_
 rintro e w20 ⟨rfl,p2_g0,htw20⟩
 have zw20:w19.heap.size≤w20.heap.size:=htw20.size
 have bw20:=htw20.below bw19 bw19.size (fun g hg=>by have h9:=(lt_g0.out g hg).1;omega)
 clear bw19
 have sw20:=htw20.below sw19 sw19.size (fun g hg=>by have h9:=(lt_g0.out g hg).1;omega)
 clear sw19
 clear o_g0_w19
 have i_a0_w20:Hid (w20.heap[w.heap.size]?=some (.cells #[I O xL0_0,I O xL0_1,Sz aA0_2 nA0_2 cA0_2,I O xL0_3,I O xL0_4,.bool xL0_5,I O xL0_6,Sz aA0_7 nA0_7 cA0_7,Sz aA0_8 nA0_8 cA0_8,I O xL0_9] 27 (0,0))):=(htw20.block _ (by omega) (fun hm=>by have h9:=lt_g0.out _ hm;omega)).trans i_a0_w19.out
 clear i_a0_w19
 have i_W0_w20:Hid (w20.heap[w5.heap.size]?=some (.cells #[I O xO0_0,I O xO0_1,Sz aW0_2 nW0_2 cW0_2,I O xO0_3,I O xO0_4,.bool xO0_5,I O xO0_6,Sz aW0_7 nW0_7 cW0_7,Sz aW0_8 nW0_8 cW0_8,I O xO0_9] 31 (0,0))):=(htw20.block _ (by omega) (fun hm=>by have h9:=lt_g0.out _ hm;omega)).trans i_W0_w19.out
 clear i_W0_w19
 have i_g0_w20:Hid (w20.heap[w10.heap.size]?=some (.cells #[I O xO0_0,I O xO0_1,Sz ag0_2 ng0_2 cg0_2,I O xO0_3,I O xO0_4,.bool xO0_5,I O xO0_6,Sz ag0_7 ng0_7 cg0_7,Sz ag0_8 ng0_8 cg0_8,I O xO0_9] 31 (0,0))):=(htw20.block _ (by omega) (fun hm=>by have h9:=lt_g0.out _ hm;omega)).trans i_g0_w19.out
 clear i_g0_w19
 clear htw20
 have hqq:¬ (((1+shVt.cntV D0:Nat):Int) < 0):=by omega
 have hmm:((((1+shVt.cntV D0:Nat):Int)) != (((1+shVt.cntV D0:Nat):Int)))=false:=by simp
 have zl_g0:w10.heap.size < w20.heap.size:=by omega
 have y_g0_0:w20.cell? ⟨w10.heap.size,0,none⟩=some (I O xO0_0):=bxc i_g0_w20.out rfl
 have y_g0_1:w20.cell? ⟨w10.heap.size,1,none⟩=some (I O xO0_1):=bxc i_g0_w20.out rfl
 have y_g0_2:w20.cell? ⟨w10.heap.size,2,none⟩=some (Sz ag0_2 ng0_2 cg0_2):=bxc i_g0_w20.out rfl
 have y_g0_3:w20.cell? ⟨w10.heap.size,3,none⟩=some (I O xO0_3):=bxc i_g0_w20.out rfl
 have y_g0_4:w20.cell? ⟨w10.heap.size,4,none⟩=some (I O xO0_4):=bxc i_g0_w20.out rfl
 have y_g0_5:w20.cell? ⟨w10.heap.size,5,none⟩=some (.bool xO0_5):=bxc i_g0_w20.out rfl
 have y_g0_6:w20.cell? ⟨w10.heap.size,6,none⟩=some (I O xO0_6):=bxc i_g0_w20.out rfl
 have y_g0_7:w20.cell? ⟨w10.heap.size,7,none⟩=some (Sz ag0_7 ng0_7 cg0_7):=bxc i_g0_w20.out rfl
 have y_g0_8:w20.cell? ⟨w10.heap.size,8,none⟩=some (Sz ag0_8 ng0_8 cg0_8):=bxc i_g0_w20.out rfl
 have y_g0_9:w20.cell? ⟨w10.heap.size,9,none⟩=some (I O xO0_9):=bxc i_g0_w20.out rfl
 go_wp2_with fail
 clear zl_g0 y_g0_0 y_g0_1 y_g0_2 y_g0_3 y_g0_4 y_g0_5 y_g0_6 y_g0_7 y_g0_8 y_g0_9
 refine(heldVt_own _ _ (1) D0 F_g0 _ p2_g0 nd_g0 (by omega) (by omega)).mono ?_
 rintro e w21 ⟨rfl,hbw21⟩
 have zw21:w20.heap.size≤w21.heap.size:=hbw21.size
 have bw21:=bw20.trans (hbw21.mono bw20.size)
 clear bw20
 have sw21:=sw20.trans (hbw21.mono sw20.size)
 clear sw20
 have o_g0_w21:=p2_g0.later hbw21
 clear p2_g0
 have i_a0_w21:Hid (w21.heap[w.heap.size]?=some (.cells #[I O xL0_0,I O xL0_1,Sz aA0_2 nA0_2 cA0_2,I O xL0_3,I O xL0_4,.bool xL0_5,I O xL0_6,Sz aA0_7 nA0_7 cA0_7,Sz aA0_8 nA0_8 cA0_8,I O xL0_9] 27 (0,0))):=(hbw21.block _ (by omega)).trans i_a0_w20.out
 clear i_a0_w20
 have i_W0_w21:Hid (w21.heap[w5.heap.size]?=some (.cells #[I O xO0_0,I O xO0_1,Sz aW0_2 nW0_2 cW0_2,I O xO0_3,I O xO0_4,.bool xO0_5,I O xO0_6,Sz aW0_7 nW0_7 cW0_7,Sz aW0_8 nW0_8 cW0_8,I O xO0_9] 31 (0,0))):=(hbw21.block _ (by omega)).trans i_W0_w20.out
 clear i_W0_w20
 have i_g0_w21:Hid (w21.heap[w10.heap.size]?=some (.cells #[I O xO0_0,I O xO0_1,Sz ag0_2 ng0_2 cg0_2,I O xO0_3,I O xO0_4,.bool xO0_5,I O xO0_6,Sz ag0_7 ng0_7 cg0_7,Sz ag0_8 ng0_8 cg0_8,I O xO0_9] 31 (0,0))):=(hbw21.block _ (by omega)).trans i_g0_w20.out
 clear i_g0_w20
 clear hbw21
 have zl_a0:w.heap.size < w21.heap.size:=by omega
 have y_a0_0:w21.cell? ⟨w.heap.size,0,none⟩=some (I O xL0_0):=bxc i_a0_w21.out rfl
 have y_a0_1:w21.cell? ⟨w.heap.size,1,none⟩=some (I O xL0_1):=bxc i_a0_w21.out rfl
 have y_a0_2:w21.cell? ⟨w.heap.size,2,none⟩=some (Sz aA0_2 nA0_2 cA0_2):=bxc i_a0_w21.out rfl
 have y_a0_3:w21.cell? ⟨w.heap.size,3,none⟩=some (I O xL0_3):=bxc i_a0_w21.out rfl
 have y_a0_4:w21.cell? ⟨w.heap.size,4,none⟩=some (I O xL0_4):=bxc i_a0_w21.out rfl
 have y_a0_5:w21.cell? ⟨w.heap.size,5,none⟩=some (.bool xL0_5):=bxc i_a0_w21.out rfl
 have y_a0_6:w21.cell? ⟨w.heap.size,6,none⟩=some (I O xL0_6):=bxc i_a0_w21.out rfl
 have y_a0_7:w21.cell? ⟨w.heap.size,7,none⟩=some (Sz aA0_7 nA0_7 cA0_7):=bxc i_a0_w21.out rfl
 have y_a0_8:w21.cell? ⟨w.heap.size,8,none⟩=some (Sz aA0_8 nA0_8 cA0_8):=bxc i_a0_w21.out rfl
 have y_a0_9:w21.cell? ⟨w.heap.size,9,none⟩=some (I O xL0_9):=bxc i_a0_w21.out rfl
 go_wp2_with fail
 clear zl_a0 y_a0_0 y_a0_1 y_a0_2 y_a0_3 y_a0_4 y_a0_5 y_a0_6 y_a0_7 y_a0_8 y_a0_9
 refine(qto0.out _ bw21 HZ0.out).mono ?_
 rintro e w22 ⟨cs_h0,F_h0,he_h0,p_h0,nd_h0,hbw22⟩
 have zw22:w21.heap.size≤w22.heap.size:=hbw22.size
 have bw22:=bw21.trans (hbw22.mono bw21.size)
 clear bw21
 have sw22:=sw21.trans (hbw22.mono sw21.size)
 clear sw21
 have o_g0_w22:=o_g0_w21.later hbw22
 clear o_g0_w21
 have i_a0_w22:Hid (w22.heap[w.heap.size]?=some (.cells #[I O xL0_0,I O xL0_1,Sz aA0_2 nA0_2 cA0_2,I O xL0_3,I O xL0_4,.bool xL0_5,I O xL0_6,Sz aA0_7 nA0_7 cA0_7,Sz aA0_8 nA0_8 cA0_8,I O xL0_9] 27 (0,0))):=(hbw22.block _ (by omega)).trans i_a0_w21.out
 clear i_a0_w21
 have i_W0_w22:Hid (w22.heap[w5.heap.size]?=some (.cells #[I O xO0_0,I O xO0_1,Sz aW0_2 nW0_2 cW0_2,I O xO0_3,I O xO0_4,.bool xO0_5,I O xO0_6,Sz aW0_7 nW0_7 cW0_7,Sz aW0_8 nW0_8 cW0_8,I O xO0_9] 31 (0,0))):=(hbw22.block _ (by omega)).trans i_W0_w21.out
 clear i_W0_w21
 have i_g0_w22:Hid (w22.heap[w10.heap.size]?=some (.cells #[I O xO0_0,I O xO0_1,Sz ag0_2 ng0_2 cg0_2,I O xO0_3,I O xO0_4,.bool xO0_5,I O xO0_6,Sz ag0_7 ng0_7 cg0_7,Sz ag0_8 ng0_8 cg0_8,I O xO0_9] 31 (0,0))):=(hbw22.block _ (by omega)).trans i_g0_w21.out
 clear i_g0_w21
 clear hbw22
 have lt_h0:Hid (∀ g ∈ F_h0,w21.heap.size≤g∧g < w22.heap.size):=p_h0.lt
 obtain⟨ah0_2,nh0_2,ch0_2,ah0_7,nh0_7,ch0_7,ah0_8,nh0_8,ch0_8,hq_h0,_⟩:=open_Vt p_h0.reads
 rw[← HEL0.out.1,← HEL0.out.2.1,← HEL0.out.2.2.1,← HEL0.out.2.2.2.1,← HEL0.out.2.2.2.2.1,← HEL0.out.2.2.2.2.2.1,← HEL0.out.2.2.2.2.2.2.1] at hq_h0
 subst hq_h0
 subst he_h0
 go_wp2_with fail
 refine(qto1.out _ bw22 HZ1.out).mono ?_
 rintro e w23 ⟨u_h1,F_h1,rfl,p_h1,nd_h1,hbw23⟩
 have zw23:w22.heap.size≤w23.heap.size:=hbw23.size
 have bw23:=bw22.trans (hbw23.mono bw22.size)
 clear bw22
 have sw23:=sw22.trans (hbw23.mono sw22.size)
 clear sw22
 have o_g0_w23:=o_g0_w22.later hbw23
 clear o_g0_w22
 have o_h0_w23:=p_h0.later hbw23
 clear p_h0
 have i_a0_w23:Hid (w23.heap[w.heap.size]?=some (.cells #[I O xL0_0,I O xL0_1,Sz aA0_2 nA0_2 cA0_2,I O xL0_3,I O xL0_4,.bool xL0_5,I O xL0_6,Sz aA0_7 nA0_7 cA0_7,Sz aA0_8 nA0_8 cA0_8,I O xL0_9] 27 (0,0))):=(hbw23.block _ (by omega)).trans i_a0_w22.out
 clear i_a0_w22
 have i_W0_w23:Hid (w23.heap[w5.heap.size]?=some (.cells #[I O xO0_0,I O xO0_1,Sz aW0_2 nW0_2 cW0_2,I O xO0_3,I O xO0_4,.bool xO0_5,I O xO0_6,Sz aW0_7 nW0_7 cW0_7,Sz aW0_8 nW0_8 cW0_8,I O xO0_9] 31 (0,0))):=(hbw23.block _ (by omega)).trans i_W0_w22.out
 clear i_W0_w22
 have i_g0_w23:Hid (w23.heap[w10.heap.size]?=some (.cells #[I O xO0_0,I O xO0_1,Sz ag0_2 ng0_2 cg0_2,I O xO0_3,I O xO0_4,.bool xO0_5,I O xO0_6,Sz ag0_7 ng0_7 cg0_7,Sz ag0_8 ng0_8 cg0_8,I O xO0_9] 31 (0,0))):=(hbw23.block _ (by omega)).trans i_g0_w22.out
 clear i_g0_w22
 clear hbw23
 have lt_h1:Hid (∀ g ∈ F_h1,w22.heap.size≤g∧g < w23.heap.size):=p_h1.lt
 go_wp2_with fail
 refine(qI.out _ _ _ _ _ (o_h0_w23.base (Nat.zero_le _)) (p_h1.base (Nat.zero_le _)) HZ0.out HZ1.out bw23).mono ?_
 rintro e w24 ⟨k0,F_k0,he_k,p_k0,nd_k0,hbw24⟩
 have zw24:w23.heap.size≤w24.heap.size:=hbw24.size
 have bw24:=bw23.trans (hbw24.mono bw23.size)
 clear bw23
 have sw24:=sw23.trans (hbw24.mono sw23.size)
 clear sw23
 have o_g0_w24:=o_g0_w23.later hbw24
 clear o_g0_w23
 have o_h0_w24:=o_h0_w23.later hbw24
 clear o_h0_w23
 have o_h1_w24:=p_h1.later hbw24
 clear p_h1
 have i_a0_w24:Hid (w24.heap[w.heap.size]?=some (.cells #[I O xL0_0,I O xL0_1,Sz aA0_2 nA0_2 cA0_2,I O xL0_3,I O xL0_4,.bool xL0_5,I O xL0_6,Sz aA0_7 nA0_7 cA0_7,Sz aA0_8 nA0_8 cA0_8,I O xL0_9] 27 (0,0))):=(hbw24.block _ (by omega)).trans i_a0_w23.out
 clear i_a0_w23
 have i_W0_w24:Hid (w24.heap[w5.heap.size]?=some (.cells #[I O xO0_0,I O xO0_1,Sz aW0_2 nW0_2 cW0_2,I O xO0_3,I O xO0_4,.bool xO0_5,I O xO0_6,Sz aW0_7 nW0_7 cW0_7,Sz aW0_8 nW0_8 cW0_8,I O xO0_9] 31 (0,0))):=(hbw24.block _ (by omega)).trans i_W0_w23.out
 clear i_W0_w23
 have i_g0_w24:Hid (w24.heap[w10.heap.size]?=some (.cells #[I O xO0_0,I O xO0_1,Sz ag0_2 ng0_2 cg0_2,I O xO0_3,I O xO0_4,.bool xO0_5,I O xO0_6,Sz ag0_7 ng0_7 cg0_7,Sz ag0_8 ng0_8 cg0_8,I O xO0_9] 31 (0,0))):=(hbw24.block _ (by omega)).trans i_g0_w23.out
 clear i_g0_w23
 clear hbw24
 have lt_k0:Hid (∀ g ∈ F_k0,w23.heap.size≤g∧g < w24.heap.size):=p_k0.lt
 obtain⟨ak0_2,nk0_2,ck0_2,ak0_7,nk0_7,ck0_7,ak0_8,nk0_8,ck0_8,hq_k0,_⟩:=open_Vt p_k0.reads
 rw[← HEO0.out.1,← HEO0.out.2.1,← HEO0.out.2.2.1,← HEO0.out.2.2.2.1,← HEO0.out.2.2.2.2.1,← HEO0.out.2.2.2.2.2.1,← HEO0.out.2.2.2.2.2.2.1] at hq_k0
 subst hq_k0
 subst he_k
 have zl_W0:w5.heap.size < w24.heap.size:=by omega
 have y_W0_0:w24.cell? ⟨w5.heap.size,0,none⟩=some (I O xO0_0):=bxc i_W0_w24.out rfl
 have y_W0_1:w24.cell? ⟨w5.heap.size,1,none⟩=some (I O xO0_1):=bxc i_W0_w24.out rfl
 have y_W0_2:w24.cell? ⟨w5.heap.size,2,none⟩=some (Sz aW0_2 nW0_2 cW0_2):=bxc i_W0_w24.out rfl
 have y_W0_3:w24.cell? ⟨w5.heap.size,3,none⟩=some (I O xO0_3):=bxc i_W0_w24.out rfl
 have y_W0_4:w24.cell? ⟨w5.heap.size,4,none⟩=some (I O xO0_4):=bxc i_W0_w24.out rfl
 have y_W0_5:w24.cell? ⟨w5.heap.size,5,none⟩=some (.bool xO0_5):=bxc i_W0_w24.out rfl
 have y_W0_6:w24.cell? ⟨w5.heap.size,6,none⟩=some (I O xO0_6):=bxc i_W0_w24.out rfl
 have y_W0_7:w24.cell? ⟨w5.heap.size,7,none⟩=some (Sz aW0_7 nW0_7 cW0_7):=bxc i_W0_w24.out rfl
 have y_W0_8:w24.cell? ⟨w5.heap.size,8,none⟩=some (Sz aW0_8 nW0_8 cW0_8):=bxc i_W0_w24.out rfl
 have y_W0_9:w24.cell? ⟨w5.heap.size,9,none⟩=some (I O xO0_9):=bxc i_W0_w24.out rfl
 go_wp2_with fail
 clear zl_W0 y_W0_0 y_W0_1 y_W0_2 y_W0_3 y_W0_4 y_W0_5 y_W0_6 y_W0_7 y_W0_8 y_W0_9
 obtain⟨w25,hw25⟩:∃ W,W=w24.alloc (.cells #[I O xO0_0,I O xO0_1,Sz ak0_2 nk0_2 ck0_2,I O xO0_3,I O xO0_4,.bool xO0_5,I O xO0_6,Sz ak0_7 nk0_7 ck0_7,Sz ak0_8 nk0_8 ck0_8,I O xO0_9] 31):=⟨_,rfl⟩
 have hbw25:Below w24.heap.size w24 w25:=by rw[hw25];exact(Below.refl _ _).alloc (Nat.le_refl _) _
 have i_k0_w25:Hid (w25.heap[w24.heap.size]?=some (.cells #[I O xO0_0,I O xO0_1,Sz ak0_2 nk0_2 ck0_2,I O xO0_3,I O xO0_4,.bool xO0_5,I O xO0_6,Sz ak0_7 nk0_7 ck0_7,Sz ak0_8 nk0_8 ck0_8,I O xO0_9] 31 (0,0))):=by show _=_;rw[hw25];exact heap_alloc_new w24 _
 have zzw25:w25.heap.size=w24.heap.size+1:=by rw[hw25];simp
 rw[← hw25]
 clear hw25
 have zw25:w24.heap.size≤w25.heap.size:=hbw25.size
 have bw25:=bw24.trans (hbw25.mono bw24.size)
 clear bw24
 have sw25:=sw24.trans (hbw25.mono sw24.size)
 clear sw24
 have o_g0_w25:=o_g0_w24.later hbw25
 clear o_g0_w24
 have o_h0_w25:=o_h0_w24.later hbw25
 clear o_h0_w24
 have o_h1_w25:=o_h1_w24.later hbw25
 clear o_h1_w24
 have o_k0_w25:=p_k0.later hbw25
 clear p_k0
 have i_a0_w25:Hid (w25.heap[w.heap.size]?=some (.cells #[I O xL0_0,I O xL0_1,Sz aA0_2 nA0_2 cA0_2,I O xL0_3,I O xL0_4,.bool xL0_5,I O xL0_6,Sz aA0_7 nA0_7 cA0_7,Sz aA0_8 nA0_8 cA0_8,I O xL0_9] 27 (0,0))):=(hbw25.block _ (by omega)).trans i_a0_w24.out
 clear i_a0_w24
 have i_W0_w25:Hid (w25.heap[w5.heap.size]?=some (.cells #[I O xO0_0,I O xO0_1,Sz aW0_2 nW0_2 cW0_2,I O xO0_3,I O xO0_4,.bool xO0_5,I O xO0_6,Sz aW0_7 nW0_7 cW0_7,Sz aW0_8 nW0_8 cW0_8,I O xO0_9] 31 (0,0))):=(hbw25.block _ (by omega)).trans i_W0_w24.out
 clear i_W0_w24
 have i_g0_w25:Hid (w25.heap[w10.heap.size]?=some (.cells #[I O xO0_0,I O xO0_1,Sz ag0_2 ng0_2 cg0_2,I O xO0_3,I O xO0_4,.bool xO0_5,I O xO0_6,Sz ag0_7 ng0_7 cg0_7,Sz ag0_8 ng0_8 cg0_8,I O xO0_9] 31 (0,0))):=(hbw25.block _ (by omega)).trans i_g0_w24.out
 clear i_g0_w24
 clear hbw25
 refine(eqVt_any _ _ D0 _ o_k0_w25.reads (RW0.out.later sw25) HD0.out.1).mono ?_
 rintro e w26 ⟨rfl,hbw26⟩
 have zw26:w25.heap.size≤w26.heap.size:=hbw26.size
 have bw26:=bw25.trans (hbw26.mono bw25.size)
 clear bw25
 have sw26:=sw25.trans (hbw26.mono sw25.size)
 clear sw25
 have o_g0_w26:=o_g0_w25.later hbw26
 clear o_g0_w25
 have o_h0_w26:=o_h0_w25.later hbw26
 clear o_h0_w25
 have o_h1_w26:=o_h1_w25.later hbw26
 clear o_h1_w25
 have o_k0_w26:=o_k0_w25.later hbw26
 clear o_k0_w25
 have i_a0_w26:Hid (w26.heap[w.heap.size]?=some (.cells #[I O xL0_0,I O xL0_1,Sz aA0_2 nA0_2 cA0_2,I O xL0_3,I O xL0_4,.bool xL0_5,I O xL0_6,Sz aA0_7 nA0_7 cA0_7,Sz aA0_8 nA0_8 cA0_8,I O xL0_9] 27 (0,0))):=(hbw26.block _ (by omega)).trans i_a0_w25.out
 clear i_a0_w25
 have i_W0_w26:Hid (w26.heap[w5.heap.size]?=some (.cells #[I O xO0_0,I O xO0_1,Sz aW0_2 nW0_2 cW0_2,I O xO0_3,I O xO0_4,.bool xO0_5,I O xO0_6,Sz aW0_7 nW0_7 cW0_7,Sz aW0_8 nW0_8 cW0_8,I O xO0_9] 31 (0,0))):=(hbw26.block _ (by omega)).trans i_W0_w25.out
 clear i_W0_w25
 have i_g0_w26:Hid (w26.heap[w10.heap.size]?=some (.cells #[I O xO0_0,I O xO0_1,Sz ag0_2 ng0_2 cg0_2,I O xO0_3,I O xO0_4,.bool xO0_5,I O xO0_6,Sz ag0_7 ng0_7 cg0_7,Sz ag0_8 ng0_8 cg0_8,I O xO0_9] 31 (0,0))):=(hbw26.block _ (by omega)).trans i_g0_w25.out
 clear i_g0_w25
 have i_k0_w26:Hid (w26.heap[w24.heap.size]?=some (.cells #[I O xO0_0,I O xO0_1,Sz ak0_2 nk0_2 ck0_2,I O xO0_3,I O xO0_4,.bool xO0_5,I O xO0_6,Sz ak0_7 nk0_7 ck0_7,Sz ak0_8 nk0_8 ck0_8,I O xO0_9] 31 (0,0))):=(hbw26.block _ (by omega)).trans i_k0_w25.out
 clear i_k0_w25
 clear hbw26
 have zl_g0:w10.heap.size < w26.heap.size:=by omega
 have y_g0_0:w26.cell? ⟨w10.heap.size,0,none⟩=some (I O xO0_0):=bxc i_g0_w26.out rfl
 have y_g0_1:w26.cell? ⟨w10.heap.size,1,none⟩=some (I O xO0_1):=bxc i_g0_w26.out rfl
 have y_g0_2:w26.cell? ⟨w10.heap.size,2,none⟩=some (Sz ag0_2 ng0_2 cg0_2):=bxc i_g0_w26.out rfl
 have y_g0_3:w26.cell? ⟨w10.heap.size,3,none⟩=some (I O xO0_3):=bxc i_g0_w26.out rfl
 have y_g0_4:w26.cell? ⟨w10.heap.size,4,none⟩=some (I O xO0_4):=bxc i_g0_w26.out rfl
 have y_g0_5:w26.cell? ⟨w10.heap.size,5,none⟩=some (.bool xO0_5):=bxc i_g0_w26.out rfl
 have y_g0_6:w26.cell? ⟨w10.heap.size,6,none⟩=some (I O xO0_6):=bxc i_g0_w26.out rfl
 have y_g0_7:w26.cell? ⟨w10.heap.size,7,none⟩=some (Sz ag0_7 ng0_7 cg0_7):=bxc i_g0_w26.out rfl
 have y_g0_8:w26.cell? ⟨w10.heap.size,8,none⟩=some (Sz ag0_8 ng0_8 cg0_8):=bxc i_g0_w26.out rfl
 have y_g0_9:w26.cell? ⟨w10.heap.size,9,none⟩=some (I O xO0_9):=bxc i_g0_w26.out rfl
 go_wp2_with fail
 clear zl_g0 y_g0_0 y_g0_1 y_g0_2 y_g0_3 y_g0_4 y_g0_5 y_g0_6 y_g0_7 y_g0_8 y_g0_9
 refine(heldVt_own _ _ (1) D0 F_g0 _ o_g0_w26 nd_g0 (by omega) (by omega)).mono ?_
 rintro e w27 ⟨rfl,hbw27⟩
 have zw27:w26.heap.size≤w27.heap.size:=hbw27.size
 have bw27:=bw26.trans (hbw27.mono bw26.size)
 clear bw26
 have sw27:=sw26.trans (hbw27.mono sw26.size)
 clear sw26
 have o_g0_w27:=o_g0_w26.later hbw27
 clear o_g0_w26
 have o_h0_w27:=o_h0_w26.later hbw27
 clear o_h0_w26
 have o_h1_w27:=o_h1_w26.later hbw27
 clear o_h1_w26
 have o_k0_w27:=o_k0_w26.later hbw27
 clear o_k0_w26
 have i_a0_w27:Hid (w27.heap[w.heap.size]?=some (.cells #[I O xL0_0,I O xL0_1,Sz aA0_2 nA0_2 cA0_2,I O xL0_3,I O xL0_4,.bool xL0_5,I O xL0_6,Sz aA0_7 nA0_7 cA0_7,Sz aA0_8 nA0_8 cA0_8,I O xL0_9] 27 (0,0))):=(hbw27.block _ (by omega)).trans i_a0_w26.out
 clear i_a0_w26
 have i_W0_w27:Hid (w27.heap[w5.heap.size]?=some (.cells #[I O xO0_0,I O xO0_1,Sz aW0_2 nW0_2 cW0_2,I O xO0_3,I O xO0_4,.bool xO0_5,I O xO0_6,Sz aW0_7 nW0_7 cW0_7,Sz aW0_8 nW0_8 cW0_8,I O xO0_9] 31 (0,0))):=(hbw27.block _ (by omega)).trans i_W0_w26.out
 clear i_W0_w26
 have i_g0_w27:Hid (w27.heap[w10.heap.size]?=some (.cells #[I O xO0_0,I O xO0_1,Sz ag0_2 ng0_2 cg0_2,I O xO0_3,I O xO0_4,.bool xO0_5,I O xO0_6,Sz ag0_7 ng0_7 cg0_7,Sz ag0_8 ng0_8 cg0_8,I O xO0_9] 31 (0,0))):=(hbw27.block _ (by omega)).trans i_g0_w26.out
 clear i_g0_w26
 have i_k0_w27:Hid (w27.heap[w24.heap.size]?=some (.cells #[I O xO0_0,I O xO0_1,Sz ak0_2 nk0_2 ck0_2,I O xO0_3,I O xO0_4,.bool xO0_5,I O xO0_6,Sz ak0_7 nk0_7 ck0_7,Sz ak0_8 nk0_8 ck0_8,I O xO0_9] 31 (0,0))):=(hbw27.block _ (by omega)).trans i_k0_w26.out
 clear i_k0_w26
 clear hbw27
 go_wp2
 go_ret
 exact⟨rfl,bw27⟩
end Go.Proofs.YthodinpflcbklaaDoor
