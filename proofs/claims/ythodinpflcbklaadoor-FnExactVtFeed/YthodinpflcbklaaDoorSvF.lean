/-
  VtFeed of the model: byte behind byte. By program (svfgen.py).
-/
import Derived.Test.YthodinpflcbklaaDoorVtQ
import Derived.Test.YthodinpflcbklaaDoorM33VB
open Go.Value renaming int → I,slice → Sz
open Go.IntKind renaming i64 → O
open List renaming setIfInBounds_toArray → lA,getElem_toArray → lB,getElem_cons_succ → lC,getElem_cons_zero → lD,set_cons_zero → lE,set_cons_succ → lF
set_option linter.unusedVariables false
set_option linter.unusedSimpArgs false
set_option maxHeartbeats 40000000
namespace Go.Proofs.YthodinpflcbklaaDoor
open Go.RowKit
set_option maxRecDepth 100000
def RQ(B q:Nat)(wr:World)(o:List Value)(D:TD):Prop:=∀ w'':World,(∀ g,B≤g→g≠q→g < wr.heap.size→w''.heap[g]?=wr.heap[g]?)→Reads shVt w'' o D
theorem svf_no(W H X Y st be:Int)(wrp:Bool)(a a7 a8:Option Addr)(n c n7 c7 n8 c8:Nat)(bb:Option Addr)(m cm:Nat)(zs al pl l:List Int)(w:World)(h2:Reads (.sl .int) w [Sz a n c] zs)(h7:Reads (.sl .int) w [Sz a7 n7 c7] al)(h8:Reads (.sl .u8) w [Sz a8 n8 c8] pl)(hb:Reads (.sl .u8) w [Sz bb m cm] l)(hm:m≤1048576)(hn8:n8≤1048576)(hv:vtB (((W,H,zs,X,Y,wrp,()),st,al,pl,be,()):TD)=false):
   Calls Tryd.prog 13 #[.agg #[I O W,I O H,Sz a n c,I O X,I O Y,.bool wrp,I O st,Sz a7 n7 c7,Sz a8 n8 c8,I O be],Sz bb m cm] w fun e w'=>∃ o,e=.returned (.agg o.toArray)∧RO w w' o (feedA (((W,H,zs,X,Y,wrp,()),st,al,pl,be,()):TD) l)∧Below w.heap.size w w':=by
 obtain⟨W1,hW1⟩:∃ U,U=(w.alloc (.cells #[I O W,I O H,Sz a n c,I O X,I O Y,.bool wrp,I O st,Sz a7 n7 c7,Sz a8 n8 c8,I O be] 31)).alloc (.cells #[I O 0,I O 0,Sz none 0 0,I O 0,I O 0,.bool false,I O 0,Sz none 0 0,Sz none 0 0,I O 0] 31):=⟨_,rfl⟩
 have bW1:Below w.heap.size w W1:=by rw[hW1];exact((Below.refl _ _).alloc (Nat.le_refl _) _).alloc (by simp) _
 have zW1:W1.heap.size=w.heap.size+2:=by rw[hW1];simp
 have hA1:W1.heap[w.heap.size]?=some (.cells #[I O W,I O H,Sz a n c,I O X,I O Y,.bool wrp,I O st,Sz a7 n7 c7,Sz a8 n8 c8,I O be] 31 (0,0)):=by rw[hW1,heap_alloc_old _ _ (by simp)];exact heap_alloc_new w _
 have hZ1:W1.heap[w.heap.size+1]?=some (.cells #[I O 0,I O 0,Sz none 0 0,I O 0,I O 0,.bool false,I O 0,Sz none 0 0,Sz none 0 0,I O 0] 31 (0,0)):=by rw[hW1];have:=heap_alloc_new (w.alloc (.cells #[I O W,I O H,Sz a n c,I O X,I O Y,.bool wrp,I O st,Sz a7 n7 c7,Sz a8 n8 c8,I O be] 31)) (.cells #[I O 0,I O 0,Sz none 0 0,I O 0,I O 0,.bool false,I O 0,Sz none 0 0,Sz none 0 0,I O 0] 31);simpa using this
 have HBX:Hid (∀ w',Below W1.heap.size W1 w'→w'.heap[w.heap.size]?=some (.cells #[I O W,I O H,Sz a n c,I O X,I O Y,.bool wrp,I O st,Sz a7 n7 c7,Sz a8 n8 c8,I O be] 31 (0,0))∧w'.heap[w.heap.size+1]?=some (.cells #[I O 0,I O 0,Sz none 0 0,I O 0,I O 0,.bool false,I O 0,Sz none 0 0,Sz none 0 0,I O 0] 31 (0,0))):=fun w' h'=>⟨(h'.block _ (by omega)).trans hA1,(h'.block _ (by omega)).trans hZ1⟩
 have HB1:Hid (Below w.heap.size w W1∧W1.heap.size=w.heap.size+2):=⟨bW1,zW1⟩
 have HW:Hid (W1=_):=hW1
 have qv:Hid (∀ w',Below w.heap.size w w'→Calls Tryd.prog 26 #[.agg #[I O W,I O H,Sz a n c,I O X,I O Y,.bool wrp,I O st,Sz a7 n7 c7,Sz a8 n8 c8,I O be]] w' fun e w''=>e=.returned (.bool false)∧Below w'.heap.size w' w''):=fun w' hw=>by
   have h9:=specVtok_any W H X Y st be wrp a a7 a8 n c n7 c7 n8 c8 zs al pl w' (h2.later hw) (h7.later hw) (h8.later hw) (by omega)
   exact h9.mono fun e w'' h=>⟨h.1.trans (congrArg (fun b=>Ending.returned (.bool b)) hv),h.2⟩
 have HE:Hid (feedA (((W,H,zs,X,Y,wrp,()),st,al,pl,be,()):TD) l=zeroT):=feedA_no hv
 clear h2 h7 h8 hb hm hn8 hv hW1 bW1 zW1 hA1 hZ1
 have y0:W1.cell? ⟨w.heap.size,0,none⟩=some (I O W):=bxc (HBX.out _ (Below.refl _ _)).1 rfl
 have y1:W1.cell? ⟨w.heap.size,1,none⟩=some (I O H):=bxc (HBX.out _ (Below.refl _ _)).1 rfl
 have y2:W1.cell? ⟨w.heap.size,2,none⟩=some (Sz a n c):=bxc (HBX.out _ (Below.refl _ _)).1 rfl
 have y3:W1.cell? ⟨w.heap.size,3,none⟩=some (I O X):=bxc (HBX.out _ (Below.refl _ _)).1 rfl
 have y4:W1.cell? ⟨w.heap.size,4,none⟩=some (I O Y):=bxc (HBX.out _ (Below.refl _ _)).1 rfl
 have y5:W1.cell? ⟨w.heap.size,5,none⟩=some (.bool wrp):=bxc (HBX.out _ (Below.refl _ _)).1 rfl
 have y6:W1.cell? ⟨w.heap.size,6,none⟩=some (I O st):=bxc (HBX.out _ (Below.refl _ _)).1 rfl
 have y7:W1.cell? ⟨w.heap.size,7,none⟩=some (Sz a7 n7 c7):=bxc (HBX.out _ (Below.refl _ _)).1 rfl
 have y8:W1.cell? ⟨w.heap.size,8,none⟩=some (Sz a8 n8 c8):=bxc (HBX.out _ (Below.refl _ _)).1 rfl
 have y9:W1.cell? ⟨w.heap.size,9,none⟩=some (I O be):=bxc (HBX.out _ (Below.refl _ _)).1 rfl
 go_enter Tryd.func13,Tryd.ntmps13
 go_wp2_with fail
 rw[← HW.out]
 refine(qv.out _ HB1.out.1).mono ?_
 rintro e w4 ⟨rfl,hb4⟩
 have b4:=HB1.out.1.trans (hb4.mono HB1.out.1.size)
 have i4:=HBX.out _ hb4
 clear y0 y1 y2 y3 y4 y5 y6 y7 y8 y9
 have HLD:(loadVar 31 ⟨w.heap.size+1,0,none⟩).run Tryd.prog (w4.setRow (w.heap.size+1) #[I O 0,I O 0,Sz none 0 0,I O 0,I O 0,.bool false,I O 0,Sz none 0 0,Sz none 0 0,I O 0])=.ok (.agg #[I O 0,I O 0,Sz none 0 0,I O 0,I O 0,.bool false,I O 0,Sz none 0 0,Sz none 0 0,I O 0]) (w4.setRow (w.heap.size+1) #[I O 0,I O 0,Sz none 0 0,I O 0,I O 0,.bool false,I O 0,Sz none 0 0,Sz none 0 0,I O 0]):=run_loadVar_row _ _ _ _ _ _ _ (setRow_heap _ _ _ _ _ _ i4.2) Tryd.underlying31 rfl (by kernel_rfl)
 have HF:Hid (Below w.heap.size w (w4.setRow (w.heap.size+1) #[I O 0,I O 0,Sz none 0 0,I O 0,I O 0,.bool false,I O 0,Sz none 0 0,Sz none 0 0,I O 0])):=below_setRow b4 (Nat.le_add_right _ 1) _
 go_wp2_with (refine wpList_store_row rfl _ _ _ rfl _ _ rfl rfl _ _ i4.2 (by kernel_rfl) rfl (by simp[Value.oneCell']) ?_)
 (try simp only[Exit.inBlock,Exit.then])
 refine bodyPost_ret (by simp[results,Tryd.results13,asAddr,Act.put,HLD];try rfl) rfl ?_
 refine⟨[I O 0,I O 0,Sz none 0 0,I O 0,I O 0,.bool false,I O 0,Sz none 0 0,Sz none 0 0,I O 0],rfl,fun w'' _=>?_,HF.out⟩
 rw[HE.out]
 exact(own_zeroT _ 0).reads
theorem svf_yes(W H X Y st be:Int)(wrp:Bool)(a a7 a8:Option Addr)(n c n7 c7 n8 c8:Nat)(bb:Option Addr)(m cm:Nat)(zs al pl l:List Int)(w:World)(h2:Reads (.sl .int) w [Sz a n c] zs)(h7:Reads (.sl .int) w [Sz a7 n7 c7] al)(h8:Reads (.sl .u8) w [Sz a8 n8 c8] pl)(hb:Reads (.sl .u8) w [Sz bb m cm] l)(hm:m≤1048576)(hn8:n8≤1048576)(hv:vtB (((W,H,zs,X,Y,wrp,()),st,al,pl,be,()):TD)=true):
   Calls Tryd.prog 13 #[.agg #[I O W,I O H,Sz a n c,I O X,I O Y,.bool wrp,I O st,Sz a7 n7 c7,Sz a8 n8 c8,I O be],Sz bb m cm] w fun e w'=>∃ o,e=.returned (.agg o.toArray)∧RO w w' o (feedA (((W,H,zs,X,Y,wrp,()),st,al,pl,be,()):TD) l)∧Below w.heap.size w w':=by
 obtain⟨W1,hW1⟩:∃ U,U=(w.alloc (.cells #[I O W,I O H,Sz a n c,I O X,I O Y,.bool wrp,I O st,Sz a7 n7 c7,Sz a8 n8 c8,I O be] 31)).alloc (.cells #[I O 0,I O 0,Sz none 0 0,I O 0,I O 0,.bool false,I O 0,Sz none 0 0,Sz none 0 0,I O 0] 31):=⟨_,rfl⟩
 have bW1:Below w.heap.size w W1:=by rw[hW1];exact((Below.refl _ _).alloc (Nat.le_refl _) _).alloc (by simp) _
 have zW1:W1.heap.size=w.heap.size+2:=by rw[hW1];simp
 have hA1:W1.heap[w.heap.size]?=some (.cells #[I O W,I O H,Sz a n c,I O X,I O Y,.bool wrp,I O st,Sz a7 n7 c7,Sz a8 n8 c8,I O be] 31 (0,0)):=by rw[hW1,heap_alloc_old _ _ (by simp)];exact heap_alloc_new w _
 have hZ1:W1.heap[w.heap.size+1]?=some (.cells #[I O 0,I O 0,Sz none 0 0,I O 0,I O 0,.bool false,I O 0,Sz none 0 0,Sz none 0 0,I O 0] 31 (0,0)):=by rw[hW1];have:=heap_alloc_new (w.alloc (.cells #[I O W,I O H,Sz a n c,I O X,I O Y,.bool wrp,I O st,Sz a7 n7 c7,Sz a8 n8 c8,I O be] 31)) (.cells #[I O 0,I O 0,Sz none 0 0,I O 0,I O 0,.bool false,I O 0,Sz none 0 0,Sz none 0 0,I O 0] 31);simpa using this
 have HBX:Hid (∀ w',Below W1.heap.size W1 w'→w'.heap[w.heap.size]?=some (.cells #[I O W,I O H,Sz a n c,I O X,I O Y,.bool wrp,I O st,Sz a7 n7 c7,Sz a8 n8 c8,I O be] 31 (0,0))∧w'.heap[w.heap.size+1]?=some (.cells #[I O 0,I O 0,Sz none 0 0,I O 0,I O 0,.bool false,I O 0,Sz none 0 0,Sz none 0 0,I O 0] 31 (0,0))):=fun w' h'=>⟨(h'.block _ (by omega)).trans hA1,(h'.block _ (by omega)).trans hZ1⟩
 have HB1:Hid (Below w.heap.size w W1∧W1.heap.size=w.heap.size+2):=⟨bW1,zW1⟩
 have HW:Hid (W1=_):=hW1
 have qv:Hid (∀ w',Below w.heap.size w w'→Calls Tryd.prog 26 #[.agg #[I O W,I O H,Sz a n c,I O X,I O Y,.bool wrp,I O st,Sz a7 n7 c7,Sz a8 n8 c8,I O be]] w' fun e w''=>e=.returned (.bool true)∧Below w'.heap.size w' w''):=fun w' hw=>by
   have h9:=specVtok_any W H X Y st be wrp a a7 a8 n c n7 c7 n8 c8 zs al pl w' (h2.later hw) (h7.later hw) (h8.later hw) (by omega)
   exact h9.mono fun e w'' h=>⟨h.1.trans (congrArg (fun b=>Ending.returned (.bool b)) hv),h.2⟩
 obtain⟨p1,p2,p3,p4,p5⟩:=vt_parts hv
 have p1:gokB (W,H,zs,X,Y,wrp,())=true:=p1
 have p3:argsB al st=true:=p3
 have p4:partB pl st=true:=p4
 have hpb:∀ x ∈ pl,0≤x∧x≤255:=byte_bt (fun i=>(reads_bytes h8).2.1.1 i)
 have hnn:1≤n∧n≤1048576:=by
   obtain⟨W',H',eW,eH,g1,g2,g3,g4,g5,hlen,hcl,hcu⟩:=gok_parts p1
   have e9:=(reads_ints h2).1
   have q1:1≤W'*H':=Nat.mul_pos (by omega) (by omega)
   have q2:W'*H'≤1000*1000:=Nat.mul_le_mul (by omega) (by omega)
   omega
 have qc:Hid (∀ w',Below w.heap.size w w'→Calls Tryd.prog 27 #[.agg #[I O W,I O H,Sz a n c,I O X,I O Y,.bool wrp,I O st,Sz a7 n7 c7,Sz a8 n8 c8,I O be]] w' fun e w''=>∃ o,e=.returned (.agg o.toArray)∧RO w' w'' o (((W,H,zs,X,Y,wrp,()),st,al,pl,be,()):TD)∧Below w'.heap.size w' w''):=fun w' hw=>scopy_any W H X Y st be wrp a a7 a8 n c n7 c7 n8 c8 zs al pl w' hnn (h2.later hw) (h7.later hw) (h8.later hw) (args_len p3) (part_len3 hpb (part_or p4))
 obtain⟨hlb,hrb,hcb,_⟩:=reads_bytes hb
 have hlbb:∀ x ∈ l,0≤x∧x≤255:=byte_bt hrb.1
 have HGD:Hid (goodT (((W,H,zs,X,Y,wrp,()),st,al,pl,be,()):TD)∧(∀ x ∈ l,0≤x∧x≤255)∧l.length=m):=⟨⟨hv,hpb⟩,hlbb,hlb⟩
 have HRB:Hid (Rd w bb l):=hrb
 have E:Hid (feedA (((W,H,zs,X,Y,wrp,()),st,al,pl,be,()):TD) l=feedT (((W,H,zs,X,Y,wrp,()),st,al,pl,be,()):TD) l):=feedA_yes hv
 clear hb hlb hrb hlbb h2 h7 h8 hn8 hv p1 p2 p3 p4 p5 hpb hnn hW1 bW1 zW1 hA1 hZ1
 have y0:W1.cell? ⟨w.heap.size,0,none⟩=some (I O W):=bxc (HBX.out _ (Below.refl _ _)).1 rfl
 have y1:W1.cell? ⟨w.heap.size,1,none⟩=some (I O H):=bxc (HBX.out _ (Below.refl _ _)).1 rfl
 have y2:W1.cell? ⟨w.heap.size,2,none⟩=some (Sz a n c):=bxc (HBX.out _ (Below.refl _ _)).1 rfl
 have y3:W1.cell? ⟨w.heap.size,3,none⟩=some (I O X):=bxc (HBX.out _ (Below.refl _ _)).1 rfl
 have y4:W1.cell? ⟨w.heap.size,4,none⟩=some (I O Y):=bxc (HBX.out _ (Below.refl _ _)).1 rfl
 have y5:W1.cell? ⟨w.heap.size,5,none⟩=some (.bool wrp):=bxc (HBX.out _ (Below.refl _ _)).1 rfl
 have y6:W1.cell? ⟨w.heap.size,6,none⟩=some (I O st):=bxc (HBX.out _ (Below.refl _ _)).1 rfl
 have y7:W1.cell? ⟨w.heap.size,7,none⟩=some (Sz a7 n7 c7):=bxc (HBX.out _ (Below.refl _ _)).1 rfl
 have y8:W1.cell? ⟨w.heap.size,8,none⟩=some (Sz a8 n8 c8):=bxc (HBX.out _ (Below.refl _ _)).1 rfl
 have y9:W1.cell? ⟨w.heap.size,9,none⟩=some (I O be):=bxc (HBX.out _ (Below.refl _ _)).1 rfl
 go_enter Tryd.func13,Tryd.ntmps13
 go_wp2_with fail
 rw[← HW.out]
 refine(qv.out _ HB1.out.1).mono ?_
 rintro e w4 ⟨rfl,hb4⟩
 have b4:=HB1.out.1.trans (hb4.mono HB1.out.1.size)
 clear y0 y1 y2 y3 y4 y5 y6 y7 y8 y9
 have y0:w4.cell? ⟨w.heap.size,0,none⟩=some (I O W):=bxc (HBX.out _ hb4).1 rfl
 have y1:w4.cell? ⟨w.heap.size,1,none⟩=some (I O H):=bxc (HBX.out _ hb4).1 rfl
 have y2:w4.cell? ⟨w.heap.size,2,none⟩=some (Sz a n c):=bxc (HBX.out _ hb4).1 rfl
 have y3:w4.cell? ⟨w.heap.size,3,none⟩=some (I O X):=bxc (HBX.out _ hb4).1 rfl
 have y4:w4.cell? ⟨w.heap.size,4,none⟩=some (I O Y):=bxc (HBX.out _ hb4).1 rfl
 have y5:w4.cell? ⟨w.heap.size,5,none⟩=some (.bool wrp):=bxc (HBX.out _ hb4).1 rfl
 have y6:w4.cell? ⟨w.heap.size,6,none⟩=some (I O st):=bxc (HBX.out _ hb4).1 rfl
 have y7:w4.cell? ⟨w.heap.size,7,none⟩=some (Sz a7 n7 c7):=bxc (HBX.out _ hb4).1 rfl
 have y8:w4.cell? ⟨w.heap.size,8,none⟩=some (Sz a8 n8 c8):=bxc (HBX.out _ hb4).1 rfl
 have y9:w4.cell? ⟨w.heap.size,9,none⟩=some (I O be):=bxc (HBX.out _ hb4).1 rfl
 go_wp2_with fail
 refine(qc.out _ b4).mono ?_
 rintro e w5 ⟨o,rfl,hro,hb5⟩
 obtain⟨b2,m2,k2,b7,m7,k7,b8,m8,k8,hcs,_⟩:=open_Vt (hro w5 (fun g _ _=>rfl))
 have hcs:o=[I O W,I O H,Sz b2 m2 k2,I O X,I O Y,.bool wrp,I O st,Sz b7 m7 k7,Sz b8 m8 k8,I O be]:=hcs
 subst hcs
 clear y0 y1 y2 y3 y4 y5 y6 y7 y8 y9
 have k5:=hb4.trans (hb5.mono hb4.size)
 have b5:=b4.trans (hb5.mono b4.size)
 have hz:=HB1.out.2
 have z4:=hb4.size
 obtain⟨q,hq⟩:∃ q,q=w5.heap.size:=⟨_,rfl⟩
 have hq1:W1.heap.size≤q:=by have:=k5.size;omega
 have INIT:Hid ((w5.alloc (.cells #[I O W,I O H,Sz b2 m2 k2,I O X,I O Y,.bool wrp,I O st,Sz b7 m7 k7,Sz b8 m8 k8,I O be] 31)).heap[q]?=some (.cells #[I O W,I O H,Sz b2 m2 k2,I O X,I O Y,.bool wrp,I O st,Sz b7 m7 k7,Sz b8 m8 k8,I O be] 31 (0,0)) ∧
     RQ W1.heap.size q (w5.alloc (.cells #[I O W,I O H,Sz b2 m2 k2,I O X,I O Y,.bool wrp,I O st,Sz b7 m7 k7,Sz b8 m8 k8,I O be] 31)) [I O W,I O H,Sz b2 m2 k2,I O X,I O Y,.bool wrp,I O st,Sz b7 m7 k7,Sz b8 m8 k8,I O be] (((W,H,zs,X,Y,wrp,()),st,al,pl,be,()):TD) ∧
     Below W1.heap.size W1 (w5.alloc (.cells #[I O W,I O H,Sz b2 m2 k2,I O X,I O Y,.bool wrp,I O st,Sz b7 m7 k7,Sz b8 m8 k8,I O be] 31))):=by
   refine⟨by rw[hq];exact heap_alloc_new w5 _,fun w'' hk=>hro w'' (fun g h1 h2=>?_),k5.alloc k5.size _⟩
   rw[hk g (by omega) (by omega) (by simp;omega),heap_alloc_old _ _ h2]
 have HQ:Hid (q=w5.heap.size∧W1.heap.size≤q):=⟨hq,hq1⟩
 clear b4 b5 hro hb5 k5 hb4 z4 hq1 hz hq
 go_wp2
 rw[← HQ.out.1]
 go_loopw [16] (fun i wr=>∃ k:Nat,k≤m∧i=I O k∧Hid (∃ o:List Value,wr.heap[q]?=some (.cells o.toArray 31 (0,0))∧RQ W1.heap.size q wr o (feedT (((W,H,zs,X,Y,wrp,()),st,al,pl,be,()):TD) (l.take k))∧Below W1.heap.size W1 wr)) (fun i _=>m - (intOf i).toNat)
 case atStart=>exact⟨0,Nat.zero_le _,rfl,[I O W,I O H,Sz b2 m2 k2,I O X,I O Y,.bool wrp,I O st,Sz b7 m7 k7,Sz b8 m8 k8,I O be],INIT.out.1,by rw[List.take_zero,feed_nil];exact INIT.out.2.1,INIT.out.2.2⟩
 case round =>
   obtain⟨k,hk,rfl,HI⟩:=hrel
   obtain⟨o,hbox,hrq,hbw⟩:=HI.out
   obtain⟨DD,hDD⟩:∃ D:TD,D=feedT (((W,H,zs,X,Y,wrp,()),st,al,pl,be,()):TD) (l.take k):=⟨_,rfl⟩
   have hgq:goodT DD:=by rw[hDD];exact feed_good HGD.out.1 (fun x hx=>HGD.out.2.1 x (List.mem_of_mem_take hx))
   rw[← hDD] at hrq
   have HDe:Hid (DD=feedT (((W,H,zs,X,Y,wrp,()),st,al,pl,be,()):TD) (l.take k)):=hDD
   clear hDD
   obtain⟨⟨W',H',zs',X',Y',wrp',u1⟩,st',al',pl',be',u2⟩:=DD
   obtain⟨c2,n2,d2,c7,n7',d7,c8,n8',d8,hcs,_⟩:=open_Vt (hrq wr (fun g _ _ _=>rfl))
   have hcs:o=[I O W',I O H',Sz c2 n2 d2,I O X',I O Y',.bool wrp',I O st',Sz c7 n7' d7,Sz c8 n8' d8,I O be']:=hcs
   subst hcs
   have hqlt:q < wr.heap.size:=by
     cases hh:wr.heap[q]? with
     | none=>rw[hh] at hbox;cases hbox
     | some o=>exact(Array.getElem?_eq_some_iff.1 hh).1
   have hww:Below w.heap.size w wr:=HB1.out.1.trans (hbw.mono HB1.out.1.size)
   have hzw:=HB1.out.2
   have hqq:=HQ.out.2
   have zl:q < wr.heap.size:=hqlt
   have y0:wr.cell? ⟨q,0,none⟩=some (I O W'):=bxc hbox rfl
   have y1:wr.cell? ⟨q,1,none⟩=some (I O H'):=bxc hbox rfl
   have y2:wr.cell? ⟨q,2,none⟩=some (Sz c2 n2 d2):=bxc hbox rfl
   have y3:wr.cell? ⟨q,3,none⟩=some (I O X'):=bxc hbox rfl
   have y4:wr.cell? ⟨q,4,none⟩=some (I O Y'):=bxc hbox rfl
   have y5:wr.cell? ⟨q,5,none⟩=some (.bool wrp'):=bxc hbox rfl
   have y6:wr.cell? ⟨q,6,none⟩=some (I O st'):=bxc hbox rfl
   have y7:wr.cell? ⟨q,7,none⟩=some (Sz c7 n7' d7):=bxc hbox rfl
   have y8:wr.cell? ⟨q,8,none⟩=some (Sz c8 n8' d8):=bxc hbox rfl
   have y9:wr.cell? ⟨q,9,none⟩=some (I O be'):=bxc hbox rfl
   by_cases hlt:k < m
   · have hne:l≠[]:=by intro h;have:=HGD.out.2.2;rw[h] at this;simp at this;omega
     obtain⟨b',off,rfl,hbl,hcc⟩:=HRB.out.2.resolve_left hne
     obtain⟨x,hx⟩:∃ x,x=l[k]?.getD 0:=⟨_,rfl⟩
     have hkl:k < l.length:=by rw[HGD.out.2.2];exact hlt
     have gx:wr.cell? ⟨b',off+k,none⟩=some (I .u8 x):=by rw[hx];exact(hww.cell (p:=⟨b',off+k,none⟩) hbl).trans (hcc k hkl)
     have hxb:0≤x∧x≤255:=by
       have e:x=l[k]:=by rw[hx];simp[hkl]
       rw[e];exact HGD.out.2.1 _ (List.getElem_mem hkl)
     obtain⟨r2,r7,r8⟩:=vt_rows (hrq wr (fun g _ _ _=>rfl))
     obtain⟨D,hD⟩:∃ D:TD,D=byteT (((W',H',zs',X',Y',wrp',u1),st',al',pl',be',u2):TD) x:=⟨_,rfl⟩
     have QB:Hid (Calls Tryd.prog 28 #[.agg #[I O W',I O H',Sz c2 n2 d2,I O X',I O Y',.bool wrp',I O st',Sz c7 n7' d7,Sz c8 n8' d8,I O be'],I O x] wr fun e w''=>∃ o,e=.returned (.agg o.toArray)∧RK wr w'' o D (Sz c2 n2 d2) (Sz c7 n7' d7) (Sz c8 n8' d8) zs' al' pl'∧Below wr.heap.size wr w''):=by
       rw[hD]
       exact sby_any W' H' X' Y' st' be' wrp' c2 c7 c8 n2 d2 n7' d7 n8' d8 zs' al' pl' x wr ⟨hgq.1,hgq.2⟩ r2 r7 r8 hxb
     have HN:Hid (feedT (((W,H,zs,X,Y,wrp,()),st,al,pl,be,()):TD) (l.take (k+1))=D):=by
       show _=_
       have e:l.take (k+1)=l.take k++[x]:=by rw[List.take_succ_eq_append_getElem hkl,hx];simp[hkl]
       rw[e,feed_one,← HDe.out,hD]
     have HR:Hid (RQ W1.heap.size q wr [I O W',I O H',Sz c2 n2 d2,I O X',I O Y',.bool wrp',I O st',Sz c7 n7' d7,Sz c8 n8' d8,I O be'] (((W',H',zs',X',Y',wrp',u1),st',al',pl',be',u2):TD)∧Below W1.heap.size W1 wr∧q < wr.heap.size):=⟨hrq,hbw,hqlt⟩
     have HX:Hid (wr.heap[q]?=some (.cells #[I O W',I O H',Sz c2 n2 d2,I O X',I O Y',.bool wrp',I O st',Sz c7 n7' d7,Sz c8 n8' d8,I O be'] 31 (0,0))):=hbox
     have hlt':(k:Int) < (m:Int):=by omega
     have hx0:=hxb.1
     have hx1:=hxb.2
     have HRR:Hid (Reads (.sl .int) wr [Sz c2 n2 d2] zs'∧Reads (.sl .int) wr [Sz c7 n7' d7] al'∧Reads (.sl .u8) wr [Sz c8 n8' d8] pl'):=⟨r2,r7,r8⟩
     clear hrq hbw hbox hgq hcc hne hx hkl hxb hD r2 r7 r8 hww
     go_wp2_with fail
     clear y0 y1 y2 y3 y4 y5 y6 y7 y8 y9
     refine QB.out.mono ?_
     rintro e w6 ⟨o,rfl,hRK,hb6⟩
     obtain⟨⟨g0,g1,gz,g3,g4,g5,v1⟩,g6,gal,gpl,g9,v2⟩:=D
     obtain⟨e2,f2,j2,e7,f7,j7,e8,f8,j8,hcs,_⟩:=open_Vt (hRK w6 (fun g _ _=>rfl) (HRR.out.1.later hb6) (HRR.out.2.1.later hb6) (HRR.out.2.2.later hb6))
     have hcs:o=[I O g0,I O g1,Sz e2 f2 j2,I O g3,I O g4,.bool g5,I O g6,Sz e7 f7 j7,Sz e8 f8 j8,I O g9]:=hcs
     subst hcs
     have i6:w6.heap[q]?=some (.cells #[I O W',I O H',Sz c2 n2 d2,I O X',I O Y',.bool wrp',I O st',Sz c7 n7' d7,Sz c8 n8' d8,I O be'] 31 (0,0)):=(hb6.block _ HR.out.2.2).trans HX.out
     have HF:Hid (∃ o:List Value,(w6.setRow q #[I O g0,I O g1,Sz e2 f2 j2,I O g3,I O g4,.bool g5,I O g6,Sz e7 f7 j7,Sz e8 f8 j8,I O g9]).heap[q]?=some (.cells o.toArray 31 (0,0))∧RQ W1.heap.size q (w6.setRow q #[I O g0,I O g1,Sz e2 f2 j2,I O g3,I O g4,.bool g5,I O g6,Sz e7 f7 j7,Sz e8 f8 j8,I O g9]) o (feedT (((W,H,zs,X,Y,wrp,()),st,al,pl,be,()):TD) (l.take (k+1)))∧Below W1.heap.size W1 (w6.setRow q #[I O g0,I O g1,Sz e2 f2 j2,I O g3,I O g4,.bool g5,I O g6,Sz e7 f7 j7,Sz e8 f8 j8,I O g9])):=by
       refine⟨[I O g0,I O g1,Sz e2 f2 j2,I O g3,I O g4,.bool g5,I O g6,Sz e7 f7 j7,Sz e8 f8 j8,I O g9],setRow_heap _ _ _ _ _ _ i6,fun w'' hk=>?_,below_setRow (HR.out.2.1.trans (hb6.mono HR.out.2.1.size)) HQ.out.2 _⟩
       have e9:(w6.setRow q #[I O g0,I O g1,Sz e2 f2 j2,I O g3,I O g4,.bool g5,I O g6,Sz e7 f7 j7,Sz e8 f8 j8,I O g9]).heap.size=w6.heap.size:=by simp[World.setRow]
       have z6:=hb6.size
       have zr:=HR.out.2.1.size
       have zq:=HR.out.2.2
       have hk2:∀ g,W1.heap.size≤g→g≠q→g < w6.heap.size→w''.heap[g]?=w6.heap[g]?:=fun g h1 h2 h3=>by
         rw[hk g h1 h2 (by omega),setRow_other _ q g _ h2]
       obtain⟨q2,q7,q8⟩:=vt_rows (HR.out.1 w'' (fun g h1 h2 h3=>by
         rw[hk2 g h1 h2 (by omega),hb6.block g h3]))
       rw[HN.out]
       exact hRK w'' (fun g h1 h2=>hk2 g (by omega) (by omega) h2) q2 q7 q8
     clear hRK hb6
     go_wp2_with (refine wpList_store_row rfl _ _ _ rfl _ _ rfl rfl _ _ i6 (by kernel_rfl) rfl (by simp[Value.oneCell']) ?_)
     go_roundw
     case rel=>exact⟨k+1,by omega,by go_num,HF.out⟩
     case measure=>simp[intOf];omega
   · have ek:k=m:=by omega
     have hfull:l.take k=l:=List.take_of_length_le (by rw[HGD.out.2.2];omega)
     have HEQ:Hid ((((W',H',zs',X',Y',wrp',u1),st',al',pl',be',u2):TD)=feedT (((W,H,zs,X,Y,wrp,()),st,al,pl,be,()):TD) l):=by show _=_;rw[HDe.out,hfull]
     have hlt':¬ (k:Int) < (m:Int):=by omega
     have i6:=(HBX.out _ hbw).2
     have HLD:(loadVar 31 ⟨w.heap.size+1,0,none⟩).run Tryd.prog (wr.setRow (w.heap.size+1) #[I O W',I O H',Sz c2 n2 d2,I O X',I O Y',.bool wrp',I O st',Sz c7 n7' d7,Sz c8 n8' d8,I O be'])=.ok (.agg #[I O W',I O H',Sz c2 n2 d2,I O X',I O Y',.bool wrp',I O st',Sz c7 n7' d7,Sz c8 n8' d8,I O be']) (wr.setRow (w.heap.size+1) #[I O W',I O H',Sz c2 n2 d2,I O X',I O Y',.bool wrp',I O st',Sz c7 n7' d7,Sz c8 n8' d8,I O be']):=run_loadVar_row _ _ _ _ _ _ _ (setRow_heap _ _ _ _ _ _ i6) Tryd.underlying31 rfl (by kernel_rfl)
     have HF:Hid (Below w.heap.size w (wr.setRow (w.heap.size+1) #[I O W',I O H',Sz c2 n2 d2,I O X',I O Y',.bool wrp',I O st',Sz c7 n7' d7,Sz c8 n8' d8,I O be'])∧RO w (wr.setRow (w.heap.size+1) #[I O W',I O H',Sz c2 n2 d2,I O X',I O Y',.bool wrp',I O st',Sz c7 n7' d7,Sz c8 n8' d8,I O be']) [I O W',I O H',Sz c2 n2 d2,I O X',I O Y',.bool wrp',I O st',Sz c7 n7' d7,Sz c8 n8' d8,I O be'] (((W',H',zs',X',Y',wrp',u1),st',al',pl',be',u2):TD)):=by
       refine⟨below_setRow hww (Nat.le_add_right _ 1) _,fun w'' hk=>?_⟩
       have e9:(wr.setRow (w.heap.size+1) #[I O W',I O H',Sz c2 n2 d2,I O X',I O Y',.bool wrp',I O st',Sz c7 n7' d7,Sz c8 n8' d8,I O be']).heap.size=wr.heap.size:=by simp[World.setRow]
       exact hrq w'' (fun g h1 h2 h3=>by
         rw[hk g (by omega) (by omega),setRow_other _ (w.heap.size+1) g _ (by omega)])
     clear hrq hbw hbox hgq hww hfull
     go_wp2_with (refine wpList_store_row rfl _ _ _ rfl _ _ rfl rfl _ _ i6 (by kernel_rfl) rfl (by simp[Value.oneCell']) ?_)
     (try simp only[Exit.inBlock,Exit.then])
     refine bodyPost_ret (by simp[results,Tryd.results13,asAddr,Act.put,HLD];try rfl) rfl ?_
     refine⟨[I O W',I O H',Sz c2 n2 d2,I O X',I O Y',.bool wrp',I O st',Sz c7 n7' d7,Sz c8 n8' d8,I O be'],rfl,?_,HF.out.1⟩
     rw[E.out,← HEQ.out]
     exact HF.out.2
theorem specFeed_any(W H X Y st be:Int)(wrp:Bool)(a a7 a8:Option Addr)(n c n7 c7 n8 c8:Nat)(bb:Option Addr)(m cm:Nat)(zs al pl l:List Int)(w:World)(h2:Reads (.sl .int) w [Sz a n c] zs)(h7:Reads (.sl .int) w [Sz a7 n7 c7] al)(h8:Reads (.sl .u8) w [Sz a8 n8 c8] pl)(hb:Reads (.sl .u8) w [Sz bb m cm] l)(hm:m≤1048576)(hn8:n8≤1048576):
   Calls Tryd.prog 13 #[.agg #[I O W,I O H,Sz a n c,I O X,I O Y,.bool wrp,I O st,Sz a7 n7 c7,Sz a8 n8 c8,I O be],Sz bb m cm] w fun e w'=>∃ o,e=.returned (.agg o.toArray)∧RO w w' o (feedA (((W,H,zs,X,Y,wrp,()),st,al,pl,be,()):TD) l)∧Below w.heap.size w w':=by
 cases hv:vtB (((W,H,zs,X,Y,wrp,()),st,al,pl,be,()):TD) with
 | false=>exact svf_no W H X Y st be wrp a a7 a8 n c n7 c7 n8 c8 bb m cm zs al pl l w h2 h7 h8 hb hm hn8 hv
 | true=>exact svf_yes W H X Y st be wrp a a7 a8 n c n7 c7 n8 c8 bb m cm zs al pl l w h2 h7 h8 hb hm hn8 hv
end Go.Proofs.YthodinpflcbklaaDoor
