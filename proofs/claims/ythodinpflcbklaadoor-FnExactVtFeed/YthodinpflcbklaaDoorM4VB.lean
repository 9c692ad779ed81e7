/-
  Parts of the road to VB, joined: MkVt.
-/
import Derived.Test.YthodinpflcbklaaDoorM3VB
import Derived.Test.YthodinpflcbklaaDoorM1VB
open Go.Value renaming int → I,slice → Sz
open Go.IntKind renaming i64 → O
open List renaming setIfInBounds_toArray → lA,getElem_toArray → lB,getElem_cons_succ → lC,getElem_cons_zero → lD,set_cons_zero → lE,set_cons_succ → lF
set_option linter.unusedVariables false
set_option linter.unusedSimpArgs false
set_option maxHeartbeats 40000000
namespace Go.Proofs.YthodinpflcbklaaDoor
open Go.RowKit
theorem openO_Vt{w:World}{B:Nat}{cs:List Value}{d:shVt.D}{F:List Nat}(h:Own shVt w B cs d F):
   ∃ a2 n2 c2 F0 a7 n7 c7 F2 a8 n8 c8 F3,cs=[I O (d.1.1),I O (d.1.2.1),Sz a2 n2 c2,I O (d.1.2.2.2.1),I O (d.1.2.2.2.2.1),.bool (d.1.2.2.2.2.2.1),I O (d.2.1),Sz a7 n7 c7,Sz a8 n8 c8,I O (d.2.2.2.2.1)]∧F=F0++(F2++(F3++([])))∧Own shGrid w B [I O (d.1.1),I O (d.1.2.1),Sz a2 n2 c2,I O (d.1.2.2.2.1),I O (d.1.2.2.2.2.1),.bool (d.1.2.2.2.2.2.1)] d.1 F0∧Own (.sl .int) w B [Sz a7 n7 c7] d.2.2.1 F2∧Own (.sl .u8) w B [Sz a8 n8 c8] d.2.2.2.1 F3:=by
 obtain⟨_,_,G0,_,rfl,rfl,h0,_,_,G1,_,rfl,rfl,h1,_,_,G2,_,rfl,rfl,h2,_,_,G3,_,rfl,rfl,h3,_,_,G4,_,rfl,rfl,h4,hE⟩:=h
 obtain⟨rfl,rfl⟩:=h1
 obtain⟨rfl,rfl⟩:=h4
 obtain⟨rfl,rfl⟩:=hE
 have g0:=Own.reads (s:=shGrid) h0
 obtain⟨a2,n2,c2,e0,_⟩:=open_Grid g0
 subst e0
 have g2:=Own.reads (s:=(.sl .int)) h2
 obtain⟨a7,c7,e2,_⟩:=g2
 subst e2
 have g3:=Own.reads (s:=(.sl .u8)) h3
 obtain⟨a8,c8,e3,_⟩:=g3
 subst e3
 exact⟨a2,n2,c2,G0,a7,_,c7,G2,a8,_,c8,G3,rfl,by simp,h0,h2,h3⟩
theorem cntV_Vt(d:shVt.D):shVt.cntV d=Sh.cntV shGrid d.1+Sh.cnt (.sl .int) d.2.2.1+Sh.cnt (.sl .u8) d.2.2.2.1:=by
 show Sh.cntV shGrid d.1+(0+(Sh.cnt (.sl .int) d.2.2.1+(Sh.cnt (.sl .u8) d.2.2.2.1+(0+(0)))))=_
 omega
set_option maxRecDepth 100000 in
theorem markVt_own (cs:List Value) (B k:Nat) (d:shVt.D) (F:List Nat) (w:World) (ho:Own shVt w B cs d F) (hnd:F.Nodup) (hk0:1≤k) (hk:k+shVt.cntV d≤1000000000000) :
   Calls Tryd.prog 11 #[.agg cs.toArray,I O k] w fun e w'=>e=.returned (I O ((k+shVt.cntV d:Nat):Int))∧Own shVt w' B cs (shVt.mkV d k) F∧Touch w w' F:=by
 rw[cntV_Vt] at hk ⊢
 obtain⟨a2,n2,c2,F0,a7,n7,c7,F2,a8,n8,c8,F3,rfl,rfl,o0,o2,o3⟩:=openO_Vt ho
 obtain⟨x0,e0⟩:∃ x:Int,x=d.1.1:=⟨_,rfl⟩
 obtain⟨x1,e1⟩:∃ x:Int,x=d.1.2.1:=⟨_,rfl⟩
 obtain⟨x3,e3⟩:∃ x:Int,x=d.1.2.2.2.1:=⟨_,rfl⟩
 obtain⟨x4,e4⟩:∃ x:Int,x=d.1.2.2.2.2.1:=⟨_,rfl⟩
 obtain⟨x5,e5⟩:∃ x:Bool,x=d.1.2.2.2.2.2.1:=⟨_,rfl⟩
 obtain⟨x6,e6⟩:∃ x:Int,x=d.2.1:=⟨_,rfl⟩
 obtain⟨x9,e9⟩:∃ x:Int,x=d.2.2.2.2.1:=⟨_,rfl⟩
 obtain⟨C0,hC0⟩:∃ C,C=Sh.cntV shGrid d.1:=⟨_,rfl⟩
 obtain⟨C2,hC2⟩:∃ C,C=Sh.cnt (.sl .int) d.2.2.1:=⟨_,rfl⟩
 obtain⟨C3,hC3⟩:∃ C,C=Sh.cnt (.sl .u8) d.2.2.2.1:=⟨_,rfl⟩
 replace o0:Own shGrid w B [I O x0,I O x1,Sz a2 n2 c2,I O x3,I O x4,.bool x5] d.1 F0:=by rw[e0,e1,e3,e4,e5];exact o0
 rw[← e0,← e1,← e3,← e4,← e5,← e6,← e9]
 rw[← hC0,← hC2,← hC3] at hk ⊢
 have HST:Hid (x0=d.1.1∧x1=d.1.2.1∧x3=d.1.2.2.2.1∧x4=d.1.2.2.2.2.1∧x5=d.1.2.2.2.2.2.1∧x6=d.2.1∧x9=d.2.2.2.2.1∧True):=⟨e0,e1,e3,e4,e5,e6,e9,trivial⟩
 obtain⟨k0,hk0⟩:∃ k':Nat,k'=k+C0:=⟨_,rfl⟩
 have qc0:Hid (∀ w':World,Own shGrid w' B [I O x0,I O x1,Sz a2 n2 c2,I O x3,I O x4,.bool x5] d.1 F0→Calls Tryd.prog 33 #[.agg #[I O x0,I O x1,Sz a2 n2 c2,I O x3,I O x4,.bool x5],I O ((k:Int))] w' fun e w''=>e=.returned (I O (k0:Int))∧Own shGrid w'' B [I O x0,I O x1,Sz a2 n2 c2,I O x3,I O x4,.bool x5] (Sh.mkV shGrid d.1 (k)) F0∧Touch w' w'' F0):=fun w' h'=>by rw[hk0,hC0];exact markGrid_own _ B (k) _ F0 w' h' ((List.nodup_append.1 hnd).1) (by omega) (by rw[← hC0];omega)
 have HK0:Hid (k0=k+C0):=hk0
 have HC0:Hid (C0=Sh.cntV shGrid d.1):=hC0
 obtain⟨k2,hk2⟩:∃ k':Nat,k'=(k0)+C2:=⟨_,rfl⟩
 have qc2:Hid (∀ w':World,Own (.sl .int) w' B [Sz a7 n7 c7] d.2.2.1 F2→Calls Tryd.prog 34 #[Sz a7 n7 c7,I O ((k0:Int))] w' fun e w''=>e=.returned (I O (k2:Int))∧Own (.sl .int) w'' B [Sz a7 n7 c7] (Sh.mk (.sl .int) d.2.2.1 ((k0))) F2∧Touch w' w'' F2):=fun w' h'=>by rw[hk2,hC2];exact markIntS_own a7 n7 c7 B ((k0)) _ F2 w' h' ((List.nodup_append.1 (List.nodup_append.1 hnd).2.1).1) (by rw[← hC2];omega)
 have HK2:Hid (k2=(k0)+C2):=hk2
 have HC2:Hid (C2=Sh.cnt (.sl .int) d.2.2.1):=hC2
 obtain⟨k3,hk3⟩:∃ k':Nat,k'=(k2)+C3:=⟨_,rfl⟩
 have qc3:Hid (∀ w':World,Own (.sl .u8) w' B [Sz a8 n8 c8] d.2.2.2.1 F3→Calls Tryd.prog 17 #[Sz a8 n8 c8,I O ((k2:Int))] w' fun e w''=>e=.returned (I O (k3:Int))∧Own (.sl .u8) w'' B [Sz a8 n8 c8] (Sh.mk (.sl .u8) d.2.2.2.1 ((k2))) F3∧Touch w' w'' F3):=fun w' h'=>by rw[hk3,hC3];exact markByteS_own a8 n8 c8 B ((k2)) _ F3 w' h' ((List.nodup_append.1 (List.nodup_append.1 (List.nodup_append.1 hnd).2.1).2.1).1) (by rw[← hC3];omega)
 have HK3:Hid (k3=(k2)+C3):=hk3
 have HC3:Hid (C3=Sh.cnt (.sl .u8) d.2.2.2.1):=hC3
 have HND:Hid ((F0++(F2++(F3++([])))).Nodup):=hnd
 obtain⟨W0,hW0⟩:∃ W0,W0=w.alloc (.cells #[I O x0,I O x1,Sz a2 n2 c2,I O x3,I O x4,.bool x5,I O x6,Sz a7 n7 c7,Sz a8 n8 c8,I O x9] 31):=⟨_,rfl⟩
 have bW0:Below w.heap.size w W0:=by rw[hW0];exact(Below.refl _ _).alloc (Nat.le_refl _) _
 have hbx:W0.heap[w.heap.size]?=some (.cells #[I O x0,I O x1,Sz a2 n2 c2,I O x3,I O x4,.bool x5,I O x6,Sz a7 n7 c7,Sz a8 n8 c8,I O x9] 31 (0,0)):=by rw[hW0];exact heap_alloc_new w _
 have zW0:W0.heap.size=w.heap.size+1:=by rw[hW0];simp
 have HW0:Hid (W0=w.alloc (.cells #[I O x0,I O x1,Sz a2 n2 c2,I O x3,I O x4,.bool x5,I O x6,Sz a7 n7 c7,Sz a8 n8 c8,I O x9] 31)):=hW0
 have HBX:Hid (W0.heap[w.heap.size]?=some (.cells #[I O x0,I O x1,Sz a2 n2 c2,I O x3,I O x4,.bool x5,I O x6,Sz a7 n7 c7,Sz a8 n8 c8,I O x9] 31 (0,0))):=hbx
 have p0_0:=o0.later bW0
 have LT0:Hid (∀ y ∈ F0,y < w.heap.size):=fun y hy=>(o0.lt y hy).2
 have p0_2:=o2.later bW0
 have LT2:Hid (∀ y ∈ F2,y < w.heap.size):=fun y hy=>(o2.lt y hy).2
 have p0_3:=o3.later bW0
 have LT3:Hid (∀ y ∈ F3,y < w.heap.size):=fun y hy=>(o3.lt y hy).2
 have t0:Touch w W0 (F0++(F2++(F3++([])))):=Touch.of_below bW0 _
 clear ho hW0 hbx e0 e1 e3 e4 e5 e6 e9 hk0 hC0 o0 hk2 hC2 o2 hk3 hC3 o3
 go_enter Tryd.func11,Tryd.ntmps11
 go_wp2_with fail
 rw[← HW0.out]
 refine(qc0.out _ p0_0).mono ?_
 rintro e w0 ⟨rfl,om0,tq0⟩
 have z0:=tq0.size
 have i0:w0.heap[w.heap.size]?=some (.cells #[I O x0,I O x1,Sz a2 n2 c2,I O x3,I O x4,.bool x5,I O x6,Sz a7 n7 c7,Sz a8 n8 c8,I O x9] 31 (0,0)):=(tq0.block _ (lt_heap HBX.out) (fun h=>by have:=LT0.out _ h;omega)).trans HBX.out
 have p0_0:=om0
 have p0_2:=tq0.own p0_2 (fun y hy hyq=>(List.nodup_append.1 HND.out).2.2 y hyq y (List.mem_append_left _ hy) rfl)
 have p0_3:=tq0.own p0_3 (fun y hy hyq=>(List.nodup_append.1 HND.out).2.2 y hyq y (List.mem_append_right _ (List.mem_append_left _ hy)) rfl)
 have t0:=t0.trans (tq0.mono fun y hy=>(List.mem_append_left _ hy:y ∈ F0++(F2++(F3++([])))))
 have y0_6:w0.cell? ⟨w.heap.size,6,none⟩=some (I O x6):=bxc i0 rfl
 have y0_7:w0.cell? ⟨w.heap.size,7,none⟩=some (Sz a7 n7 c7):=bxc i0 rfl
 have y0_8:w0.cell? ⟨w.heap.size,8,none⟩=some (Sz a8 n8 c8):=bxc i0 rfl
 have y0_9:w0.cell? ⟨w.heap.size,9,none⟩=some (I O x9):=bxc i0 rfl
 have BX0:Hid (w0.heap[w.heap.size]?=some (.cells #[I O x0,I O x1,Sz a2 n2 c2,I O x3,I O x4,.bool x5,I O x6,Sz a7 n7 c7,Sz a8 n8 c8,I O x9] 31 (0,0))):=i0
 clear i0
 go_wp2_with fail
 refine(qc2.out _ p0_2).mono ?_
 rintro e w2 ⟨rfl,om2,tq2⟩
 have z2:=tq2.size
 have i2:w2.heap[w.heap.size]?=some (.cells #[I O x0,I O x1,Sz a2 n2 c2,I O x3,I O x4,.bool x5,I O x6,Sz a7 n7 c7,Sz a8 n8 c8,I O x9] 31 (0,0)):=(tq2.block _ (lt_heap BX0.out) (fun h=>by have:=LT2.out _ h;omega)).trans BX0.out
 have p2_0:=tq2.own p0_0 (fun y hy hyq=>(List.nodup_append.1 HND.out).2.2 y hy y (List.mem_append_left _ hyq) rfl)
 have p2_2:=om2
 have p2_3:=tq2.own p0_3 (fun y hy hyq=>(List.nodup_append.1 (List.nodup_append.1 HND.out).2.1).2.2 y hyq y (List.mem_append_left _ hy) rfl)
 have t2:=t0.trans (tq2.mono fun y hy=>(List.mem_append_right _ (List.mem_append_left _ hy):y ∈ F0++(F2++(F3++([])))))
 have y2_8:w2.cell? ⟨w.heap.size,8,none⟩=some (Sz a8 n8 c8):=bxc i2 rfl
 have y2_9:w2.cell? ⟨w.heap.size,9,none⟩=some (I O x9):=bxc i2 rfl
 have BX2:Hid (w2.heap[w.heap.size]?=some (.cells #[I O x0,I O x1,Sz a2 n2 c2,I O x3,I O x4,.bool x5,I O x6,Sz a7 n7 c7,Sz a8 n8 c8,I O x9] 31 (0,0))):=i2
 clear i2
 go_wp2_with fail
 refine(qc3.out _ p2_3).mono ?_
 rintro e w3 ⟨rfl,om3,tq3⟩
 have z3:=tq3.size
 have i3:w3.heap[w.heap.size]?=some (.cells #[I O x0,I O x1,Sz a2 n2 c2,I O x3,I O x4,.bool x5,I O x6,Sz a7 n7 c7,Sz a8 n8 c8,I O x9] 31 (0,0)):=(tq3.block _ (lt_heap BX2.out) (fun h=>by have:=LT3.out _ h;omega)).trans BX2.out
 have p3_0:=tq3.own p2_0 (fun y hy hyq=>(List.nodup_append.1 HND.out).2.2 y hy y (List.mem_append_right _ (List.mem_append_left _ hyq)) rfl)
 have p3_2:=tq3.own p2_2 (fun y hy hyq=>(List.nodup_append.1 (List.nodup_append.1 HND.out).2.1).2.2 y hy y (List.mem_append_left _ hyq) rfl)
 have p3_3:=om3
 have t3:=t2.trans (tq3.mono fun y hy=>(List.mem_append_right _ (List.mem_append_right _ (List.mem_append_left _ hy)):y ∈ F0++(F2++(F3++([])))))
 have y3_9:w3.cell? ⟨w.heap.size,9,none⟩=some (I O x9):=bxc i3 rfl
 have BX3:Hid (w3.heap[w.heap.size]?=some (.cells #[I O x0,I O x1,Sz a2 n2 c2,I O x3,I O x4,.bool x5,I O x6,Sz a7 n7 c7,Sz a8 n8 c8,I O x9] 31 (0,0))):=i3
 clear i3
 have HT:Hid ((k3:Int)=(((k+(C0+C2+C3):Nat)):Int)):=by have f0:=HK0.out;have f2:=HK2.out;have f3:=HK3.out;show _=_;omega
 have v0:Own shGrid w3 B [I O (d.1.1),I O (d.1.2.1),Sz a2 n2 c2,I O (d.1.2.2.2.1),I O (d.1.2.2.2.2.1),.bool (d.1.2.2.2.2.2.1)] (Sh.mkV shGrid d.1 (k)) F0:=by
   have hv:=p3_0
   rw[HST.out.1,HST.out.2.1,HST.out.2.2.1,HST.out.2.2.2.1,HST.out.2.2.2.2.1] at hv
   exact hv
 have v2:Own (.sl .int) w3 B [Sz a7 n7 c7] (Sh.mk (.sl .int) d.2.2.1 (k+Sh.cntV shGrid d.1)) F2:=by
   have hv:=p3_2
   rw[HK0.out,HC0.out] at hv
   exact hv
 have v3:Own (.sl .u8) w3 B [Sz a8 n8 c8] (Sh.mk (.sl .u8) d.2.2.2.1 (k+Sh.cntV shGrid d.1+Sh.cnt (.sl .int) d.2.2.1)) F3:=by
   have hv:=p3_3
   rw[HK2.out,HC2.out] at hv
   rw[HK0.out,HC0.out] at hv
   exact hv
 have hb:Own shVt w3 B [I O (d.1.1),I O (d.1.2.1),Sz a2 n2 c2,I O (d.1.2.2.2.1),I O (d.1.2.2.2.2.1),.bool (d.1.2.2.2.2.2.1),I O (d.2.1),Sz a7 n7 c7,Sz a8 n8 c8,I O (d.2.2.2.2.1)] (shVt.mkV d k) (F0++(F2++(F3++([])))):=own_Vt (w:=w3) (B:=B) (d:=shVt.mkV d k) v0 v2 v3
 rw[← HST.out.1,← HST.out.2.1,← HST.out.2.2.1,← HST.out.2.2.2.1,← HST.out.2.2.2.2.1,← HST.out.2.2.2.2.2.1,← HST.out.2.2.2.2.2.2.1] at hb
 have HB:Hid (Own shVt w3 B [I O x0,I O x1,Sz a2 n2 c2,I O x3,I O x4,.bool x5,I O x6,Sz a7 n7 c7,Sz a8 n8 c8,I O x9] (shVt.mkV d k) (F0++(F2++(F3++([]))))):=hb
 clear hb v0 v2 v3 p3_0 p3_2 p3_3
 go_wp2
 go_ret
 exact⟨by rw[← HT.out];rfl,HB.out,t3⟩
set_option maxRecDepth 100000 in
theorem heldVt_own (cs:List Value) (B k:Nat) (d:shVt.D) (F:List Nat) (w:World) (ho:Own shVt w B cs (shVt.mkV d k) F) (hnd:F.Nodup) (hk0:1≤k) (hk:k+shVt.cntV d≤1000000000000) :
   Calls Tryd.prog 12 #[.agg cs.toArray,I O k] w fun e w'=>e=.returned (I O ((k+shVt.cntV d:Nat):Int))∧Below w.heap.size w w':=by
 rw[cntV_Vt] at hk ⊢
 obtain⟨a2,n2,c2,F0,a7,n7,c7,F2,a8,n8,c8,F3,rfl,rfl,o0,o2,o3⟩:=openO_Vt ho
 obtain⟨x0,e0⟩:∃ x:Int,x=(shVt.mkV d k).1.1:=⟨_,rfl⟩
 obtain⟨x1,e1⟩:∃ x:Int,x=(shVt.mkV d k).1.2.1:=⟨_,rfl⟩
 obtain⟨x3,e3⟩:∃ x:Int,x=(shVt.mkV d k).1.2.2.2.1:=⟨_,rfl⟩
 obtain⟨x4,e4⟩:∃ x:Int,x=(shVt.mkV d k).1.2.2.2.2.1:=⟨_,rfl⟩
 obtain⟨x5,e5⟩:∃ x:Bool,x=(shVt.mkV d k).1.2.2.2.2.2.1:=⟨_,rfl⟩
 obtain⟨x6,e6⟩:∃ x:Int,x=(shVt.mkV d k).2.1:=⟨_,rfl⟩
 obtain⟨x9,e9⟩:∃ x:Int,x=(shVt.mkV d k).2.2.2.2.1:=⟨_,rfl⟩
 obtain⟨C0,hC0⟩:∃ C,C=Sh.cntV shGrid d.1:=⟨_,rfl⟩
 obtain⟨C2,hC2⟩:∃ C,C=Sh.cnt (.sl .int) d.2.2.1:=⟨_,rfl⟩
 obtain⟨C3,hC3⟩:∃ C,C=Sh.cnt (.sl .u8) d.2.2.2.1:=⟨_,rfl⟩
 replace o0:Own shGrid w B [I O x0,I O x1,Sz a2 n2 c2,I O x3,I O x4,.bool x5] (shVt.mkV d k).1 F0:=by rw[e0,e1,e3,e4,e5];exact o0
 rw[← e0,← e1,← e3,← e4,← e5,← e6,← e9]
 rw[← hC0,← hC2,← hC3] at hk ⊢
 obtain⟨k0,hk0⟩:∃ k':Nat,k'=k+C0:=⟨_,rfl⟩
 have ou0:Own shGrid w B [I O x0,I O x1,Sz a2 n2 c2,I O x3,I O x4,.bool x5] (Sh.mkV shGrid d.1 (k)) F0:=by
   have hv:Own shGrid w B [I O x0,I O x1,Sz a2 n2 c2,I O x3,I O x4,.bool x5] (Sh.mkV shGrid d.1 (k)) F0:=o0
   exact hv
 have qc0:Hid (∀ w':World,Below w.heap.size w w'→Calls Tryd.prog 35 #[.agg #[I O x0,I O x1,Sz a2 n2 c2,I O x3,I O x4,.bool x5],I O ((k:Int))] w' fun e w''=>e=.returned (I O (k0:Int))∧Below w'.heap.size w' w''):=fun w' h'=>by rw[hk0,hC0];exact heldGrid_own _ B (k) _ F0 w' (ou0.later h') ((List.nodup_append.1 hnd).1) (by omega) (by rw[← hC0];omega)
 have nn0:¬ ((k0:Int) < 0):=by omega
 have HK0:Hid (k0=k+C0):=hk0
 have HC0:Hid (C0=Sh.cntV shGrid d.1):=hC0
 obtain⟨k2,hk2⟩:∃ k':Nat,k'=(k0)+C2:=⟨_,rfl⟩
 have ou2:Own (.sl .int) w B [Sz a7 n7 c7] (Sh.mk (.sl .int) d.2.2.1 ((k0))) F2:=by
   have hv:Own (.sl .int) w B [Sz a7 n7 c7] (Sh.mk (.sl .int) d.2.2.1 (k+Sh.cntV shGrid d.1)) F2:=o2
   rw[show k+Sh.cntV shGrid d.1=(k0) by have f0:=hk0;have g0:=hC0;omega] at hv
   exact hv
 have qc2:Hid (∀ w':World,Below w.heap.size w w'→Calls Tryd.prog 36 #[Sz a7 n7 c7,I O ((k0:Int))] w' fun e w''=>e=.returned (I O (k2:Int))∧Below w'.heap.size w' w''):=fun w' h'=>by rw[hk2,hC2];exact heldIntS_own a7 n7 c7 B ((k0)) _ F2 w' (ou2.later h') (by rw[← hC2];omega)
 have nn2:¬ ((k2:Int) < 0):=by omega
 have HK2:Hid (k2=(k0)+C2):=hk2
 have HC2:Hid (C2=Sh.cnt (.sl .int) d.2.2.1):=hC2
 obtain⟨k3,hk3⟩:∃ k':Nat,k'=(k2)+C3:=⟨_,rfl⟩
 have ou3:Own (.sl .u8) w B [Sz a8 n8 c8] (Sh.mk (.sl .u8) d.2.2.2.1 ((k2))) F3:=by
   have hv:Own (.sl .u8) w B [Sz a8 n8 c8] (Sh.mk (.sl .u8) d.2.2.2.1 (k+Sh.cntV shGrid d.1+Sh.cnt (.sl .int) d.2.2.1)) F3:=o3
   rw[show k+Sh.cntV shGrid d.1+Sh.cnt (.sl .int) d.2.2.1=(k2) by have f0:=hk0;have g0:=hC0;have f2:=hk2;have g2:=hC2;omega] at hv
   exact hv
 have qc3:Hid (∀ w':World,Below w.heap.size w w'→Calls Tryd.prog 37 #[Sz a8 n8 c8,I O ((k2:Int))] w' fun e w''=>e=.returned (I O (k3:Int))∧Below w'.heap.size w' w''):=fun w' h'=>by rw[hk3,hC3];exact heldByteS_own a8 n8 c8 B ((k2)) _ F3 w' (ou3.later h') (by rw[← hC3];omega)
 have nn3:¬ ((k3:Int) < 0):=by omega
 have HK3:Hid (k3=(k2)+C3):=hk3
 have HC3:Hid (C3=Sh.cnt (.sl .u8) d.2.2.2.1):=hC3
 obtain⟨W0,hW0⟩:∃ W0,W0=w.alloc (.cells #[I O x0,I O x1,Sz a2 n2 c2,I O x3,I O x4,.bool x5,I O x6,Sz a7 n7 c7,Sz a8 n8 c8,I O x9] 31):=⟨_,rfl⟩
 have bW0:Below w.heap.size w W0:=by rw[hW0];exact(Below.refl _ _).alloc (Nat.le_refl _) _
 have hbx:W0.heap[w.heap.size]?=some (.cells #[I O x0,I O x1,Sz a2 n2 c2,I O x3,I O x4,.bool x5,I O x6,Sz a7 n7 c7,Sz a8 n8 c8,I O x9] 31 (0,0)):=by rw[hW0];exact heap_alloc_new w _
 have zW0:W0.heap.size=w.heap.size+1:=by rw[hW0];simp
 have HW0:Hid (W0=w.alloc (.cells #[I O x0,I O x1,Sz a2 n2 c2,I O x3,I O x4,.bool x5,I O x6,Sz a7 n7 c7,Sz a8 n8 c8,I O x9] 31)):=hW0
 have HBX:Hid (W0.heap[w.heap.size]?=some (.cells #[I O x0,I O x1,Sz a2 n2 c2,I O x3,I O x4,.bool x5,I O x6,Sz a7 n7 c7,Sz a8 n8 c8,I O x9] 31 (0,0))):=hbx
 clear ho hW0 hbx e0 e1 e3 e4 e5 e6 e9 hk0 hC0 o0 hk2 hC2 o2 hk3 hC3 o3 ou0 ou2 ou3
 go_enter Tryd.func12,Tryd.ntmps12
 go_wp2_with fail
 rw[← HW0.out]
 refine(qc0.out _ bW0).mono ?_
 rintro e w0 ⟨rfl,hb0⟩
 have b0:=bW0.trans (hb0.mono bW0.size)
 have z0:=hb0.size
 have i0:w0.heap[w.heap.size]?=some (.cells #[I O x0,I O x1,Sz a2 n2 c2,I O x3,I O x4,.bool x5,I O x6,Sz a7 n7 c7,Sz a8 n8 c8,I O x9] 31 (0,0)):=(hb0.block _ (lt_heap HBX.out)).trans HBX.out
 clear hb0
 have y0_6:w0.cell? ⟨w.heap.size,6,none⟩=some (I O x6):=bxc i0 rfl
 have y0_7:w0.cell? ⟨w.heap.size,7,none⟩=some (Sz a7 n7 c7):=bxc i0 rfl
 have y0_8:w0.cell? ⟨w.heap.size,8,none⟩=some (Sz a8 n8 c8):=bxc i0 rfl
 have y0_9:w0.cell? ⟨w.heap.size,9,none⟩=some (I O x9):=bxc i0 rfl
 have BX0:Hid (w0.heap[w.heap.size]?=some (.cells #[I O x0,I O x1,Sz a2 n2 c2,I O x3,I O x4,.bool x5,I O x6,Sz a7 n7 c7,Sz a8 n8 c8,I O x9] 31 (0,0))):=i0
 clear i0
 go_wp2_with fail
 refine(qc2.out _ b0).mono ?_
 rintro e w2 ⟨rfl,hb2⟩
 have b2:=b0.trans (hb2.mono b0.size)
 have z2:=hb2.size
 have i2:w2.heap[w.heap.size]?=some (.cells #[I O x0,I O x1,Sz a2 n2 c2,I O x3,I O x4,.bool x5,I O x6,Sz a7 n7 c7,Sz a8 n8 c8,I O x9] 31 (0,0)):=(hb2.block _ (lt_heap BX0.out)).trans BX0.out
 clear hb2
 have y2_8:w2.cell? ⟨w.heap.size,8,none⟩=some (Sz a8 n8 c8):=bxc i2 rfl
 have y2_9:w2.cell? ⟨w.heap.size,9,none⟩=some (I O x9):=bxc i2 rfl
 have BX2:Hid (w2.heap[w.heap.size]?=some (.cells #[I O x0,I O x1,Sz a2 n2 c2,I O x3,I O x4,.bool x5,I O x6,Sz a7 n7 c7,Sz a8 n8 c8,I O x9] 31 (0,0))):=i2
 clear i2
 go_wp2_with fail
 refine(qc3.out _ b2).mono ?_
 rintro e w3 ⟨rfl,hb3⟩
 have b3:=b2.trans (hb3.mono b2.size)
 have z3:=hb3.size
 have i3:w3.heap[w.heap.size]?=some (.cells #[I O x0,I O x1,Sz a2 n2 c2,I O x3,I O x4,.bool x5,I O x6,Sz a7 n7 c7,Sz a8 n8 c8,I O x9] 31 (0,0)):=(hb3.block _ (lt_heap BX2.out)).trans BX2.out
 clear hb3
 have y3_9:w3.cell? ⟨w.heap.size,9,none⟩=some (I O x9):=bxc i3 rfl
 have BX3:Hid (w3.heap[w.heap.size]?=some (.cells #[I O x0,I O x1,Sz a2 n2 c2,I O x3,I O x4,.bool x5,I O x6,Sz a7 n7 c7,Sz a8 n8 c8,I O x9] 31 (0,0))):=i3
 clear i3
 have HT:Hid ((k3:Int)=(((k+(C0+C2+C3):Nat)):Int)):=by have f0:=HK0.out;have f2:=HK2.out;have f3:=HK3.out;show _=_;omega
 go_wp2
 go_ret
 exact⟨by rw[← HT.out];rfl,b3⟩
end Go.Proofs.YthodinpflcbklaaDoor
