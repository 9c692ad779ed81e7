/-
  Parts of the road to VB, joined: TyVt, MkGrid.
-/
import Derived.Test.YthodinpflcbklaaDoorM0VB
import Derived.Handy
import Derived.Deep.RegionHeld3
import Derived.Test.YthodinpflcbklaaDoorM2VB
import Derived.Test.YthodinpflcbklaaDoorM1VB
open Go.Value renaming int → I,slice → Sz
open Go.IntKind renaming i64 → O
open List renaming setIfInBounds_toArray → lA,getElem_toArray → lB,getElem_cons_succ → lC,getElem_cons_zero → lD,set_cons_zero → lE,set_cons_succ → lF
set_option linter.unusedVariables false
set_option linter.unusedSimpArgs false
set_option maxHeartbeats 40000000
namespace Go.Proofs.YthodinpflcbklaaDoor
open Go.RowKit
def shVt:Sh:=Sh.ofL [shGrid,.int,(.sl .int),(.sl .u8),.int]
theorem open_Vt{w:World}{cs:List Value}{d:shVt.D}(h:Reads shVt w cs d):
   ∃ a2 n2 c2 a7 n7 c7 a8 n8 c8,cs=[I O (d.1.1),I O (d.1.2.1),Sz a2 n2 c2,I O (d.1.2.2.2.1),I O (d.1.2.2.2.2.1),.bool (d.1.2.2.2.2.2.1),I O (d.2.1),Sz a7 n7 c7,Sz a8 n8 c8,I O (d.2.2.2.2.1)]∧Reads shGrid w [I O (d.1.1),I O (d.1.2.1),Sz a2 n2 c2,I O (d.1.2.2.2.1),I O (d.1.2.2.2.2.1),.bool (d.1.2.2.2.2.2.1)] d.1∧Reads (.sl .int) w [Sz a7 n7 c7] d.2.2.1∧Reads (.sl .u8) w [Sz a8 n8 c8] d.2.2.2.1:=by
 obtain⟨_,_,rfl,h0,_,_,rfl,h1,_,_,rfl,h2,_,_,rfl,h3,_,_,rfl,h4,hE⟩:=h
 have g0:=h0
 obtain⟨a2,n2,c2,e0,_⟩:=open_Grid g0
 have e1:_=_:=h1
 have g2:=h2
 obtain⟨a7,c7,e2,_⟩:=g2
 have g3:=h3
 obtain⟨a8,c8,e3,_⟩:=g3
 have e4:_=_:=h4
 have eE:_=_:=hE
 subst e0 e1 e2 e3 e4 eE
 exact⟨a2,n2,c2,a7,_,c7,a8,_,c8,rfl,h0,h2,h3⟩
theorem own_Vt{w:World}{B:Nat}{d:shVt.D}{v2:Value}{F0:List Nat}{v7:Value}{F2:List Nat}{v8:Value}{F3:List Nat}(o0:Own shGrid w B [I O (d.1.1),I O (d.1.2.1),v2,I O (d.1.2.2.2.1),I O (d.1.2.2.2.2.1),.bool (d.1.2.2.2.2.2.1)] d.1 F0)(o2:Own (.sl .int) w B [v7] d.2.2.1 F2)(o3:Own (.sl .u8) w B [v8] d.2.2.2.1 F3):
   Own shVt w B [I O (d.1.1),I O (d.1.2.1),v2,I O (d.1.2.2.2.1),I O (d.1.2.2.2.2.1),.bool (d.1.2.2.2.2.2.1),I O (d.2.1),v7,v8,I O (d.2.2.2.2.1)] d (F0++(F2++(F3++([])))):=by
 exact⟨[_,_,_,_,_,_],_,F0,F2++(F3++([])),rfl,rfl,o0,⟨[_],_,[],F2++(F3++([])),rfl,rfl,⟨rfl,rfl⟩,⟨[_],_,F2,F3++([]),rfl,rfl,o2,⟨[_],_,F3,[],rfl,rfl,o3,⟨[_],_,[],[],rfl,rfl,⟨rfl,rfl⟩,⟨rfl,rfl⟩⟩⟩⟩⟩⟩
theorem size_Vt:shVt.size=10:=rfl
theorem sz_Vt(d:shVt.D):shVt.sz d=Sh.sz shGrid d.1+Sh.sz (.sl .int) d.2.2.1+Sh.sz (.sl .u8) d.2.2.2.1:=by
 show Sh.sz shGrid d.1+(0+(Sh.sz (.sl .int) d.2.2.1+(Sh.sz (.sl .u8) d.2.2.2.1+(0+(0)))))=_
 omega
theorem szVt_any(cs:List Value)(d:shVt.D)(left:Int)(w:World)(hr:Reads shVt w cs d)(h0:0≤left)(h1:left≤1048576):
   Calls Tryd.prog 6 #[.agg cs.toArray,I O left] w fun e w'=>e=.returned (I O (szAns (shVt.sz d) left))∧Below w.heap.size w w':=by
 obtain⟨a2,n2,c2,a7,n7,c7,a8,n8,c8,rfl,r0,r2,r3⟩:=open_Vt hr
 obtain⟨x0,e0⟩:∃ x:Int,x=d.1.1:=⟨_,rfl⟩
 obtain⟨x1,e1⟩:∃ x:Int,x=d.1.2.1:=⟨_,rfl⟩
 obtain⟨x3,e3⟩:∃ x:Int,x=d.1.2.2.2.1:=⟨_,rfl⟩
 obtain⟨x4,e4⟩:∃ x:Int,x=d.1.2.2.2.2.1:=⟨_,rfl⟩
 obtain⟨x5,e5⟩:∃ x:Bool,x=d.1.2.2.2.2.2.1:=⟨_,rfl⟩
 obtain⟨x6,e6⟩:∃ x:Int,x=d.2.1:=⟨_,rfl⟩
 obtain⟨x9,e9⟩:∃ x:Int,x=d.2.2.2.2.1:=⟨_,rfl⟩
 rw[sz_Vt]
 obtain⟨k0,hk0⟩:∃ k,k=Sh.sz shGrid d.1:=⟨_,rfl⟩
 have q0:Hid (∀ w',Below w.heap.size w w'→∀ l:Int,0≤l→l≤1048576→Calls Tryd.prog 23 #[.agg #[I O x0,I O x1,Sz a2 n2 c2,I O x3,I O x4,.bool x5],I O l] w' fun e w''=>e=.returned (I O (szAns k0 l))∧Below w'.heap.size w' w''):=fun w' hb l l0 l1=>by rw[hk0,e0,e1,e3,e4,e5];exact szGrid_any _ _ l w' (r0.later hb) l0 l1
 obtain⟨k2,hk2⟩:∃ k,k=Sh.sz (.sl .int) d.2.2.1:=⟨_,rfl⟩
 have q2:Hid (∀ w',Below w.heap.size w w'→∀ l:Int,0≤l→l≤1048576→Calls Tryd.prog 24 #[Sz a7 n7 c7,I O l] w' fun e w''=>e=.returned (I O (szAns k2 l))∧Below w'.heap.size w' w''):=fun w' hb l l0 l1=>by rw[hk2];exact szIntS_any a7 n7 c7 _ l w' (r2.later hb) l0 l1
 obtain⟨k3,hk3⟩:∃ k,k=Sh.sz (.sl .u8) d.2.2.2.1:=⟨_,rfl⟩
 have q3:Hid (∀ w',Below w.heap.size w w'→∀ l:Int,0≤l→l≤1048576→Calls Tryd.prog 25 #[Sz a8 n8 c8,I O l] w' fun e w''=>e=.returned (I O (szAns k3 l))∧Below w'.heap.size w' w''):=fun w' hb l l0 l1=>by rw[hk3];exact szByteS_any a8 n8 c8 _ l w' (r3.later hb) l0 l1
 rw[← hk0,← hk2,← hk3]
 rw[← e0,← e1,← e3,← e4,← e5,← e6,← e9]
 clear hr r0 hk0 r2 hk2 r3 hk3 e0 e1 e3 e4 e5 e6 e9
 obtain⟨W0,hW0⟩:∃ W0,W0=w.alloc (.cells #[I O x0,I O x1,Sz a2 n2 c2,I O x3,I O x4,.bool x5,I O x6,Sz a7 n7 c7,Sz a8 n8 c8,I O x9] 27):=⟨_,rfl⟩
 have bW0:Below w.heap.size w W0:=by rw[hW0];exact(Below.refl _ _).alloc (Nat.le_refl _) _
 have hbox:W0.heap[w.heap.size]?=some (.cells #[I O x0,I O x1,Sz a2 n2 c2,I O x3,I O x4,.bool x5,I O x6,Sz a7 n7 c7,Sz a8 n8 c8,I O x9] 27 (0,0)):=by rw[hW0];exact heap_alloc_new w _
 have zW0:W0.heap.size=w.heap.size+1:=by rw[hW0];simp
 have HW0:Hid (W0=_):=hW0
 have HBX:Hid _:=hbox
 clear hW0 hbox
 go_enter Tryd.func6,Tryd.ntmps6
 go_wp2_with fail
 rw[← HW0.out]
 refine(q0.out _ bW0 (left) (by omega) (by omega)).mono ?_
 rintro e w0 ⟨rfl,hb0⟩
 have b0:=bW0.trans (hb0.mono bW0.size)
 have i0:w0.heap[w.heap.size]?=_:=(hb0.block _ (by rw[zW0];omega)).trans HBX.out
 have z0:=hb0.size
 rw[zW0] at z0
 have y0_6:w0.cell? ⟨w.heap.size,6,none⟩=some (I O x6):=bxc i0 rfl
 have y0_7:w0.cell? ⟨w.heap.size,7,none⟩=some (Sz a7 n7 c7):=bxc i0 rfl
 have y0_8:w0.cell? ⟨w.heap.size,8,none⟩=some (Sz a8 n8 c8):=bxc i0 rfl
 have y0_9:w0.cell? ⟨w.heap.size,9,none⟩=some (I O x9):=bxc i0 rfl
 have I0:Hid _:=i0
 clear i0 hb0
 by_cases t0:(k0:Int)≤left
 rotate_left
 · rw[szAns_no t0]
   have E:Hid (szAns (k0+k2+k3) left=-1):=szAns_no (by omega)
   go_wp2
   go_ret
   exact⟨by rw[E.out];rfl,b0⟩
 rw[szAns_yes t0]
 have u0:¬ (left - (k0:Int) < 0):=by omega
 go_wp2_with fail
 refine(q2.out _ b0 (left - (k0:Int)) (by omega) (by omega)).mono ?_
 rintro e w2 ⟨rfl,hb2⟩
 have b2:=b0.trans (hb2.mono b0.size)
 have i2:w2.heap[w.heap.size]?=_:=(hb2.block _ (by omega)).trans I0.out
 have z2:=hb2.size
 have y2_8:w2.cell? ⟨w.heap.size,8,none⟩=some (Sz a8 n8 c8):=bxc i2 rfl
 have y2_9:w2.cell? ⟨w.heap.size,9,none⟩=some (I O x9):=bxc i2 rfl
 have I2:Hid _:=i2
 clear i2 hb2
 by_cases t2:(k2:Int)≤left - (k0:Int)
 rotate_left
 · rw[szAns_no t2]
   have E:Hid (szAns (k0+k2+k3) left=-1):=szAns_no (by omega)
   go_wp2
   go_ret
   exact⟨by rw[E.out];rfl,b2⟩
 rw[szAns_yes t2]
 have u2:¬ (left - (k0:Int) - (k2:Int) < 0):=by omega
 go_wp2_with fail
 refine(q3.out _ b2 (left - (k0:Int) - (k2:Int)) (by omega) (by omega)).mono ?_
 rintro e w3 ⟨rfl,hb3⟩
 have b3:=b2.trans (hb3.mono b2.size)
 have i3:w3.heap[w.heap.size]?=_:=(hb3.block _ (by omega)).trans I2.out
 have z3:=hb3.size
 have y3_9:w3.cell? ⟨w.heap.size,9,none⟩=some (I O x9):=bxc i3 rfl
 have I3:Hid _:=i3
 clear i3 hb3
 by_cases t3:(k3:Int)≤left - (k0:Int) - (k2:Int)
 rotate_left
 · rw[szAns_no t3]
   have E:Hid (szAns (k0+k2+k3) left=-1):=szAns_no (by omega)
   go_wp2
   go_ret
   exact⟨by rw[E.out];rfl,b3⟩
 rw[szAns_yes t3]
 have u3:¬ (left - (k0:Int) - (k2:Int) - (k3:Int) < 0):=by omega
 have E:Hid (szAns (k0+k2+k3) left=left - (k0:Int) - (k2:Int) - (k3:Int)):=by show _=_;rw[szAns_yes (by omega)];omega
 go_wp2
 go_ret
 exact⟨by rw[E.out];rfl,b3⟩
theorem opens_Vt{H:Type}{enc:TypeId × Value→H}{w:World}{spare:Nat→Bool}{held:Bool}:Opens enc Tryd.prog w spare held 27 shVt:=by
 refine opens_struct [shGrid,.int,(.sl .int),(.sl .u8),.int] Tryd.underlying27 (by kernel_rfl) (fun i s hi=>?_)
 match i,hi with
 | 0,hi=>obtain rfl:=Option.some.inj hi;exact⟨_,rfl,opens_Grid,rfl⟩
 | 1,hi=>obtain rfl:=Option.some.inj hi;exact⟨_,rfl,opens_int Tryd.underlying3 (by kernel_rfl),rfl⟩
 | 2,hi=>obtain rfl:=Option.some.inj hi;exact⟨_,rfl,opens_sl Tryd.underlying22 (by kernel_rfl) (by decide) (opens_int Tryd.underlying3 (by kernel_rfl)),rfl⟩
 | 3,hi=>obtain rfl:=Option.some.inj hi;exact⟨_,rfl,opens_sl Tryd.underlying25 (by kernel_rfl) (by decide) (opens_u8 Tryd.underlying5 (by kernel_rfl)),rfl⟩
 | 4,hi=>obtain rfl:=Option.some.inj hi;exact⟨_,rfl,opens_int Tryd.underlying3 (by kernel_rfl),rfl⟩
 | n+5,hi=>simp at hi
set_option maxRecDepth 100000 in
theorem toVt_any (cs:List Value) (d:shVt.D) (w:World) (hr:Reads shVt w cs d) (hs:shVt.sz d≤1048576) :
   Calls Tryd.prog 8 #[.agg cs.toArray] w fun e w'=>∃ cs' F,e=.returned (.agg cs'.toArray)∧Own shVt w' w.heap.size cs' d F∧F.Nodup∧Below w.heap.size w w':=by
 obtain⟨a2,n2,c2,a7,n7,c7,a8,n8,c8,rfl,r0,r2,r3⟩:=open_Vt hr
 obtain⟨x0,e0⟩:∃ x:Int,x=d.1.1:=⟨_,rfl⟩
 obtain⟨x1,e1⟩:∃ x:Int,x=d.1.2.1:=⟨_,rfl⟩
 obtain⟨x3,e3⟩:∃ x:Int,x=d.1.2.2.2.1:=⟨_,rfl⟩
 obtain⟨x4,e4⟩:∃ x:Int,x=d.1.2.2.2.2.1:=⟨_,rfl⟩
 obtain⟨x5,e5⟩:∃ x:Bool,x=d.1.2.2.2.2.2.1:=⟨_,rfl⟩
 obtain⟨x6,e6⟩:∃ x:Int,x=d.2.1:=⟨_,rfl⟩
 obtain⟨x9,e9⟩:∃ x:Int,x=d.2.2.2.2.1:=⟨_,rfl⟩
 rw[sz_Vt] at hs
 have q0:Hid (∀ w',Below w.heap.size w w'→Calls Tryd.prog 29 #[.agg #[I O x0,I O x1,Sz a2 n2 c2,I O x3,I O x4,.bool x5]] w' fun e w''=>∃ (g2:Option Addr) (m2 k2:Nat) (F:List Nat),e=.returned (.agg #[I O x0,I O x1,Sz g2 m2 k2,I O x3,I O x4,.bool x5])∧Own shGrid w'' w'.heap.size [I O x0,I O x1,Sz g2 m2 k2,I O x3,I O x4,.bool x5] d.1 F∧F.Nodup∧Below w'.heap.size w' w''):=fun w' h'=>by
   rw[e0,e1,e3,e4,e5]
   refine(toGrid_any _ _ w' (r0.later h') (by show Sh.sz shGrid _≤_;omega)).mono ?_
   rintro e w'' ⟨cs',F,rfl,ho,hn,hb⟩
   obtain⟨_,_,_,e,_⟩:=open_Grid ho.reads
   subst e
   exact⟨_,_,_,F,rfl,ho,hn,hb⟩
 have q2:Hid (∀ w',Below w.heap.size w w'→Calls Tryd.prog 30 #[Sz a7 n7 c7] w' fun e w''=>∃ (g7:Option Addr) (m7 k7:Nat) (F:List Nat),e=.returned (Sz g7 m7 k7)∧Own (.sl .int) w'' w'.heap.size [Sz g7 m7 k7] d.2.2.1 F∧F.Nodup∧Below w'.heap.size w' w''):=fun w' h'=>by
   refine(toIntS_own a7 n7 c7 _ w' (r2.later h') (by omega)).mono ?_
   rintro e w'' ⟨g,F,rfl,ho,hn,hb⟩
   exact⟨_,_,_,F,rfl,ho,hn,hb⟩
 have q3:Hid (∀ w',Below w.heap.size w w'→Calls Tryd.prog 14 #[Sz a8 n8 c8] w' fun e w''=>∃ (g8:Option Addr) (m8 k8:Nat) (F:List Nat),e=.returned (Sz g8 m8 k8)∧Own (.sl .u8) w'' w'.heap.size [Sz g8 m8 k8] d.2.2.2.1 F∧F.Nodup∧Below w'.heap.size w' w''):=fun w' h'=>by
   refine(toByteS_own a8 n8 c8 _ w' (r3.later h') (by omega)).mono ?_
   rintro e w'' ⟨g,F,rfl,ho,hn,hb⟩
   exact⟨_,_,_,F,rfl,ho,hn,hb⟩
 rw[← e0,← e1,← e3,← e4,← e5,← e6,← e9]
 have HE:Hid (x0=d.1.1∧x1=d.1.2.1∧x3=d.1.2.2.2.1∧x4=d.1.2.2.2.2.1∧x5=d.1.2.2.2.2.2.1∧x6=d.2.1∧x9=d.2.2.2.2.1∧True):=⟨e0,e1,e3,e4,e5,e6,e9,trivial⟩
 obtain⟨i0,i1,i2,isz⟩:=alloc3_heap w (.cells #[I O x0,I O x1,Sz a2 n2 c2,I O x3,I O x4,.bool x5,I O x6,Sz a7 n7 c7,Sz a8 n8 c8,I O x9] 27) (.cells #[I O 0,I O 0,Sz none 0 0,I O 0,I O 0,.bool false,I O 0,Sz none 0 0,Sz none 0 0,I O 0] 31) (.cells #[I O 0,I O 0,Sz none 0 0,I O 0,I O 0,.bool false,I O 0,Sz none 0 0,Sz none 0 0,I O 0] 31)
 obtain⟨W0,hW0⟩:∃ W0,W0=((w.alloc (.cells #[I O x0,I O x1,Sz a2 n2 c2,I O x3,I O x4,.bool x5,I O x6,Sz a7 n7 c7,Sz a8 n8 c8,I O x9] 27)).alloc (.cells #[I O 0,I O 0,Sz none 0 0,I O 0,I O 0,.bool false,I O 0,Sz none 0 0,Sz none 0 0,I O 0] 31)).alloc (.cells #[I O 0,I O 0,Sz none 0 0,I O 0,I O 0,.bool false,I O 0,Sz none 0 0,Sz none 0 0,I O 0] 31):=⟨_,rfl⟩
 rw[← hW0] at i0 i1 i2 isz
 have bW0:Below w.heap.size w W0:=by rw[hW0];exact(((Below.refl _ _).alloc (Nat.le_refl _) _).alloc (by simp) _).alloc (by simp;omega) _
 have HW0:Hid (W0=_):=hW0
 have HI:Hid (_∧_∧_):=⟨i0,i1,i2⟩
 have hle2:w.heap.size≤w.heap.size+1+1:=by omega
 have hle1:w.heap.size≤w.heap.size+1:=by omega
 have hne0:w.heap.size≠w.heap.size+1+1:=by omega
 have hne1:w.heap.size+1≠w.heap.size+1+1:=by omega
 have Hle:Hid (_∧_):=⟨hle1,hle2⟩
 clear hr hs hW0 i0 i1 i2 r0 r2 r3 e0 e1 e3 e4 e5 e6 e9
 go_enter Tryd.func8,Tryd.ntmps8
 go_wp2_with fail
 rw[← HW0.out]
 refine(q0.out _ bW0).mono ?_
 rintro e w0 ⟨g2,m2,k2,F0,rfl,o0,nd0,hb0⟩
 have b0:=bW0.trans (hb0.mono bW0.size)
 have z0:=hb0.size
 have iA:w0.heap[w.heap.size]?=some (.cells #[I O x0,I O x1,Sz a2 n2 c2,I O x3,I O x4,.bool x5,I O x6,Sz a7 n7 c7,Sz a8 n8 c8,I O x9] 27 (0,0)):=(hb0.block _ (by omega)).trans HI.out.1
 have iB:w0.heap[w.heap.size+1]?=some (.cells #[I O 0,I O 0,Sz none 0 0,I O 0,I O 0,.bool false,I O 0,Sz none 0 0,Sz none 0 0,I O 0] 31 (0,0)):=(hb0.block _ (by omega)).trans HI.out.2.1
 have iC:w0.heap[w.heap.size+1+1]?=some (.cells #[I O 0,I O 0,Sz none 0 0,I O 0,I O 0,.bool false,I O 0,Sz none 0 0,Sz none 0 0,I O 0] 31 (0,0)):=(hb0.block _ (by omega)).trans HI.out.2.2
 have ya0_6:w0.cell? ⟨w.heap.size,6,none⟩=some (I O x6):=bxc iA rfl
 have ya0_7:w0.cell? ⟨w.heap.size,7,none⟩=some (Sz a7 n7 c7):=bxc iA rfl
 have ya0_8:w0.cell? ⟨w.heap.size,8,none⟩=some (Sz a8 n8 c8):=bxc iA rfl
 have ya0_9:w0.cell? ⟨w.heap.size,9,none⟩=some (I O x9):=bxc iA rfl
 have yb0_0:w0.cell? ⟨w.heap.size+1+1,0,none⟩=some (I O 0):=bxc iC rfl
 have yf0_0:w0.frozen? ⟨w.heap.size+1+1,0,none⟩=false:=box_frozen iC
 have yb0_1:w0.cell? ⟨w.heap.size+1+1,1,none⟩=some (I O 0):=bxc iC rfl
 have yf0_1:w0.frozen? ⟨w.heap.size+1+1,1,none⟩=false:=box_frozen iC
 have yb0_2:w0.cell? ⟨w.heap.size+1+1,2,none⟩=some (Sz none 0 0):=bxc iC rfl
 have yf0_2:w0.frozen? ⟨w.heap.size+1+1,2,none⟩=false:=box_frozen iC
 have yb0_3:w0.cell? ⟨w.heap.size+1+1,3,none⟩=some (I O 0):=bxc iC rfl
 have yf0_3:w0.frozen? ⟨w.heap.size+1+1,3,none⟩=false:=box_frozen iC
 have yb0_4:w0.cell? ⟨w.heap.size+1+1,4,none⟩=some (I O 0):=bxc iC rfl
 have yf0_4:w0.frozen? ⟨w.heap.size+1+1,4,none⟩=false:=box_frozen iC
 have yb0_5:w0.cell? ⟨w.heap.size+1+1,5,none⟩=some (.bool false):=bxc iC rfl
 have yf0_5:w0.frozen? ⟨w.heap.size+1+1,5,none⟩=false:=box_frozen iC
 have yb0_6:w0.cell? ⟨w.heap.size+1+1,6,none⟩=some (I O 0):=bxc iC rfl
 have yf0_6:w0.frozen? ⟨w.heap.size+1+1,6,none⟩=false:=box_frozen iC
 rw[isz] at o0
 obtain⟨W0,hW0⟩:∃ W,W=(((((((w0).setCell ⟨w.heap.size+1+1,0,none⟩ (I O x0)).setCell ⟨w.heap.size+1+1,1,none⟩ (I O x1)).setCell ⟨w.heap.size+1+1,2,none⟩ (Sz g2 m2 k2)).setCell ⟨w.heap.size+1+1,3,none⟩ (I O x3)).setCell ⟨w.heap.size+1+1,4,none⟩ (I O x4)).setCell ⟨w.heap.size+1+1,5,none⟩ (.bool x5)).setCell ⟨w.heap.size+1+1,6,none⟩ (I O x6):=⟨_,rfl⟩
 have bW0:Below w.heap.size w W0:=by rw[hW0];exact(((((((b0.setCell hle2 _).setCell hle2 _).setCell hle2 _).setCell hle2 _).setCell hle2 _).setCell hle2 _).setCell hle2 _)
 have zW0:w0.heap.size=W0.heap.size:=by rw[hW0];simp
 have kp0:∀ q,q≠w.heap.size+1+1→W0.heap[q]?=w0.heap[q]?:=fun q hq=>by rw[hW0];exact((box_other _ hq).trans ((box_other _ hq).trans ((box_other _ hq).trans ((box_other _ hq).trans ((box_other _ hq).trans ((box_other _ hq).trans (box_other _ hq)))))))
 have jA:W0.heap[w.heap.size]?=some (.cells #[I O x0,I O x1,Sz a2 n2 c2,I O x3,I O x4,.bool x5,I O x6,Sz a7 n7 c7,Sz a8 n8 c8,I O x9] 27 (0,0)):=(kp0 _ hne0).trans iA
 have jB:W0.heap[w.heap.size+1]?=some (.cells #[I O 0,I O 0,Sz none 0 0,I O 0,I O 0,.bool false,I O 0,Sz none 0 0,Sz none 0 0,I O 0] 31 (0,0)):=(kp0 _ hne1).trans iB
 have jC:W0.heap[w.heap.size+1+1]?=some (.cells #[I O x0,I O x1,Sz g2 m2 k2,I O x3,I O x4,.bool x5,I O x6,Sz none 0 0,Sz none 0 0,I O 0] 31 (0,0)):=by rw[hW0];exact box_set _ (box_set _ (box_set _ (box_set _ (box_set _ (box_set _ (box_set _ iC))))))
 have oW0_0:Own shGrid W0 (w.heap.size+1+1+1) [I O x0,I O x1,Sz g2 m2 k2,I O x3,I O x4,.bool x5] d.1 F0:=o0.keep fun g hg=>kp0 g (by have:=(o0.lt g hg).1;omega)
 have OW0_0:Hid (Own shGrid W0 (w.heap.size+1+1+1) [I O x0,I O x1,Sz g2 m2 k2,I O x3,I O x4,.bool x5] d.1 F0):=oW0_0
 have TOP0:∀ x ∈ F0,x < W0.heap.size:=fun x hx=>(oW0_0.lt x hx).2
 have HJ0:Hid (_∧_∧_):=⟨jA,jB,jC⟩
 go_wp2_with fail
 rw[← hW0]
 clear hW0 iA iB iC jA jB jC kp0 b0 hb0 o0 oW0_0 ya0_6 ya0_7 ya0_8 ya0_9 yb0_0 yf0_0 yb0_1 yf0_1 yb0_2 yf0_2 yb0_3 yf0_3 yb0_4 yf0_4 yb0_5 yf0_5 yb0_6 yf0_6
 refine(q2.out _ bW0).mono ?_
 rintro e w2 ⟨g7,m7,k7,F2,rfl,o2,nd2,hb2⟩
 have b2:=bW0.trans (hb2.mono bW0.size)
 have z2:=hb2.size
 have iA:w2.heap[w.heap.size]?=some (.cells #[I O x0,I O x1,Sz a2 n2 c2,I O x3,I O x4,.bool x5,I O x6,Sz a7 n7 c7,Sz a8 n8 c8,I O x9] 27 (0,0)):=(hb2.block _ (by omega)).trans HJ0.out.1
 have iB:w2.heap[w.heap.size+1]?=some (.cells #[I O 0,I O 0,Sz none 0 0,I O 0,I O 0,.bool false,I O 0,Sz none 0 0,Sz none 0 0,I O 0] 31 (0,0)):=(hb2.block _ (by omega)).trans HJ0.out.2.1
 have iC:w2.heap[w.heap.size+1+1]?=some (.cells #[I O x0,I O x1,Sz g2 m2 k2,I O x3,I O x4,.bool x5,I O x6,Sz none 0 0,Sz none 0 0,I O 0] 31 (0,0)):=(hb2.block _ (by omega)).trans HJ0.out.2.2
 have p0_2:=OW0_0.out.later hb2
 have ya2_8:w2.cell? ⟨w.heap.size,8,none⟩=some (Sz a8 n8 c8):=bxc iA rfl
 have ya2_9:w2.cell? ⟨w.heap.size,9,none⟩=some (I O x9):=bxc iA rfl
 have yb2_7:w2.cell? ⟨w.heap.size+1+1,7,none⟩=some (Sz none 0 0):=bxc iC rfl
 have yf2_7:w2.frozen? ⟨w.heap.size+1+1,7,none⟩=false:=box_frozen iC
 obtain⟨W2,hW2⟩:∃ W,W=(w2).setCell ⟨w.heap.size+1+1,7,none⟩ (Sz g7 m7 k7):=⟨_,rfl⟩
 have bW2:Below w.heap.size w W2:=by rw[hW2];exact(b2.setCell hle2 _)
 have zW2:w2.heap.size=W2.heap.size:=by rw[hW2];simp
 have kp2:∀ q,q≠w.heap.size+1+1→W2.heap[q]?=w2.heap[q]?:=fun q hq=>by rw[hW2];exact(box_other _ hq)
 have jA:W2.heap[w.heap.size]?=some (.cells #[I O x0,I O x1,Sz a2 n2 c2,I O x3,I O x4,.bool x5,I O x6,Sz a7 n7 c7,Sz a8 n8 c8,I O x9] 27 (0,0)):=(kp2 _ hne0).trans iA
 have jB:W2.heap[w.heap.size+1]?=some (.cells #[I O 0,I O 0,Sz none 0 0,I O 0,I O 0,.bool false,I O 0,Sz none 0 0,Sz none 0 0,I O 0] 31 (0,0)):=(kp2 _ hne1).trans iB
 have jC:W2.heap[w.heap.size+1+1]?=some (.cells #[I O x0,I O x1,Sz g2 m2 k2,I O x3,I O x4,.bool x5,I O x6,Sz g7 m7 k7,Sz none 0 0,I O 0] 31 (0,0)):=by rw[hW2];exact box_set _ iC
 have oW0_2:Own shGrid W2 (w.heap.size+1+1+1) [I O x0,I O x1,Sz g2 m2 k2,I O x3,I O x4,.bool x5] d.1 F0:=p0_2.keep fun g hg=>kp2 g (by have:=(p0_2.lt g hg).1;omega)
 have OW0_2:Hid (Own shGrid W2 (w.heap.size+1+1+1) [I O x0,I O x1,Sz g2 m2 k2,I O x3,I O x4,.bool x5] d.1 F0):=oW0_2
 have oW2_2:Own (.sl .int) W2 W0.heap.size [Sz g7 m7 k7] d.2.2.1 F2:=o2.keep fun g hg=>kp2 g (by have:=(o2.lt g hg).1;omega)
 have OW2_2:Hid (Own (.sl .int) W2 W0.heap.size [Sz g7 m7 k7] d.2.2.1 F2):=oW2_2
 have TOP2:∀ x ∈ F2,x < W2.heap.size:=fun x hx=>(oW2_2.lt x hx).2
 have HJ2:Hid (_∧_∧_):=⟨jA,jB,jC⟩
 go_wp2_with fail
 rw[← hW2]
 clear hW2 iA iB iC jA jB jC kp2 b2 hb2 p0_2 o2 oW0_2 oW2_2 ya2_8 ya2_9 yb2_7 yf2_7
 refine(q3.out _ bW2).mono ?_
 rintro e w3 ⟨g8,m8,k8,F3,rfl,o3,nd3,hb3⟩
 have b3:=bW2.trans (hb3.mono bW2.size)
 have z3:=hb3.size
 have iA:w3.heap[w.heap.size]?=some (.cells #[I O x0,I O x1,Sz a2 n2 c2,I O x3,I O x4,.bool x5,I O x6,Sz a7 n7 c7,Sz a8 n8 c8,I O x9] 27 (0,0)):=(hb3.block _ (by omega)).trans HJ2.out.1
 have iB:w3.heap[w.heap.size+1]?=some (.cells #[I O 0,I O 0,Sz none 0 0,I O 0,I O 0,.bool false,I O 0,Sz none 0 0,Sz none 0 0,I O 0] 31 (0,0)):=(hb3.block _ (by omega)).trans HJ2.out.2.1
 have iC:w3.heap[w.heap.size+1+1]?=some (.cells #[I O x0,I O x1,Sz g2 m2 k2,I O x3,I O x4,.bool x5,I O x6,Sz g7 m7 k7,Sz none 0 0,I O 0] 31 (0,0)):=(hb3.block _ (by omega)).trans HJ2.out.2.2
 have p0_3:=OW0_2.out.later hb3
 have p2_3:=OW2_2.out.later hb3
 have ya3_9:w3.cell? ⟨w.heap.size,9,none⟩=some (I O x9):=bxc iA rfl
 have yb3_8:w3.cell? ⟨w.heap.size+1+1,8,none⟩=some (Sz none 0 0):=bxc iC rfl
 have yf3_8:w3.frozen? ⟨w.heap.size+1+1,8,none⟩=false:=box_frozen iC
 have yb3_9:w3.cell? ⟨w.heap.size+1+1,9,none⟩=some (I O 0):=bxc iC rfl
 have yf3_9:w3.frozen? ⟨w.heap.size+1+1,9,none⟩=false:=box_frozen iC
 have yb3_0:w3.cell? ⟨w.heap.size+1+1,0,none⟩=some (I O x0):=bxc iC rfl
 have yr3_0:w3.cell? ⟨w.heap.size+1,0,none⟩=some (I O 0):=bxc iB rfl
 have yg3_0:w3.frozen? ⟨w.heap.size+1,0,none⟩=false:=box_frozen iB
 have yb3_1:w3.cell? ⟨w.heap.size+1+1,1,none⟩=some (I O x1):=bxc iC rfl
 have yr3_1:w3.cell? ⟨w.heap.size+1,1,none⟩=some (I O 0):=bxc iB rfl
 have yg3_1:w3.frozen? ⟨w.heap.size+1,1,none⟩=false:=box_frozen iB
 have yb3_2:w3.cell? ⟨w.heap.size+1+1,2,none⟩=some (Sz g2 m2 k2):=bxc iC rfl
 have yr3_2:w3.cell? ⟨w.heap.size+1,2,none⟩=some (Sz none 0 0):=bxc iB rfl
 have yg3_2:w3.frozen? ⟨w.heap.size+1,2,none⟩=false:=box_frozen iB
 have yb3_3:w3.cell? ⟨w.heap.size+1+1,3,none⟩=some (I O x3):=bxc iC rfl
 have yr3_3:w3.cell? ⟨w.heap.size+1,3,none⟩=some (I O 0):=bxc iB rfl
 have yg3_3:w3.frozen? ⟨w.heap.size+1,3,none⟩=false:=box_frozen iB
 have yb3_4:w3.cell? ⟨w.heap.size+1+1,4,none⟩=some (I O x4):=bxc iC rfl
 have yr3_4:w3.cell? ⟨w.heap.size+1,4,none⟩=some (I O 0):=bxc iB rfl
 have yg3_4:w3.frozen? ⟨w.heap.size+1,4,none⟩=false:=box_frozen iB
 have yb3_5:w3.cell? ⟨w.heap.size+1+1,5,none⟩=some (.bool x5):=bxc iC rfl
 have yr3_5:w3.cell? ⟨w.heap.size+1,5,none⟩=some (.bool false):=bxc iB rfl
 have yg3_5:w3.frozen? ⟨w.heap.size+1,5,none⟩=false:=box_frozen iB
 have yb3_6:w3.cell? ⟨w.heap.size+1+1,6,none⟩=some (I O x6):=bxc iC rfl
 have yr3_6:w3.cell? ⟨w.heap.size+1,6,none⟩=some (I O 0):=bxc iB rfl
 have yg3_6:w3.frozen? ⟨w.heap.size+1,6,none⟩=false:=box_frozen iB
 have yb3_7:w3.cell? ⟨w.heap.size+1+1,7,none⟩=some (Sz g7 m7 k7):=bxc iC rfl
 have yr3_7:w3.cell? ⟨w.heap.size+1,7,none⟩=some (Sz none 0 0):=bxc iB rfl
 have yg3_7:w3.frozen? ⟨w.heap.size+1,7,none⟩=false:=box_frozen iB
 have yr3_8:w3.cell? ⟨w.heap.size+1,8,none⟩=some (Sz none 0 0):=bxc iB rfl
 have yg3_8:w3.frozen? ⟨w.heap.size+1,8,none⟩=false:=box_frozen iB
 have yr3_9:w3.cell? ⟨w.heap.size+1,9,none⟩=some (I O 0):=bxc iB rfl
 have yg3_9:w3.frozen? ⟨w.heap.size+1,9,none⟩=false:=box_frozen iB
 have hn2:∀ g,w.heap.size+1+1 < g→g≠w.heap.size+1+1:=fun g h=>by omega
 have hn1:∀ g,w.heap.size+1+1 < g→g≠w.heap.size+1:=fun g h=>by omega
 have L0:=p0_3.lt
 have L2:=p2_3.lt
 have L3:=o3.lt
 have ND:(F0++(F2++(F3++([])))).Nodup:=by
   simp only[List.append_nil,List.nodup_append]
   refine⟨nd0,⟨nd2,nd3,fun x hx y hy e=>?n2⟩,fun x hx y hy e=>?n0⟩
   case n0 =>
     subst e
     have h1:=TOP0 x hx
     rcases List.mem_append.1 hy with hy | hy
     · have h2:=L2 x hy;omega
     have h2:=L3 x hy;omega
   case n2 =>
     subst e
     have h1:=TOP2 x hx
     have h2:=L3 x hy;omega
 have HO:Hid ((∀ w',(∀ g,w.heap.size+1+1 < g→w'.heap[g]?=w3.heap[g]?)→Own shVt w' w.heap.size [I O x0,I O x1,Sz g2 m2 k2,I O x3,I O x4,.bool x5,I O x6,Sz g7 m7 k7,Sz g8 m8 k8,I O x9] d (F0++(F2++(F3++([])))))∧True):=⟨fun w' hw'=>by
   have u0:=(p0_3.keep fun g hg=>hw' g (by have:=(L0 g hg).1;omega)).base (B':=w.heap.size) (by omega)
   rw[HE.out.1,HE.out.2.1,HE.out.2.2.1,HE.out.2.2.2.1,HE.out.2.2.2.2.1] at u0
   have u2:=(p2_3.keep fun g hg=>hw' g (by have:=(L2 g hg).1;omega)).base (B':=w.heap.size) (by omega)
   have u3:=(o3.keep fun g hg=>hw' g (by have:=(L3 g hg).1;omega)).base (B':=w.heap.size) (by omega)
   have:=own_Vt (w:=w') (B:=w.heap.size) (d:=d) u0 u2 u3
   simpa only[← HE.out.1,← HE.out.2.1,← HE.out.2.2.1,← HE.out.2.2.2.1,← HE.out.2.2.2.2.1,← HE.out.2.2.2.2.2.1,← HE.out.2.2.2.2.2.2.1] using this,trivial⟩
 have iB9:=iB
 have HB:Hid (Below w.heap.size w w3):=b3
 have HN:Hid ((F0++(F2++(F3++([])))).Nodup):=ND
 clear iA iB iC ND b3 hb3 L0 L2 L3 p0_3 p2_3 o3
 have hz:(((w3).setCell ⟨w.heap.size+1+1,8,none⟩ (Sz g8 m8 k8)).setCell ⟨w.heap.size+1+1,9,none⟩ (I O x9)).heap[w.heap.size+1]?=some (.cells #[I O 0,I O 0,Sz none 0 0,I O 0,I O 0,.bool false,I O 0,Sz none 0 0,Sz none 0 0,I O 0] 31 (0,0)):=((box_other _ hne1).trans (box_other _ hne1)).trans iB9
 have hz0:((((w3).setCell ⟨w.heap.size+1+1,8,none⟩ (Sz g8 m8 k8)).setCell ⟨w.heap.size+1+1,9,none⟩ (I O x9)).setCell ⟨w.heap.size+1,0,none⟩ (I O x0)).heap[w.heap.size+1]?=some (.cells #[I O x0,I O 0,Sz none 0 0,I O 0,I O 0,.bool false,I O 0,Sz none 0 0,Sz none 0 0,I O 0] 31 (0,0)):=box_set _ hz
 have yz0:((((w3).setCell ⟨w.heap.size+1+1,8,none⟩ (Sz g8 m8 k8)).setCell ⟨w.heap.size+1+1,9,none⟩ (I O x9)).setCell ⟨w.heap.size+1,0,none⟩ (I O x0)).cell? ⟨w.heap.size+1,0,none⟩=some (I O x0):=bxc hz0 rfl
 clear hz
 have hz1:(((((w3).setCell ⟨w.heap.size+1+1,8,none⟩ (Sz g8 m8 k8)).setCell ⟨w.heap.size+1+1,9,none⟩ (I O x9)).setCell ⟨w.heap.size+1,0,none⟩ (I O x0)).setCell ⟨w.heap.size+1,1,none⟩ (I O x1)).heap[w.heap.size+1]?=some (.cells #[I O x0,I O x1,Sz none 0 0,I O 0,I O 0,.bool false,I O 0,Sz none 0 0,Sz none 0 0,I O 0] 31 (0,0)):=box_set _ hz0
 have yz1:(((((w3).setCell ⟨w.heap.size+1+1,8,none⟩ (Sz g8 m8 k8)).setCell ⟨w.heap.size+1+1,9,none⟩ (I O x9)).setCell ⟨w.heap.size+1,0,none⟩ (I O x0)).setCell ⟨w.heap.size+1,1,none⟩ (I O x1)).cell? ⟨w.heap.size+1,1,none⟩=some (I O x1):=bxc hz1 rfl
 clear hz0
 have hz2:((((((w3).setCell ⟨w.heap.size+1+1,8,none⟩ (Sz g8 m8 k8)).setCell ⟨w.heap.size+1+1,9,none⟩ (I O x9)).setCell ⟨w.heap.size+1,0,none⟩ (I O x0)).setCell ⟨w.heap.size+1,1,none⟩ (I O x1)).setCell ⟨w.heap.size+1,2,none⟩ (Sz g2 m2 k2)).heap[w.heap.size+1]?=some (.cells #[I O x0,I O x1,Sz g2 m2 k2,I O 0,I O 0,.bool false,I O 0,Sz none 0 0,Sz none 0 0,I O 0] 31 (0,0)):=box_set _ hz1
 have yz2:((((((w3).setCell ⟨w.heap.size+1+1,8,none⟩ (Sz g8 m8 k8)).setCell ⟨w.heap.size+1+1,9,none⟩ (I O x9)).setCell ⟨w.heap.size+1,0,none⟩ (I O x0)).setCell ⟨w.heap.size+1,1,none⟩ (I O x1)).setCell ⟨w.heap.size+1,2,none⟩ (Sz g2 m2 k2)).cell? ⟨w.heap.size+1,2,none⟩=some (Sz g2 m2 k2):=bxc hz2 rfl
 clear hz1
 have hz3:(((((((w3).setCell ⟨w.heap.size+1+1,8,none⟩ (Sz g8 m8 k8)).setCell ⟨w.heap.size+1+1,9,none⟩ (I O x9)).setCell ⟨w.heap.size+1,0,none⟩ (I O x0)).setCell ⟨w.heap.size+1,1,none⟩ (I O x1)).setCell ⟨w.heap.size+1,2,none⟩ (Sz g2 m2 k2)).setCell ⟨w.heap.size+1,3,none⟩ (I O x3)).heap[w.heap.size+1]?=some (.cells #[I O x0,I O x1,Sz g2 m2 k2,I O x3,I O 0,.bool false,I O 0,Sz none 0 0,Sz none 0 0,I O 0] 31 (0,0)):=box_set _ hz2
 have yz3:(((((((w3).setCell ⟨w.heap.size+1+1,8,none⟩ (Sz g8 m8 k8)).setCell ⟨w.heap.size+1+1,9,none⟩ (I O x9)).setCell ⟨w.heap.size+1,0,none⟩ (I O x0)).setCell ⟨w.heap.size+1,1,none⟩ (I O x1)).setCell ⟨w.heap.size+1,2,none⟩ (Sz g2 m2 k2)).setCell ⟨w.heap.size+1,3,none⟩ (I O x3)).cell? ⟨w.heap.size+1,3,none⟩=some (I O x3):=bxc hz3 rfl
 clear hz2
 have hz4:((((((((w3).setCell ⟨w.heap.size+1+1,8,none⟩ (Sz g8 m8 k8)).setCell ⟨w.heap.size+1+1,9,none⟩ (I O x9)).setCell ⟨w.heap.size+1,0,none⟩ (I O x0)).setCell ⟨w.heap.size+1,1,none⟩ (I O x1)).setCell ⟨w.heap.size+1,2,none⟩ (Sz g2 m2 k2)).setCell ⟨w.heap.size+1,3,none⟩ (I O x3)).setCell ⟨w.heap.size+1,4,none⟩ (I O x4)).heap[w.heap.size+1]?=some (.cells #[I O x0,I O x1,Sz g2 m2 k2,I O x3,I O x4,.bool false,I O 0,Sz none 0 0,Sz none 0 0,I O 0] 31 (0,0)):=box_set _ hz3
 have yz4:((((((((w3).setCell ⟨w.heap.size+1+1,8,none⟩ (Sz g8 m8 k8)).setCell ⟨w.heap.size+1+1,9,none⟩ (I O x9)).setCell ⟨w.heap.size+1,0,none⟩ (I O x0)).setCell ⟨w.heap.size+1,1,none⟩ (I O x1)).setCell ⟨w.heap.size+1,2,none⟩ (Sz g2 m2 k2)).setCell ⟨w.heap.size+1,3,none⟩ (I O x3)).setCell ⟨w.heap.size+1,4,none⟩ (I O x4)).cell? ⟨w.heap.size+1,4,none⟩=some (I O x4):=bxc hz4 rfl
 clear hz3
 have hz5:(((((((((w3).setCell ⟨w.heap.size+1+1,8,none⟩ (Sz g8 m8 k8)).setCell ⟨w.heap.size+1+1,9,none⟩ (I O x9)).setCell ⟨w.heap.size+1,0,none⟩ (I O x0)).setCell ⟨w.heap.size+1,1,none⟩ (I O x1)).setCell ⟨w.heap.size+1,2,none⟩ (Sz g2 m2 k2)).setCell ⟨w.heap.size+1,3,none⟩ (I O x3)).setCell ⟨w.heap.size+1,4,none⟩ (I O x4)).setCell ⟨w.heap.size+1,5,none⟩ (.bool x5)).heap[w.heap.size+1]?=some (.cells #[I O x0,I O x1,Sz g2 m2 k2,I O x3,I O x4,.bool x5,I O 0,Sz none 0 0,Sz none 0 0,I O 0] 31 (0,0)):=box_set _ hz4
 have yz5:(((((((((w3).setCell ⟨w.heap.size+1+1,8,none⟩ (Sz g8 m8 k8)).setCell ⟨w.heap.size+1+1,9,none⟩ (I O x9)).setCell ⟨w.heap.size+1,0,none⟩ (I O x0)).setCell ⟨w.heap.size+1,1,none⟩ (I O x1)).setCell ⟨w.heap.size+1,2,none⟩ (Sz g2 m2 k2)).setCell ⟨w.heap.size+1,3,none⟩ (I O x3)).setCell ⟨w.heap.size+1,4,none⟩ (I O x4)).setCell ⟨w.heap.size+1,5,none⟩ (.bool x5)).cell? ⟨w.heap.size+1,5,none⟩=some (.bool x5):=bxc hz5 rfl
 clear hz4
 have hz6:((((((((((w3).setCell ⟨w.heap.size+1+1,8,none⟩ (Sz g8 m8 k8)).setCell ⟨w.heap.size+1+1,9,none⟩ (I O x9)).setCell ⟨w.heap.size+1,0,none⟩ (I O x0)).setCell ⟨w.heap.size+1,1,none⟩ (I O x1)).setCell ⟨w.heap.size+1,2,none⟩ (Sz g2 m2 k2)).setCell ⟨w.heap.size+1,3,none⟩ (I O x3)).setCell ⟨w.heap.size+1,4,none⟩ (I O x4)).setCell ⟨w.heap.size+1,5,none⟩ (.bool x5)).setCell ⟨w.heap.size+1,6,none⟩ (I O x6)).heap[w.heap.size+1]?=some (.cells #[I O x0,I O x1,Sz g2 m2 k2,I O x3,I O x4,.bool x5,I O x6,Sz none 0 0,Sz none 0 0,I O 0] 31 (0,0)):=box_set _ hz5
 have yz6:((((((((((w3).setCell ⟨w.heap.size+1+1,8,none⟩ (Sz g8 m8 k8)).setCell ⟨w.heap.size+1+1,9,none⟩ (I O x9)).setCell ⟨w.heap.size+1,0,none⟩ (I O x0)).setCell ⟨w.heap.size+1,1,none⟩ (I O x1)).setCell ⟨w.heap.size+1,2,none⟩ (Sz g2 m2 k2)).setCell ⟨w.heap.size+1,3,none⟩ (I O x3)).setCell ⟨w.heap.size+1,4,none⟩ (I O x4)).setCell ⟨w.heap.size+1,5,none⟩ (.bool x5)).setCell ⟨w.heap.size+1,6,none⟩ (I O x6)).cell? ⟨w.heap.size+1,6,none⟩=some (I O x6):=bxc hz6 rfl
 clear hz5
 have hz7:(((((((((((w3).setCell ⟨w.heap.size+1+1,8,none⟩ (Sz g8 m8 k8)).setCell ⟨w.heap.size+1+1,9,none⟩ (I O x9)).setCell ⟨w.heap.size+1,0,none⟩ (I O x0)).setCell ⟨w.heap.size+1,1,none⟩ (I O x1)).setCell ⟨w.heap.size+1,2,none⟩ (Sz g2 m2 k2)).setCell ⟨w.heap.size+1,3,none⟩ (I O x3)).setCell ⟨w.heap.size+1,4,none⟩ (I O x4)).setCell ⟨w.heap.size+1,5,none⟩ (.bool x5)).setCell ⟨w.heap.size+1,6,none⟩ (I O x6)).setCell ⟨w.heap.size+1,7,none⟩ (Sz g7 m7 k7)).heap[w.heap.size+1]?=some (.cells #[I O x0,I O x1,Sz g2 m2 k2,I O x3,I O x4,.bool x5,I O x6,Sz g7 m7 k7,Sz none 0 0,I O 0] 31 (0,0)):=box_set _ hz6
 have yz7:(((((((((((w3).setCell ⟨w.heap.size+1+1,8,none⟩ (Sz g8 m8 k8)).setCell ⟨w.heap.size+1+1,9,none⟩ (I O x9)).setCell ⟨w.heap.size+1,0,none⟩ (I O x0)).setCell ⟨w.heap.size+1,1,none⟩ (I O x1)).setCell ⟨w.heap.size+1,2,none⟩ (Sz g2 m2 k2)).setCell ⟨w.heap.size+1,3,none⟩ (I O x3)).setCell ⟨w.heap.size+1,4,none⟩ (I O x4)).setCell ⟨w.heap.size+1,5,none⟩ (.bool x5)).setCell ⟨w.heap.size+1,6,none⟩ (I O x6)).setCell ⟨w.heap.size+1,7,none⟩ (Sz g7 m7 k7)).cell? ⟨w.heap.size+1,7,none⟩=some (Sz g7 m7 k7):=bxc hz7 rfl
 clear hz6
 have hz8:((((((((((((w3).setCell ⟨w.heap.size+1+1,8,none⟩ (Sz g8 m8 k8)).setCell ⟨w.heap.size+1+1,9,none⟩ (I O x9)).setCell ⟨w.heap.size+1,0,none⟩ (I O x0)).setCell ⟨w.heap.size+1,1,none⟩ (I O x1)).setCell ⟨w.heap.size+1,2,none⟩ (Sz g2 m2 k2)).setCell ⟨w.heap.size+1,3,none⟩ (I O x3)).setCell ⟨w.heap.size+1,4,none⟩ (I O x4)).setCell ⟨w.heap.size+1,5,none⟩ (.bool x5)).setCell ⟨w.heap.size+1,6,none⟩ (I O x6)).setCell ⟨w.heap.size+1,7,none⟩ (Sz g7 m7 k7)).setCell ⟨w.heap.size+1,8,none⟩ (Sz g8 m8 k8)).heap[w.heap.size+1]?=some (.cells #[I O x0,I O x1,Sz g2 m2 k2,I O x3,I O x4,.bool x5,I O x6,Sz g7 m7 k7,Sz g8 m8 k8,I O 0] 31 (0,0)):=box_set _ hz7
 have yz8:((((((((((((w3).setCell ⟨w.heap.size+1+1,8,none⟩ (Sz g8 m8 k8)).setCell ⟨w.heap.size+1+1,9,none⟩ (I O x9)).setCell ⟨w.heap.size+1,0,none⟩ (I O x0)).setCell ⟨w.heap.size+1,1,none⟩ (I O x1)).setCell ⟨w.heap.size+1,2,none⟩ (Sz g2 m2 k2)).setCell ⟨w.heap.size+1,3,none⟩ (I O x3)).setCell ⟨w.heap.size+1,4,none⟩ (I O x4)).setCell ⟨w.heap.size+1,5,none⟩ (.bool x5)).setCell ⟨w.heap.size+1,6,none⟩ (I O x6)).setCell ⟨w.heap.size+1,7,none⟩ (Sz g7 m7 k7)).setCell ⟨w.heap.size+1,8,none⟩ (Sz g8 m8 k8)).cell? ⟨w.heap.size+1,8,none⟩=some (Sz g8 m8 k8):=bxc hz8 rfl
 clear hz7
 have hz9:(((((((((((((w3).setCell ⟨w.heap.size+1+1,8,none⟩ (Sz g8 m8 k8)).setCell ⟨w.heap.size+1+1,9,none⟩ (I O x9)).setCell ⟨w.heap.size+1,0,none⟩ (I O x0)).setCell ⟨w.heap.size+1,1,none⟩ (I O x1)).setCell ⟨w.heap.size+1,2,none⟩ (Sz g2 m2 k2)).setCell ⟨w.heap.size+1,3,none⟩ (I O x3)).setCell ⟨w.heap.size+1,4,none⟩ (I O x4)).setCell ⟨w.heap.size+1,5,none⟩ (.bool x5)).setCell ⟨w.heap.size+1,6,none⟩ (I O x6)).setCell ⟨w.heap.size+1,7,none⟩ (Sz g7 m7 k7)).setCell ⟨w.heap.size+1,8,none⟩ (Sz g8 m8 k8)).setCell ⟨w.heap.size+1,9,none⟩ (I O x9)).heap[w.heap.size+1]?=some (.cells #[I O x0,I O x1,Sz g2 m2 k2,I O x3,I O x4,.bool x5,I O x6,Sz g7 m7 k7,Sz g8 m8 k8,I O x9] 31 (0,0)):=box_set _ hz8
 have yz9:(((((((((((((w3).setCell ⟨w.heap.size+1+1,8,none⟩ (Sz g8 m8 k8)).setCell ⟨w.heap.size+1+1,9,none⟩ (I O x9)).setCell ⟨w.heap.size+1,0,none⟩ (I O x0)).setCell ⟨w.heap.size+1,1,none⟩ (I O x1)).setCell ⟨w.heap.size+1,2,none⟩ (Sz g2 m2 k2)).setCell ⟨w.heap.size+1,3,none⟩ (I O x3)).setCell ⟨w.heap.size+1,4,none⟩ (I O x4)).setCell ⟨w.heap.size+1,5,none⟩ (.bool x5)).setCell ⟨w.heap.size+1,6,none⟩ (I O x6)).setCell ⟨w.heap.size+1,7,none⟩ (Sz g7 m7 k7)).setCell ⟨w.heap.size+1,8,none⟩ (Sz g8 m8 k8)).setCell ⟨w.heap.size+1,9,none⟩ (I O x9)).cell? ⟨w.heap.size+1,9,none⟩=some (I O x9):=bxc hz9 rfl
 clear hz8
 clear hz9 iB9
 go_wp2
 (try simp only[Exit.inBlock,Exit.then])
 refine bodyPost_ret (by simp[results,Tryd.results8,go_sem,yz0,yz1,yz2,yz3,yz4,yz5,yz6,yz7,yz8,yz9];try rfl) rfl ?_
 refine⟨_,_,rfl,HO.out.1 _ (fun g hg=>((box_other _ (hn1 g hg)).trans ((box_other _ (hn1 g hg)).trans ((box_other _ (hn1 g hg)).trans ((box_other _ (hn1 g hg)).trans ((box_other _ (hn1 g hg)).trans ((box_other _ (hn1 g hg)).trans ((box_other _ (hn1 g hg)).trans ((box_other _ (hn1 g hg)).trans ((box_other _ (hn1 g hg)).trans ((box_other _ (hn1 g hg)).trans ((box_other _ (hn2 g hg)).trans (box_other _ (hn2 g hg)))))))))))))),HN.out,?_⟩
 exact((((((((((((HB.out.setCell Hle.out.2 _).setCell Hle.out.2 _).setCell Hle.out.1 _).setCell Hle.out.1 _).setCell Hle.out.1 _).setCell Hle.out.1 _).setCell Hle.out.1 _).setCell Hle.out.1 _).setCell Hle.out.1 _).setCell Hle.out.1 _).setCell Hle.out.1 _).setCell Hle.out.1 _)
set_option maxRecDepth 100000 in
theorem eqVt_any (cs1 cs2:List Value) (d:shVt.D) (w:World) (hr:Reads shVt w cs1 d) (hq:Reads shVt w cs2 d) (hs:shVt.sz d≤1048576) :
   Calls Tryd.prog 10 #[.agg cs1.toArray,.agg cs2.toArray] w fun e w'=>e=.returned (.bool true)∧Below w.heap.size w w':=by
 obtain⟨a2,n2,c2,a7,n7,c7,a8,n8,c8,rfl,r0,r2,r3⟩:=open_Vt hr
 obtain⟨p2,m2,k2,p7,m7,k7,p8,m8,k8,rfl,t0,t2,t3⟩:=open_Vt hq
 obtain⟨x0,e0⟩:∃ x:Int,x=d.1.1:=⟨_,rfl⟩
 obtain⟨x1,e1⟩:∃ x:Int,x=d.1.2.1:=⟨_,rfl⟩
 obtain⟨x3,e3⟩:∃ x:Int,x=d.1.2.2.2.1:=⟨_,rfl⟩
 obtain⟨x4,e4⟩:∃ x:Int,x=d.1.2.2.2.2.1:=⟨_,rfl⟩
 obtain⟨x5,e5⟩:∃ x:Bool,x=d.1.2.2.2.2.2.1:=⟨_,rfl⟩
 obtain⟨x6,e6⟩:∃ x:Int,x=d.2.1:=⟨_,rfl⟩
 obtain⟨x9,e9⟩:∃ x:Int,x=d.2.2.2.2.1:=⟨_,rfl⟩
 rw[sz_Vt] at hs
 have q0:Hid (∀ w',Below w.heap.size w w'→Calls Tryd.prog 31 #[.agg #[I O x0,I O x1,Sz a2 n2 c2,I O x3,I O x4,.bool x5],.agg #[I O x0,I O x1,Sz p2 m2 k2,I O x3,I O x4,.bool x5]] w' fun e w''=>e=.returned (.bool true)∧Below w'.heap.size w' w''):=fun w' h'=>by rw[e0,e1,e3,e4,e5];exact eqGrid_any _ _ _ w' (r0.later h') (t0.later h') (by show Sh.sz shGrid _≤_;omega)
 obtain rfl:n7=m7:=(reads_len r2).1.symm.trans (reads_len t2).1
 have q2:Hid (∀ w',Below w.heap.size w w'→Calls Tryd.prog 32 #[Sz a7 n7 c7,Sz p7 n7 k7] w' fun e w''=>e=.returned (.bool true)∧Below w'.heap.size w' w''):=fun w' h'=>eqIntS_reads a7 p7 n7 c7 k7 _ w' (r2.later h') (t2.later h') (by omega)
 obtain rfl:n8=m8:=(reads_len r3).1.symm.trans (reads_len t3).1
 have q3:Hid (∀ w',Below w.heap.size w w'→Calls Tryd.prog 16 #[Sz a8 n8 c8,Sz p8 n8 k8] w' fun e w''=>e=.returned (.bool true)∧Below w'.heap.size w' w''):=fun w' h'=>eqByteS_reads a8 p8 n8 c8 k8 _ w' (r3.later h') (t3.later h') (by omega)
 rw[← e0,← e1,← e3,← e4,← e5,← e6,← e9]
 have ne6:(x6 != x6)=false:=by simp
 have ne9:(x9 != x9)=false:=by simp
 clear hr hq hs r0 t0 r2 t2 r3 t3 e0 e1 e3 e4 e5 e6 e9
 obtain⟨W0,hW0⟩:∃ W0,W0=(w.alloc (.cells #[I O x0,I O x1,Sz a2 n2 c2,I O x3,I O x4,.bool x5,I O x6,Sz a7 n7 c7,Sz a8 n8 c8,I O x9] 31)).alloc (.cells #[I O x0,I O x1,Sz p2 m2 k2,I O x3,I O x4,.bool x5,I O x6,Sz p7 n7 k7,Sz p8 n8 k8,I O x9] 31):=⟨_,rfl⟩
 have bW0:Below w.heap.size w W0:=by rw[hW0];exact((Below.refl _ _).alloc (Nat.le_refl _) _).alloc (by simp) _
 have hA:W0.heap[w.heap.size]?=some (.cells #[I O x0,I O x1,Sz a2 n2 c2,I O x3,I O x4,.bool x5,I O x6,Sz a7 n7 c7,Sz a8 n8 c8,I O x9] 31 (0,0)):=by rw[hW0,heap_alloc_old _ _ (by simp)];exact heap_alloc_new w _
 have hB:W0.heap[w.heap.size+1]?=some (.cells #[I O x0,I O x1,Sz p2 m2 k2,I O x3,I O x4,.bool x5,I O x6,Sz p7 n7 k7,Sz p8 n8 k8,I O x9] 31 (0,0)):=by rw[hW0];exact(by have:=heap_alloc_new (w.alloc (.cells #[I O x0,I O x1,Sz a2 n2 c2,I O x3,I O x4,.bool x5,I O x6,Sz a7 n7 c7,Sz a8 n8 c8,I O x9] 31)) (.cells #[I O x0,I O x1,Sz p2 m2 k2,I O x3,I O x4,.bool x5,I O x6,Sz p7 n7 k7,Sz p8 n8 k8,I O x9] 31);simpa using this)
 have zW0:W0.heap.size=w.heap.size+1+1:=by rw[hW0];simp
 have HW0:Hid (W0=_):=hW0
 have HAB:Hid (_∧_):=⟨hA,hB⟩
 clear hW0 hA hB
 go_enter Tryd.func10,Tryd.ntmps10
 go_wp2_with fail
 rw[← HW0.out]
 refine(q0.out _ bW0).mono ?_
 rintro e w0 ⟨rfl,hb0⟩
 have b0:=bW0.trans (hb0.mono bW0.size)
 have z0:=hb0.size
 have iA:w0.heap[w.heap.size]?=some (.cells #[I O x0,I O x1,Sz a2 n2 c2,I O x3,I O x4,.bool x5,I O x6,Sz a7 n7 c7,Sz a8 n8 c8,I O x9] 31 (0,0)):=(hb0.block _ (by omega)).trans HAB.out.1
 have iB:w0.heap[w.heap.size+1]?=some (.cells #[I O x0,I O x1,Sz p2 m2 k2,I O x3,I O x4,.bool x5,I O x6,Sz p7 n7 k7,Sz p8 n8 k8,I O x9] 31 (0,0)):=(hb0.block _ (by omega)).trans HAB.out.2
 have ya0_6:w0.cell? ⟨w.heap.size,6,none⟩=some (I O x6):=bxc iA rfl
 have yb0_6:w0.cell? ⟨w.heap.size+1,6,none⟩=some (I O x6):=bxc iB rfl
 have ya0_7:w0.cell? ⟨w.heap.size,7,none⟩=some (Sz a7 n7 c7):=bxc iA rfl
 have yb0_7:w0.cell? ⟨w.heap.size+1,7,none⟩=some (Sz p7 n7 k7):=bxc iB rfl
 have ya0_8:w0.cell? ⟨w.heap.size,8,none⟩=some (Sz a8 n8 c8):=bxc iA rfl
 have yb0_8:w0.cell? ⟨w.heap.size+1,8,none⟩=some (Sz p8 n8 k8):=bxc iB rfl
 have ya0_9:w0.cell? ⟨w.heap.size,9,none⟩=some (I O x9):=bxc iA rfl
 have yb0_9:w0.cell? ⟨w.heap.size+1,9,none⟩=some (I O x9):=bxc iB rfl
 have I0:Hid (_∧_):=⟨iA,iB⟩
 clear iA iB hb0
 go_wp2_with fail
 refine(q2.out _ b0).mono ?_
 rintro e w2 ⟨rfl,hb2⟩
 have b2:=b0.trans (hb2.mono b0.size)
 have z2:=hb2.size
 have iA:w2.heap[w.heap.size]?=some (.cells #[I O x0,I O x1,Sz a2 n2 c2,I O x3,I O x4,.bool x5,I O x6,Sz a7 n7 c7,Sz a8 n8 c8,I O x9] 31 (0,0)):=(hb2.block _ (by omega)).trans I0.out.1
 have iB:w2.heap[w.heap.size+1]?=some (.cells #[I O x0,I O x1,Sz p2 m2 k2,I O x3,I O x4,.bool x5,I O x6,Sz p7 n7 k7,Sz p8 n8 k8,I O x9] 31 (0,0)):=(hb2.block _ (by omega)).trans I0.out.2
 have ya2_8:w2.cell? ⟨w.heap.size,8,none⟩=some (Sz a8 n8 c8):=bxc iA rfl
 have yb2_8:w2.cell? ⟨w.heap.size+1,8,none⟩=some (Sz p8 n8 k8):=bxc iB rfl
 have ya2_9:w2.cell? ⟨w.heap.size,9,none⟩=some (I O x9):=bxc iA rfl
 have yb2_9:w2.cell? ⟨w.heap.size+1,9,none⟩=some (I O x9):=bxc iB rfl
 have I2:Hid (_∧_):=⟨iA,iB⟩
 clear iA iB hb2
 go_wp2_with fail
 refine(q3.out _ b2).mono ?_
 rintro e w3 ⟨rfl,hb3⟩
 have b3:=b2.trans (hb3.mono b2.size)
 have z3:=hb3.size
 have iA:w3.heap[w.heap.size]?=some (.cells #[I O x0,I O x1,Sz a2 n2 c2,I O x3,I O x4,.bool x5,I O x6,Sz a7 n7 c7,Sz a8 n8 c8,I O x9] 31 (0,0)):=(hb3.block _ (by omega)).trans I2.out.1
 have iB:w3.heap[w.heap.size+1]?=some (.cells #[I O x0,I O x1,Sz p2 m2 k2,I O x3,I O x4,.bool x5,I O x6,Sz p7 n7 k7,Sz p8 n8 k8,I O x9] 31 (0,0)):=(hb3.block _ (by omega)).trans I2.out.2
 have ya3_9:w3.cell? ⟨w.heap.size,9,none⟩=some (I O x9):=bxc iA rfl
 have yb3_9:w3.cell? ⟨w.heap.size+1,9,none⟩=some (I O x9):=bxc iB rfl
 have I3:Hid (_∧_):=⟨iA,iB⟩
 clear iA iB hb3
 go_wp2
 go_ret
 exact⟨rfl,b3⟩
end Go.Proofs.YthodinpflcbklaaDoor
namespace Go.Proofs.YthodinpflcbklaaDoor
open Go.RowKit
theorem openO_Grid{w:World}{B:Nat}{cs:List Value}{d:shGrid.D}{F:List Nat}(h:Own shGrid w B cs d F):
   ∃ a2 n2 c2 F2,cs=[I O (d.1),I O (d.2.1),Sz a2 n2 c2,I O (d.2.2.2.1),I O (d.2.2.2.2.1),.bool (d.2.2.2.2.2.1)]∧F=F2++([])∧Own (.sl .int) w B [Sz a2 n2 c2] d.2.2.1 F2:=by
 obtain⟨_,_,G0,_,rfl,rfl,h0,_,_,G1,_,rfl,rfl,h1,_,_,G2,_,rfl,rfl,h2,_,_,G3,_,rfl,rfl,h3,_,_,G4,_,rfl,rfl,h4,_,_,G5,_,rfl,rfl,h5,hE⟩:=h
 obtain⟨rfl,rfl⟩:=h0
 obtain⟨rfl,rfl⟩:=h1
 obtain⟨rfl,rfl⟩:=h3
 obtain⟨rfl,rfl⟩:=h4
 obtain⟨rfl,rfl⟩:=h5
 obtain⟨rfl,rfl⟩:=hE
 have g2:=Own.reads (s:=(.sl .int)) h2
 obtain⟨a2,c2,e2,_⟩:=g2
 subst e2
 exact⟨a2,_,c2,G2,rfl,by simp,h2⟩
theorem cntV_Grid(d:shGrid.D):shGrid.cntV d=Sh.cnt (.sl .int) d.2.2.1:=by
 show 0+(0+(Sh.cnt (.sl .int) d.2.2.1+(0+(0+(0+(0))))))=_
 omega
set_option maxRecDepth 100000 in
theorem markGrid_own (cs:List Value) (B k:Nat) (d:shGrid.D) (F:List Nat) (w:World) (ho:Own shGrid w B cs d F) (hnd:F.Nodup) (hk0:1≤k) (hk:k+shGrid.cntV d≤1000000000000) :
   Calls Tryd.prog 33 #[.agg cs.toArray,I O k] w fun e w'=>e=.returned (I O ((k+shGrid.cntV d:Nat):Int))∧Own shGrid w' B cs (shGrid.mkV d k) F∧Touch w w' F:=by
 rw[cntV_Grid] at hk ⊢
 obtain⟨a2,n2,c2,F2,rfl,rfl,o2⟩:=openO_Grid ho
 obtain⟨x0,e0⟩:∃ x:Int,x=d.1:=⟨_,rfl⟩
 obtain⟨x1,e1⟩:∃ x:Int,x=d.2.1:=⟨_,rfl⟩
 obtain⟨x3,e3⟩:∃ x:Int,x=d.2.2.2.1:=⟨_,rfl⟩
 obtain⟨x4,e4⟩:∃ x:Int,x=d.2.2.2.2.1:=⟨_,rfl⟩
 obtain⟨x5,e5⟩:∃ x:Bool,x=d.2.2.2.2.2.1:=⟨_,rfl⟩
 obtain⟨C2,hC2⟩:∃ C,C=Sh.cnt (.sl .int) d.2.2.1:=⟨_,rfl⟩
 rw[← e0,← e1,← e3,← e4,← e5]
 rw[← hC2] at hk ⊢
 have HST:Hid (x0=d.1∧x1=d.2.1∧x3=d.2.2.2.1∧x4=d.2.2.2.2.1∧x5=d.2.2.2.2.2.1∧True):=⟨e0,e1,e3,e4,e5,trivial⟩
 obtain⟨k2,hk2⟩:∃ k':Nat,k'=k+C2:=⟨_,rfl⟩
 have qc2:Hid (∀ w':World,Own (.sl .int) w' B [Sz a2 n2 c2] d.2.2.1 F2→Calls Tryd.prog 34 #[Sz a2 n2 c2,I O ((k:Int))] w' fun e w''=>e=.returned (I O (k2:Int))∧Own (.sl .int) w'' B [Sz a2 n2 c2] (Sh.mk (.sl .int) d.2.2.1 (k)) F2∧Touch w' w'' F2):=fun w' h'=>by rw[hk2,hC2];exact markIntS_own a2 n2 c2 B (k) _ F2 w' h' ((List.nodup_append.1 hnd).1) (by rw[← hC2];omega)
 have HK2:Hid (k2=k+C2):=hk2
 have HC2:Hid (C2=Sh.cnt (.sl .int) d.2.2.1):=hC2
 have HND:Hid ((F2++([])).Nodup):=hnd
 obtain⟨W0,hW0⟩:∃ W0,W0=w.alloc (.cells #[I O x0,I O x1,Sz a2 n2 c2,I O x3,I O x4,.bool x5] 29):=⟨_,rfl⟩
 have bW0:Below w.heap.size w W0:=by rw[hW0];exact(Below.refl _ _).alloc (Nat.le_refl _) _
 have hbx:W0.heap[w.heap.size]?=some (.cells #[I O x0,I O x1,Sz a2 n2 c2,I O x3,I O x4,.bool x5] 29 (0,0)):=by rw[hW0];exact heap_alloc_new w _
 have zW0:W0.heap.size=w.heap.size+1:=by rw[hW0];simp
 have HW0:Hid (W0=w.alloc (.cells #[I O x0,I O x1,Sz a2 n2 c2,I O x3,I O x4,.bool x5] 29)):=hW0
 have HBX:Hid (W0.heap[w.heap.size]?=some (.cells #[I O x0,I O x1,Sz a2 n2 c2,I O x3,I O x4,.bool x5] 29 (0,0))):=hbx
 have p0_2:=o2.later bW0
 have LT2:Hid (∀ y ∈ F2,y < w.heap.size):=fun y hy=>(o2.lt y hy).2
 have t0:Touch w W0 (F2++([])):=Touch.of_below bW0 _
 clear ho hW0 hbx e0 e1 e3 e4 e5 hk2 hC2 o2
 go_enter Tryd.func33,Tryd.ntmps33
 go_wp2_with fail
 rw[← HW0.out]
 refine(qc2.out _ p0_2).mono ?_
 rintro e w2 ⟨rfl,om2,tq2⟩
 have z2:=tq2.size
 have i2:w2.heap[w.heap.size]?=some (.cells #[I O x0,I O x1,Sz a2 n2 c2,I O x3,I O x4,.bool x5] 29 (0,0)):=(tq2.block _ (lt_heap HBX.out) (fun h=>by have:=LT2.out _ h;omega)).trans HBX.out
 have p2_2:=om2
 have t2:=t0.trans (tq2.mono fun y hy=>(List.mem_append_left _ hy:y ∈ F2++([])))
 have y2_3:w2.cell? ⟨w.heap.size,3,none⟩=some (I O x3):=bxc i2 rfl
 have y2_4:w2.cell? ⟨w.heap.size,4,none⟩=some (I O x4):=bxc i2 rfl
 have y2_5:w2.cell? ⟨w.heap.size,5,none⟩=some (.bool x5):=bxc i2 rfl
 have BX2:Hid (w2.heap[w.heap.size]?=some (.cells #[I O x0,I O x1,Sz a2 n2 c2,I O x3,I O x4,.bool x5] 29 (0,0))):=i2
 clear i2
 have HT:Hid ((k2:Int)=(((k+(C2):Nat)):Int)):=by have f2:=HK2.out;show _=_;omega
 have v2:Own (.sl .int) w2 B [Sz a2 n2 c2] (Sh.mk (.sl .int) d.2.2.1 (k)) F2:=by
   have hv:=p2_2
   exact hv
 have hb:Own shGrid w2 B [I O (d.1),I O (d.2.1),Sz a2 n2 c2,I O (d.2.2.2.1),I O (d.2.2.2.2.1),.bool (d.2.2.2.2.2.1)] (shGrid.mkV d k) (F2++([])):=own_Grid (w:=w2) (B:=B) (d:=shGrid.mkV d k) v2
 rw[← HST.out.1,← HST.out.2.1,← HST.out.2.2.1,← HST.out.2.2.2.1,← HST.out.2.2.2.2.1] at hb
 have HB:Hid (Own shGrid w2 B [I O x0,I O x1,Sz a2 n2 c2,I O x3,I O x4,.bool x5] (shGrid.mkV d k) (F2++([]))):=hb
 clear hb v2 p2_2
 go_wp2
 go_ret
 exact⟨by rw[← HT.out];rfl,HB.out,t2⟩
set_option maxRecDepth 100000 in
theorem heldGrid_own (cs:List Value) (B k:Nat) (d:shGrid.D) (F:List Nat) (w:World) (ho:Own shGrid w B cs (shGrid.mkV d k) F) (hnd:F.Nodup) (hk0:1≤k) (hk:k+shGrid.cntV d≤1000000000000) :
   Calls Tryd.prog 35 #[.agg cs.toArray,I O k] w fun e w'=>e=.returned (I O ((k+shGrid.cntV d:Nat):Int))∧Below w.heap.size w w':=by
 rw[cntV_Grid] at hk ⊢
 obtain⟨a2,n2,c2,F2,rfl,rfl,o2⟩:=openO_Grid ho
 obtain⟨x0,e0⟩:∃ x:Int,x=(shGrid.mkV d k).1:=⟨_,rfl⟩
 obtain⟨x1,e1⟩:∃ x:Int,x=(shGrid.mkV d k).2.1:=⟨_,rfl⟩
 obtain⟨x3,e3⟩:∃ x:Int,x=(shGrid.mkV d k).2.2.2.1:=⟨_,rfl⟩
 obtain⟨x4,e4⟩:∃ x:Int,x=(shGrid.mkV d k).2.2.2.2.1:=⟨_,rfl⟩
 obtain⟨x5,e5⟩:∃ x:Bool,x=(shGrid.mkV d k).2.2.2.2.2.1:=⟨_,rfl⟩
 obtain⟨C2,hC2⟩:∃ C,C=Sh.cnt (.sl .int) d.2.2.1:=⟨_,rfl⟩
 rw[← e0,← e1,← e3,← e4,← e5]
 rw[← hC2] at hk ⊢
 obtain⟨k2,hk2⟩:∃ k':Nat,k'=k+C2:=⟨_,rfl⟩
 have ou2:Own (.sl .int) w B [Sz a2 n2 c2] (Sh.mk (.sl .int) d.2.2.1 (k)) F2:=by
   have hv:Own (.sl .int) w B [Sz a2 n2 c2] (Sh.mk (.sl .int) d.2.2.1 (k)) F2:=o2
   exact hv
 have qc2:Hid (∀ w':World,Below w.heap.size w w'→Calls Tryd.prog 36 #[Sz a2 n2 c2,I O ((k:Int))] w' fun e w''=>e=.returned (I O (k2:Int))∧Below w'.heap.size w' w''):=fun w' h'=>by rw[hk2,hC2];exact heldIntS_own a2 n2 c2 B (k) _ F2 w' (ou2.later h') (by rw[← hC2];omega)
 have nn2:¬ ((k2:Int) < 0):=by omega
 have HK2:Hid (k2=k+C2):=hk2
 have HC2:Hid (C2=Sh.cnt (.sl .int) d.2.2.1):=hC2
 obtain⟨W0,hW0⟩:∃ W0,W0=w.alloc (.cells #[I O x0,I O x1,Sz a2 n2 c2,I O x3,I O x4,.bool x5] 29):=⟨_,rfl⟩
 have bW0:Below w.heap.size w W0:=by rw[hW0];exact(Below.refl _ _).alloc (Nat.le_refl _) _
 have hbx:W0.heap[w.heap.size]?=some (.cells #[I O x0,I O x1,Sz a2 n2 c2,I O x3,I O x4,.bool x5] 29 (0,0)):=by rw[hW0];exact heap_alloc_new w _
 have zW0:W0.heap.size=w.heap.size+1:=by rw[hW0];simp
 have HW0:Hid (W0=w.alloc (.cells #[I O x0,I O x1,Sz a2 n2 c2,I O x3,I O x4,.bool x5] 29)):=hW0
 have HBX:Hid (W0.heap[w.heap.size]?=some (.cells #[I O x0,I O x1,Sz a2 n2 c2,I O x3,I O x4,.bool x5] 29 (0,0))):=hbx
 clear ho hW0 hbx e0 e1 e3 e4 e5 hk2 hC2 o2 ou2
 go_enter Tryd.func35,Tryd.ntmps35
 go_wp2_with fail
 rw[← HW0.out]
 refine(qc2.out _ bW0).mono ?_
 rintro e w2 ⟨rfl,hb2⟩
 have b2:=bW0.trans (hb2.mono bW0.size)
 have z2:=hb2.size
 have i2:w2.heap[w.heap.size]?=some (.cells #[I O x0,I O x1,Sz a2 n2 c2,I O x3,I O x4,.bool x5] 29 (0,0)):=(hb2.block _ (lt_heap HBX.out)).trans HBX.out
 clear hb2
 have y2_3:w2.cell? ⟨w.heap.size,3,none⟩=some (I O x3):=bxc i2 rfl
 have y2_4:w2.cell? ⟨w.heap.size,4,none⟩=some (I O x4):=bxc i2 rfl
 have y2_5:w2.cell? ⟨w.heap.size,5,none⟩=some (.bool x5):=bxc i2 rfl
 have BX2:Hid (w2.heap[w.heap.size]?=some (.cells #[I O x0,I O x1,Sz a2 n2 c2,I O x3,I O x4,.bool x5] 29 (0,0))):=i2
 clear i2
 have HT:Hid ((k2:Int)=(((k+(C2):Nat)):Int)):=by have f2:=HK2.out;show _=_;omega
 go_wp2
 go_ret
 exact⟨by rw[← HT.out];rfl,b2⟩
end Go.Proofs.YthodinpflcbklaaDoor
