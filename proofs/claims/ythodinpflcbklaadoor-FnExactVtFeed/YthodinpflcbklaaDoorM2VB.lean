/-
  Parts of the road to VB, joined: TyGrid.
-/
import Derived.Test.YthodinpflcbklaaDoorM0VB
import Derived.Handy
import Derived.Deep.RegionHeld3
import Derived.Test.YthodinpflcbklaaDoorM1VB
open Go.Value renaming int → I,slice → Sz
open Go.IntKind renaming i64 → O
open List renaming setIfInBounds_toArray → lA,getElem_toArray → lB,getElem_cons_succ → lC,getElem_cons_zero → lD,set_cons_zero → lE,set_cons_succ → lF
set_option linter.unusedVariables false
set_option linter.unusedSimpArgs false
set_option maxHeartbeats 40000000
namespace Go.Proofs.YthodinpflcbklaaDoor
open Go.RowKit
def shGrid:Sh:=Sh.ofL [.int,.int,(.sl .int),.int,.int,.bool]
theorem open_Grid{w:World}{cs:List Value}{d:shGrid.D}(h:Reads shGrid w cs d):
   ∃ a2 n2 c2,cs=[I O (d.1),I O (d.2.1),Sz a2 n2 c2,I O (d.2.2.2.1),I O (d.2.2.2.2.1),.bool (d.2.2.2.2.2.1)]∧Reads (.sl .int) w [Sz a2 n2 c2] d.2.2.1:=by
 obtain⟨_,_,rfl,h0,_,_,rfl,h1,_,_,rfl,h2,_,_,rfl,h3,_,_,rfl,h4,_,_,rfl,h5,hE⟩:=h
 have e0:_=_:=h0
 have e1:_=_:=h1
 have e3:_=_:=h3
 have e4:_=_:=h4
 have e5:_=_:=h5
 have g2:=h2
 obtain⟨a2,c2,e2,_⟩:=g2
 have eE:_=_:=hE
 subst e0 e1 e2 e3 e4 e5 eE
 exact⟨a2,_,c2,rfl,h2⟩
theorem own_Grid{w:World}{B:Nat}{d:shGrid.D}{v2:Value}{F2:List Nat}(o2:Own (.sl .int) w B [v2] d.2.2.1 F2):
   Own shGrid w B [I O (d.1),I O (d.2.1),v2,I O (d.2.2.2.1),I O (d.2.2.2.2.1),.bool (d.2.2.2.2.2.1)] d (F2++([])):=by
 exact⟨[_],_,[],F2++([]),rfl,rfl,⟨rfl,rfl⟩,⟨[_],_,[],F2++([]),rfl,rfl,⟨rfl,rfl⟩,⟨[_],_,F2,[],rfl,rfl,o2,⟨[_],_,[],[],rfl,rfl,⟨rfl,rfl⟩,⟨[_],_,[],[],rfl,rfl,⟨rfl,rfl⟩,⟨[_],_,[],[],rfl,rfl,⟨rfl,rfl⟩,⟨rfl,rfl⟩⟩⟩⟩⟩⟩⟩
theorem sz_Grid(d:shGrid.D):shGrid.sz d=Sh.sz (.sl .int) d.2.2.1:=by
 show 0+(0+(Sh.sz (.sl .int) d.2.2.1+(0+(0+(0+(0))))))=_
 omega
theorem szGrid_any(cs:List Value)(d:shGrid.D)(left:Int)(w:World)(hr:Reads shGrid w cs d)(h0:0≤left)(h1:left≤1048576):
   Calls Tryd.prog 23 #[.agg cs.toArray,I O left] w fun e w'=>e=.returned (I O (szAns (shGrid.sz d) left))∧Below w.heap.size w w':=by
 obtain⟨a2,n2,c2,rfl,r2⟩:=open_Grid hr
 obtain⟨x0,e0⟩:∃ x:Int,x=d.1:=⟨_,rfl⟩
 obtain⟨x1,e1⟩:∃ x:Int,x=d.2.1:=⟨_,rfl⟩
 obtain⟨x3,e3⟩:∃ x:Int,x=d.2.2.2.1:=⟨_,rfl⟩
 obtain⟨x4,e4⟩:∃ x:Int,x=d.2.2.2.2.1:=⟨_,rfl⟩
 obtain⟨x5,e5⟩:∃ x:Bool,x=d.2.2.2.2.2.1:=⟨_,rfl⟩
 rw[sz_Grid]
 obtain⟨k2,hk2⟩:∃ k,k=Sh.sz (.sl .int) d.2.2.1:=⟨_,rfl⟩
 have q2:Hid (∀ w',Below w.heap.size w w'→∀ l:Int,0≤l→l≤1048576→Calls Tryd.prog 24 #[Sz a2 n2 c2,I O l] w' fun e w''=>e=.returned (I O (szAns k2 l))∧Below w'.heap.size w' w''):=fun w' hb l l0 l1=>by rw[hk2];exact szIntS_any a2 n2 c2 _ l w' (r2.later hb) l0 l1
 rw[← hk2]
 rw[← e0,← e1,← e3,← e4,← e5]
 clear hr r2 hk2 e0 e1 e3 e4 e5
 obtain⟨W0,hW0⟩:∃ W0,W0=w.alloc (.cells #[I O x0,I O x1,Sz a2 n2 c2,I O x3,I O x4,.bool x5] 24):=⟨_,rfl⟩
 have bW0:Below w.heap.size w W0:=by rw[hW0];exact(Below.refl _ _).alloc (Nat.le_refl _) _
 have hbox:W0.heap[w.heap.size]?=some (.cells #[I O x0,I O x1,Sz a2 n2 c2,I O x3,I O x4,.bool x5] 24 (0,0)):=by rw[hW0];exact heap_alloc_new w _
 have zW0:W0.heap.size=w.heap.size+1:=by rw[hW0];simp
 have HW0:Hid (W0=_):=hW0
 have HBX:Hid _:=hbox
 clear hW0 hbox
 go_enter Tryd.func23,Tryd.ntmps23
 go_wp2_with fail
 rw[← HW0.out]
 refine(q2.out _ bW0 (left) (by omega) (by omega)).mono ?_
 rintro e w2 ⟨rfl,hb2⟩
 have b2:=bW0.trans (hb2.mono bW0.size)
 have i2:w2.heap[w.heap.size]?=_:=(hb2.block _ (by rw[zW0];omega)).trans HBX.out
 have z2:=hb2.size
 rw[zW0] at z2
 have I2:Hid _:=i2
 clear i2 hb2
 by_cases t2:(k2:Int)≤left
 rotate_left
 · rw[szAns_no t2]
   have E:Hid (szAns (k2) left=-1):=szAns_no (by omega)
   go_wp2
   go_ret
   exact⟨by rw[E.out];rfl,b2⟩
 rw[szAns_yes t2]
 have u2:¬ (left - (k2:Int) < 0):=by omega
 have E:Hid (szAns (k2) left=left - (k2:Int)):=by show _=_;rw[szAns_yes (by omega)]
 go_wp2
 go_ret
 exact⟨by rw[E.out];rfl,b2⟩
theorem opens_Grid{H:Type}{enc:TypeId × Value→H}{w:World}{spare:Nat→Bool}{held:Bool}:Opens enc Tryd.prog w spare held 24 shGrid:=by
 refine opens_struct [.int,.int,(.sl .int),.int,.int,.bool] Tryd.underlying24 (by kernel_rfl) (fun i s hi=>?_)
 match i,hi with
 | 0,hi=>obtain rfl:=Option.some.inj hi;exact⟨_,rfl,opens_int Tryd.underlying3 (by kernel_rfl),rfl⟩
 | 1,hi=>obtain rfl:=Option.some.inj hi;exact⟨_,rfl,opens_int Tryd.underlying3 (by kernel_rfl),rfl⟩
 | 2,hi=>obtain rfl:=Option.some.inj hi;exact⟨_,rfl,opens_sl Tryd.underlying22 (by kernel_rfl) (by decide) (opens_int Tryd.underlying3 (by kernel_rfl)),rfl⟩
 | 3,hi=>obtain rfl:=Option.some.inj hi;exact⟨_,rfl,opens_int Tryd.underlying3 (by kernel_rfl),rfl⟩
 | 4,hi=>obtain rfl:=Option.some.inj hi;exact⟨_,rfl,opens_int Tryd.underlying3 (by kernel_rfl),rfl⟩
 | 5,hi=>obtain rfl:=Option.some.inj hi;exact⟨_,rfl,opens_bool Tryd.underlying4 (by kernel_rfl),rfl⟩
 | n+6,hi=>simp at hi
set_option maxRecDepth 100000 in
theorem toGrid_any (cs:List Value) (d:shGrid.D) (w:World) (hr:Reads shGrid w cs d) (hs:shGrid.sz d≤1048576) :
   Calls Tryd.prog 29 #[.agg cs.toArray] w fun e w'=>∃ cs' F,e=.returned (.agg cs'.toArray)∧Own shGrid w' w.heap.size cs' d F∧F.Nodup∧Below w.heap.size w w':=by
 obtain⟨a2,n2,c2,rfl,r2⟩:=open_Grid hr
 obtain⟨x0,e0⟩:∃ x:Int,x=d.1:=⟨_,rfl⟩
 obtain⟨x1,e1⟩:∃ x:Int,x=d.2.1:=⟨_,rfl⟩
 obtain⟨x3,e3⟩:∃ x:Int,x=d.2.2.2.1:=⟨_,rfl⟩
 obtain⟨x4,e4⟩:∃ x:Int,x=d.2.2.2.2.1:=⟨_,rfl⟩
 obtain⟨x5,e5⟩:∃ x:Bool,x=d.2.2.2.2.2.1:=⟨_,rfl⟩
 rw[sz_Grid] at hs
 have q2:Hid (∀ w',Below w.heap.size w w'→Calls Tryd.prog 30 #[Sz a2 n2 c2] w' fun e w''=>∃ (g:Nat) (F:List Nat),e=.returned (Sz (some ⟨g,0,none⟩) n2 n2)∧Own (.sl .int) w'' w'.heap.size [Sz (some ⟨g,0,none⟩) n2 n2] d.2.2.1 F∧F.Nodup∧Below w'.heap.size w' w''):=fun w' h'=>toIntS_own a2 n2 c2 _ w' (r2.later h') (by omega)
 rw[← e0,← e1,← e3,← e4,← e5]
 have HE:Hid (x0=d.1∧x1=d.2.1∧x3=d.2.2.2.1∧x4=d.2.2.2.2.1∧x5=d.2.2.2.2.2.1∧True):=⟨e0,e1,e3,e4,e5,trivial⟩
 obtain⟨i0,i1,i2,isz⟩:=alloc3_heap w (.cells #[I O x0,I O x1,Sz a2 n2 c2,I O x3,I O x4,.bool x5] 24) (.cells #[I O 0,I O 0,Sz none 0 0,I O 0,I O 0,.bool false] 29) (.cells #[I O x0,I O x1,Sz none 0 0,I O 0,I O 0,.bool false] 29)
 obtain⟨W0,hW0⟩:∃ W0,W0=((w.alloc (.cells #[I O x0,I O x1,Sz a2 n2 c2,I O x3,I O x4,.bool x5] 24)).alloc (.cells #[I O 0,I O 0,Sz none 0 0,I O 0,I O 0,.bool false] 29)).alloc (.cells #[I O x0,I O x1,Sz none 0 0,I O 0,I O 0,.bool false] 29):=⟨_,rfl⟩
 rw[← hW0] at i0 i1 i2 isz
 have bW0:Below w.heap.size w W0:=by rw[hW0];exact(((Below.refl _ _).alloc (Nat.le_refl _) _).alloc (by simp) _).alloc (by simp;omega) _
 have HW0:Hid (W0=_):=hW0
 have HI:Hid (_∧_∧_):=⟨i0,i1,i2⟩
 clear hr hs hW0 i0 i1 i2 r2 e0 e1 e3 e4 e5
 go_enter Tryd.func29,Tryd.ntmps29
 go_wp2_with fail
 rw[← HW0.out]
 refine(q2.out _ bW0).mono ?_
 rintro e w2 ⟨g2,F2,rfl,o2,nd2,hb2⟩
 have b2:=bW0.trans (hb2.mono bW0.size)
 have z2:=hb2.size
 have iA:w2.heap[w.heap.size]?=some (.cells #[I O x0,I O x1,Sz a2 n2 c2,I O x3,I O x4,.bool x5] 24 (0,0)):=(hb2.block _ (by omega)).trans HI.out.1
 have iB:w2.heap[w.heap.size+1]?=some (.cells #[I O 0,I O 0,Sz none 0 0,I O 0,I O 0,.bool false] 29 (0,0)):=(hb2.block _ (by omega)).trans HI.out.2.1
 have iC:w2.heap[w.heap.size+1+1]?=some (.cells #[I O x0,I O x1,Sz none 0 0,I O 0,I O 0,.bool false] 29 (0,0)):=(hb2.block _ (by omega)).trans HI.out.2.2
 have ya2_3:w2.cell? ⟨w.heap.size,3,none⟩=some (I O x3):=bxc iA rfl
 have ya2_4:w2.cell? ⟨w.heap.size,4,none⟩=some (I O x4):=bxc iA rfl
 have ya2_5:w2.cell? ⟨w.heap.size,5,none⟩=some (.bool x5):=bxc iA rfl
 have yb2_2:w2.cell? ⟨w.heap.size+1+1,2,none⟩=some (Sz none 0 0):=bxc iC rfl
 have yf2_2:w2.frozen? ⟨w.heap.size+1+1,2,none⟩=false:=box_frozen iC
 have yb2_3:w2.cell? ⟨w.heap.size+1+1,3,none⟩=some (I O 0):=bxc iC rfl
 have yf2_3:w2.frozen? ⟨w.heap.size+1+1,3,none⟩=false:=box_frozen iC
 have yb2_4:w2.cell? ⟨w.heap.size+1+1,4,none⟩=some (I O 0):=bxc iC rfl
 have yf2_4:w2.frozen? ⟨w.heap.size+1+1,4,none⟩=false:=box_frozen iC
 have yb2_5:w2.cell? ⟨w.heap.size+1+1,5,none⟩=some (.bool false):=bxc iC rfl
 have yf2_5:w2.frozen? ⟨w.heap.size+1+1,5,none⟩=false:=box_frozen iC
 have yb2_0:w2.cell? ⟨w.heap.size+1+1,0,none⟩=some (I O x0):=bxc iC rfl
 have yr2_0:w2.cell? ⟨w.heap.size+1,0,none⟩=some (I O 0):=bxc iB rfl
 have yg2_0:w2.frozen? ⟨w.heap.size+1,0,none⟩=false:=box_frozen iB
 have yb2_1:w2.cell? ⟨w.heap.size+1+1,1,none⟩=some (I O x1):=bxc iC rfl
 have yr2_1:w2.cell? ⟨w.heap.size+1,1,none⟩=some (I O 0):=bxc iB rfl
 have yg2_1:w2.frozen? ⟨w.heap.size+1,1,none⟩=false:=box_frozen iB
 have yr2_2:w2.cell? ⟨w.heap.size+1,2,none⟩=some (Sz none 0 0):=bxc iB rfl
 have yg2_2:w2.frozen? ⟨w.heap.size+1,2,none⟩=false:=box_frozen iB
 have yr2_3:w2.cell? ⟨w.heap.size+1,3,none⟩=some (I O 0):=bxc iB rfl
 have yg2_3:w2.frozen? ⟨w.heap.size+1,3,none⟩=false:=box_frozen iB
 have yr2_4:w2.cell? ⟨w.heap.size+1,4,none⟩=some (I O 0):=bxc iB rfl
 have yg2_4:w2.frozen? ⟨w.heap.size+1,4,none⟩=false:=box_frozen iB
 have yr2_5:w2.cell? ⟨w.heap.size+1,5,none⟩=some (.bool false):=bxc iB rfl
 have yg2_5:w2.frozen? ⟨w.heap.size+1,5,none⟩=false:=box_frozen iB
 rw[isz] at o2
 have L2:=o2.lt
 have ND:(F2++([])).Nodup:=by
   simp only[List.append_nil]
   refine nd2
 have HO:Hid ((∀ w',(∀ g,w.heap.size+1+1 < g→w'.heap[g]?=w2.heap[g]?)→Own shGrid w' w.heap.size [I O x0,I O x1,Sz (some ⟨g2,0,none⟩) n2 n2,I O x3,I O x4,.bool x5] d (F2++([])))∧True):=⟨fun w' hw'=>by
   have:=own_Grid (w:=w') (B:=w.heap.size) (d:=d) ((o2.keep fun g hg=>hw' g (by have:=(L2 g hg).1;omega)).base (by omega))
   simpa only[← HE.out.1,← HE.out.2.1,← HE.out.2.2.1,← HE.out.2.2.2.1,← HE.out.2.2.2.2.1] using this,trivial⟩
 have HB:Hid (Below w.heap.size w w2):=b2
 have HN:Hid ((F2++([])).Nodup):=ND
 clear iA iB iC ND b2 L2 o2
 have yz0:((((((w2).setCell ⟨w.heap.size+1+1,2,none⟩ (Sz (some ⟨g2,0,none⟩) n2 n2)).setCell ⟨w.heap.size+1+1,3,none⟩ (I O x3)).setCell ⟨w.heap.size+1+1,4,none⟩ (I O x4)).setCell ⟨w.heap.size+1+1,5,none⟩ (.bool x5)).setCell ⟨w.heap.size+1,0,none⟩ (I O x0)).cell? ⟨w.heap.size+1,0,none⟩=some (I O x0):=World.cell?_setCell_same _ _ _ (by rw[World.cell?_setCell_other _ _ _ _ (by simp),World.cell?_setCell_other _ _ _ _ (by simp),World.cell?_setCell_other _ _ _ _ (by simp),World.cell?_setCell_other _ _ _ _ (by simp)];exact yr2_0)
 have yz1:(((((((w2).setCell ⟨w.heap.size+1+1,2,none⟩ (Sz (some ⟨g2,0,none⟩) n2 n2)).setCell ⟨w.heap.size+1+1,3,none⟩ (I O x3)).setCell ⟨w.heap.size+1+1,4,none⟩ (I O x4)).setCell ⟨w.heap.size+1+1,5,none⟩ (.bool x5)).setCell ⟨w.heap.size+1,0,none⟩ (I O x0)).setCell ⟨w.heap.size+1,1,none⟩ (I O x1)).cell? ⟨w.heap.size+1,1,none⟩=some (I O x1):=World.cell?_setCell_same _ _ _ (by rw[World.cell?_setCell_other _ _ _ _ (by simp),World.cell?_setCell_other _ _ _ _ (by simp),World.cell?_setCell_other _ _ _ _ (by simp),World.cell?_setCell_other _ _ _ _ (by simp),World.cell?_setCell_other _ _ _ _ (by simp)];exact yr2_1)
 have yz2:((((((((w2).setCell ⟨w.heap.size+1+1,2,none⟩ (Sz (some ⟨g2,0,none⟩) n2 n2)).setCell ⟨w.heap.size+1+1,3,none⟩ (I O x3)).setCell ⟨w.heap.size+1+1,4,none⟩ (I O x4)).setCell ⟨w.heap.size+1+1,5,none⟩ (.bool x5)).setCell ⟨w.heap.size+1,0,none⟩ (I O x0)).setCell ⟨w.heap.size+1,1,none⟩ (I O x1)).setCell ⟨w.heap.size+1,2,none⟩ (Sz (some ⟨g2,0,none⟩) n2 n2)).cell? ⟨w.heap.size+1,2,none⟩=some (Sz (some ⟨g2,0,none⟩) n2 n2):=World.cell?_setCell_same _ _ _ (by rw[World.cell?_setCell_other _ _ _ _ (by simp),World.cell?_setCell_other _ _ _ _ (by simp),World.cell?_setCell_other _ _ _ _ (by simp),World.cell?_setCell_other _ _ _ _ (by simp),World.cell?_setCell_other _ _ _ _ (by simp),World.cell?_setCell_other _ _ _ _ (by simp)];exact yr2_2)
 have yz3:(((((((((w2).setCell ⟨w.heap.size+1+1,2,none⟩ (Sz (some ⟨g2,0,none⟩) n2 n2)).setCell ⟨w.heap.size+1+1,3,none⟩ (I O x3)).setCell ⟨w.heap.size+1+1,4,none⟩ (I O x4)).setCell ⟨w.heap.size+1+1,5,none⟩ (.bool x5)).setCell ⟨w.heap.size+1,0,none⟩ (I O x0)).setCell ⟨w.heap.size+1,1,none⟩ (I O x1)).setCell ⟨w.heap.size+1,2,none⟩ (Sz (some ⟨g2,0,none⟩) n2 n2)).setCell ⟨w.heap.size+1,3,none⟩ (I O x3)).cell? ⟨w.heap.size+1,3,none⟩=some (I O x3):=World.cell?_setCell_same _ _ _ (by rw[World.cell?_setCell_other _ _ _ _ (by simp),World.cell?_setCell_other _ _ _ _ (by simp),World.cell?_setCell_other _ _ _ _ (by simp),World.cell?_setCell_other _ _ _ _ (by simp),World.cell?_setCell_other _ _ _ _ (by simp),World.cell?_setCell_other _ _ _ _ (by simp),World.cell?_setCell_other _ _ _ _ (by simp)];exact yr2_3)
 have yz4:((((((((((w2).setCell ⟨w.heap.size+1+1,2,none⟩ (Sz (some ⟨g2,0,none⟩) n2 n2)).setCell ⟨w.heap.size+1+1,3,none⟩ (I O x3)).setCell ⟨w.heap.size+1+1,4,none⟩ (I O x4)).setCell ⟨w.heap.size+1+1,5,none⟩ (.bool x5)).setCell ⟨w.heap.size+1,0,none⟩ (I O x0)).setCell ⟨w.heap.size+1,1,none⟩ (I O x1)).setCell ⟨w.heap.size+1,2,none⟩ (Sz (some ⟨g2,0,none⟩) n2 n2)).setCell ⟨w.heap.size+1,3,none⟩ (I O x3)).setCell ⟨w.heap.size+1,4,none⟩ (I O x4)).cell? ⟨w.heap.size+1,4,none⟩=some (I O x4):=World.cell?_setCell_same _ _ _ (by rw[World.cell?_setCell_other _ _ _ _ (by simp),World.cell?_setCell_other _ _ _ _ (by simp),World.cell?_setCell_other _ _ _ _ (by simp),World.cell?_setCell_other _ _ _ _ (by simp),World.cell?_setCell_other _ _ _ _ (by simp),World.cell?_setCell_other _ _ _ _ (by simp),World.cell?_setCell_other _ _ _ _ (by simp),World.cell?_setCell_other _ _ _ _ (by simp)];exact yr2_4)
 have yz5:(((((((((((w2).setCell ⟨w.heap.size+1+1,2,none⟩ (Sz (some ⟨g2,0,none⟩) n2 n2)).setCell ⟨w.heap.size+1+1,3,none⟩ (I O x3)).setCell ⟨w.heap.size+1+1,4,none⟩ (I O x4)).setCell ⟨w.heap.size+1+1,5,none⟩ (.bool x5)).setCell ⟨w.heap.size+1,0,none⟩ (I O x0)).setCell ⟨w.heap.size+1,1,none⟩ (I O x1)).setCell ⟨w.heap.size+1,2,none⟩ (Sz (some ⟨g2,0,none⟩) n2 n2)).setCell ⟨w.heap.size+1,3,none⟩ (I O x3)).setCell ⟨w.heap.size+1,4,none⟩ (I O x4)).setCell ⟨w.heap.size+1,5,none⟩ (.bool x5)).cell? ⟨w.heap.size+1,5,none⟩=some (.bool x5):=World.cell?_setCell_same _ _ _ (by rw[World.cell?_setCell_other _ _ _ _ (by simp),World.cell?_setCell_other _ _ _ _ (by simp),World.cell?_setCell_other _ _ _ _ (by simp),World.cell?_setCell_other _ _ _ _ (by simp),World.cell?_setCell_other _ _ _ _ (by simp),World.cell?_setCell_other _ _ _ _ (by simp),World.cell?_setCell_other _ _ _ _ (by simp),World.cell?_setCell_other _ _ _ _ (by simp),World.cell?_setCell_other _ _ _ _ (by simp)];exact yr2_5)
 go_wp2
 (try simp only[Exit.inBlock,Exit.then])
 refine bodyPost_ret (by simp[results,Tryd.results29,go_sem,yz0,yz1,yz2,yz3,yz4,yz5];try rfl) rfl ?_
 refine⟨_,_,rfl,HO.out.1 _ (fun g hg=>((box_other _ (by omega)).trans ((box_other _ (by omega)).trans ((box_other _ (by omega)).trans ((box_other _ (by omega)).trans ((box_other _ (by omega)).trans ((box_other _ (by omega)).trans ((box_other _ (by omega)).trans ((box_other _ (by omega)).trans ((box_other _ (by omega)).trans (box_other _ (by omega)))))))))))),HN.out,?_⟩
 exact((((((((((HB.out.setCell (by simp <;> omega) _).setCell (by simp <;> omega) _).setCell (by simp <;> omega) _).setCell (by simp <;> omega) _).setCell (by simp <;> omega) _).setCell (by simp <;> omega) _).setCell (by simp <;> omega) _).setCell (by simp <;> omega) _).setCell (by simp <;> omega) _).setCell (by simp <;> omega) _)
set_option maxRecDepth 100000 in
theorem eqGrid_any (cs1 cs2:List Value) (d:shGrid.D) (w:World) (hr:Reads shGrid w cs1 d) (hq:Reads shGrid w cs2 d) (hs:shGrid.sz d≤1048576) :
   Calls Tryd.prog 31 #[.agg cs1.toArray,.agg cs2.toArray] w fun e w'=>e=.returned (.bool true)∧Below w.heap.size w w':=by
 obtain⟨a2,n2,c2,rfl,r2⟩:=open_Grid hr
 obtain⟨p2,m2,k2,rfl,t2⟩:=open_Grid hq
 obtain⟨x0,e0⟩:∃ x:Int,x=d.1:=⟨_,rfl⟩
 obtain⟨x1,e1⟩:∃ x:Int,x=d.2.1:=⟨_,rfl⟩
 obtain⟨x3,e3⟩:∃ x:Int,x=d.2.2.2.1:=⟨_,rfl⟩
 obtain⟨x4,e4⟩:∃ x:Int,x=d.2.2.2.2.1:=⟨_,rfl⟩
 obtain⟨x5,e5⟩:∃ x:Bool,x=d.2.2.2.2.2.1:=⟨_,rfl⟩
 rw[sz_Grid] at hs
 obtain rfl:n2=m2:=(reads_len r2).1.symm.trans (reads_len t2).1
 have q2:Hid (∀ w',Below w.heap.size w w'→Calls Tryd.prog 32 #[Sz a2 n2 c2,Sz p2 n2 k2] w' fun e w''=>e=.returned (.bool true)∧Below w'.heap.size w' w''):=fun w' h'=>eqIntS_reads a2 p2 n2 c2 k2 _ w' (r2.later h') (t2.later h') (by omega)
 rw[← e0,← e1,← e3,← e4,← e5]
 have ne0:(x0 != x0)=false:=by simp
 have ne1:(x1 != x1)=false:=by simp
 have ne3:(x3 != x3)=false:=by simp
 have ne4:(x4 != x4)=false:=by simp
 have ne5:(x5 != x5)=false:=by simp
 clear hr hq hs r2 t2 e0 e1 e3 e4 e5
 obtain⟨W0,hW0⟩:∃ W0,W0=(w.alloc (.cells #[I O x0,I O x1,Sz a2 n2 c2,I O x3,I O x4,.bool x5] 29)).alloc (.cells #[I O x0,I O x1,Sz p2 n2 k2,I O x3,I O x4,.bool x5] 29):=⟨_,rfl⟩
 have bW0:Below w.heap.size w W0:=by rw[hW0];exact((Below.refl _ _).alloc (Nat.le_refl _) _).alloc (by simp) _
 have hA:W0.heap[w.heap.size]?=some (.cells #[I O x0,I O x1,Sz a2 n2 c2,I O x3,I O x4,.bool x5] 29 (0,0)):=by rw[hW0,heap_alloc_old _ _ (by simp)];exact heap_alloc_new w _
 have hB:W0.heap[w.heap.size+1]?=some (.cells #[I O x0,I O x1,Sz p2 n2 k2,I O x3,I O x4,.bool x5] 29 (0,0)):=by rw[hW0];exact(by have:=heap_alloc_new (w.alloc (.cells #[I O x0,I O x1,Sz a2 n2 c2,I O x3,I O x4,.bool x5] 29)) (.cells #[I O x0,I O x1,Sz p2 n2 k2,I O x3,I O x4,.bool x5] 29);simpa using this)
 have zW0:W0.heap.size=w.heap.size+1+1:=by rw[hW0];simp
 have HW0:Hid (W0=_):=hW0
 have HAB:Hid (W0.heap[w.heap.size]?=some (.cells #[I O x0,I O x1,Sz a2 n2 c2,I O x3,I O x4,.bool x5] 29 (0,0))∧W0.heap[w.heap.size+1]?=some (.cells #[I O x0,I O x1,Sz p2 n2 k2,I O x3,I O x4,.bool x5] 29 (0,0))):=⟨hA,hB⟩
 clear hW0 hA hB
 go_enter Tryd.func31,Tryd.ntmps31
 go_wp2_with fail
 rw[← HW0.out]
 refine(q2.out _ bW0).mono ?_
 rintro e w2 ⟨rfl,hb2⟩
 have b2:=bW0.trans (hb2.mono bW0.size)
 have z2:=hb2.size
 have iA:w2.heap[w.heap.size]?=some (.cells #[I O x0,I O x1,Sz a2 n2 c2,I O x3,I O x4,.bool x5] 29 (0,0)):=(hb2.block _ (by omega)).trans HAB.out.1
 have iB:w2.heap[w.heap.size+1]?=some (.cells #[I O x0,I O x1,Sz p2 n2 k2,I O x3,I O x4,.bool x5] 29 (0,0)):=(hb2.block _ (by omega)).trans HAB.out.2
 have ya2_3:w2.cell? ⟨w.heap.size,3,none⟩=some (I O x3):=bxc iA rfl
 have yb2_3:w2.cell? ⟨w.heap.size+1,3,none⟩=some (I O x3):=bxc iB rfl
 have ya2_4:w2.cell? ⟨w.heap.size,4,none⟩=some (I O x4):=bxc iA rfl
 have yb2_4:w2.cell? ⟨w.heap.size+1,4,none⟩=some (I O x4):=bxc iB rfl
 have ya2_5:w2.cell? ⟨w.heap.size,5,none⟩=some (.bool x5):=bxc iA rfl
 have yb2_5:w2.cell? ⟨w.heap.size+1,5,none⟩=some (.bool x5):=bxc iB rfl
 have I2:Hid (w2.heap[w.heap.size]?=some (.cells #[I O x0,I O x1,Sz a2 n2 c2,I O x3,I O x4,.bool x5] 29 (0,0))∧w2.heap[w.heap.size+1]?=some (.cells #[I O x0,I O x1,Sz p2 n2 k2,I O x3,I O x4,.bool x5] 29 (0,0))):=⟨iA,iB⟩
 clear iA iB hb2
 go_wp2
 go_ret
 exact⟨rfl,b2⟩
end Go.Proofs.YthodinpflcbklaaDoor
