/-
  Parts of the road to VB, joined: SvE, SvB, MPro.
-/
import Derived.Test.YthodinpflcbklaaDoorM20VB
import Derived.Test.YthodinpflcbklaaDoorM7VB
import Derived.Deep.MidRow
open Go.Value renaming int → I,slice → Sz
open Go.IntKind renaming i64 → O
open List renaming setIfInBounds_toArray → lA,getElem_toArray → lB,getElem_cons_succ → lC,getElem_cons_zero → lD,set_cons_zero → lE,set_cons_succ → lF
set_option linter.unusedVariables false
set_option linter.unusedSimpArgs false
set_option maxHeartbeats 40000000
namespace Go.Proofs.YthodinpflcbklaaDoor
open Go.RowKit
set_option maxRecDepth 100000
def ersD(m x at' y:Int)(g:GrD):GrD:=(g.1,g.2.1,ersM m x at' y g.2.2.1,g.2.2.2.1,g.2.2.2.2.1,g.2.2.2.2.2.1,())
theorem serase_0(W H X Y:Int)(wrp:Bool)(a:Option Addr)(n c:Nat)(zs:List Int)(x A y m:Int)(w:World)(hg:gokB (W,H,zs,X,Y,wrp,())=true)(hr:Reads (.sl .int) w [Sz a n c] zs)(hm:m=0):
   Calls Tryd.prog 88 #[.agg #[I O W,I O H,Sz a n c,I O X,I O Y,.bool wrp],I O x,I O A,I O y,I O m] w fun e w'=>GAns w w' e (ersD m x A y (W,H,zs,X,Y,wrp,())):=by
 obtain⟨W1,hW1⟩:∃ U,U=(w.alloc (.cells #[I O W,I O H,Sz a n c,I O X,I O Y,.bool wrp] 29)).alloc (.cells #[I O 0,I O 0,Sz none 0 0,I O 0,I O 0,.bool false] 29):=⟨_,rfl⟩
 have bW1:Below w.heap.size w W1:=by rw[hW1];exact((Below.refl _ _).alloc (Nat.le_refl _) _).alloc (by simp) _
 have zW1:W1.heap.size=w.heap.size+2:=by rw[hW1];simp
 have hA1:W1.heap[w.heap.size]?=some (.cells #[I O W,I O H,Sz a n c,I O X,I O Y,.bool wrp] 29 (0,0)):=by rw[hW1,heap_alloc_old _ _ (by simp)];exact heap_alloc_new w _
 have hZ1:W1.heap[w.heap.size+1]?=some (.cells #[I O 0,I O 0,Sz none 0 0,I O 0,I O 0,.bool false] 29 (0,0)):=by rw[hW1];have:=heap_alloc_new (w.alloc (.cells #[I O W,I O H,Sz a n c,I O X,I O Y,.bool wrp] 29)) (.cells #[I O 0,I O 0,Sz none 0 0,I O 0,I O 0,.bool false] 29);simpa using this
 have HBX:Hid (∀ w',Below W1.heap.size W1 w'→w'.heap[w.heap.size]?=some (.cells #[I O W,I O H,Sz a n c,I O X,I O Y,.bool wrp] 29 (0,0))∧w'.heap[w.heap.size+1]?=some (.cells #[I O 0,I O 0,Sz none 0 0,I O 0,I O 0,.bool false] 29 (0,0))):=fun w' h'=>⟨(h'.block _ (by omega)).trans hA1,(h'.block _ (by omega)).trans hZ1⟩
 have HB1:Hid (Below w.heap.size w W1∧W1.heap.size=w.heap.size+2):=⟨bW1,zW1⟩
 have HW:Hid (W1=_):=hW1
 have hers:ersM m x A y zs=clrM A y zs:=by unfold ersM;rw[if_pos hm]
 have QC:Hid (Calls Tryd.prog 79 #[.agg #[I O W,I O H,Sz a n c,I O X,I O Y,.bool wrp],I O A,I O y] W1 fun e w'=>GAns W1 w' e ((W,H,clrM A y zs,X,Y,wrp,()):GrD)):=sclear_any (g:=(W,H,zs,X,Y,wrp,())) A y W1 hg (hr.later bW1)
 have HE:Hid (ersD m x A y (W,H,zs,X,Y,wrp,())=((W,H,clrM A y zs,X,Y,wrp,()):GrD)):=by
   show (W,H,ersM m x A y zs,X,Y,wrp,())=_
   rw[hers]
 subst hm
 clear hers hg hr hW1 bW1 zW1 hA1 hZ1
 have i_1:=HBX.out _ (Below.refl _ W1)
 have y0:W1.cell? ⟨w.heap.size,0,none⟩=some (I O W):=bxc i_1.1 rfl
 have y1:W1.cell? ⟨w.heap.size,1,none⟩=some (I O H):=bxc i_1.1 rfl
 have y2:W1.cell? ⟨w.heap.size,2,none⟩=some (Sz a n c):=bxc i_1.1 rfl
 have y3:W1.cell? ⟨w.heap.size,3,none⟩=some (I O X):=bxc i_1.1 rfl
 have y4:W1.cell? ⟨w.heap.size,4,none⟩=some (I O Y):=bxc i_1.1 rfl
 have y5:W1.cell? ⟨w.heap.size,5,none⟩=some (.bool wrp):=bxc i_1.1 rfl
 go_enter Tryd.func88,Tryd.ntmps88
 go_wp2_with fail
 rw[← HW.out]
 refine QC.out.mono ?_
 rintro e w2 ⟨a2,n2,c2,F,rfl,ho,hb2⟩
 have i2:=HBX.out _ hb2
 have bw2:=HB1.out.1.trans (hb2.mono HB1.out.1.size)
 have HLD:(loadVar 29 ⟨w.heap.size+1,0,none⟩).run Tryd.prog (w2.setRow (w.heap.size+1) #[I O W,I O H,Sz a2 n2 c2,I O X,I O Y,.bool wrp])=.ok (.agg #[I O W,I O H,Sz a2 n2 c2,I O X,I O Y,.bool wrp]) (w2.setRow (w.heap.size+1) #[I O W,I O H,Sz a2 n2 c2,I O X,I O Y,.bool wrp]):=run_loadVar_row _ _ _ _ _ _ _ (setRow_heap _ _ _ _ _ _ i2.2) Tryd.underlying29 rfl (by kernel_rfl)
 have HO:Hid (Below w.heap.size w (w2.setRow (w.heap.size+1) #[I O W,I O H,Sz a2 n2 c2,I O X,I O Y,.bool wrp])∧Own (.sl .int) (w2.setRow (w.heap.size+1) #[I O W,I O H,Sz a2 n2 c2,I O X,I O Y,.bool wrp]) w.heap.size [Sz a2 n2 c2] (clrM A y zs) F):=
   ⟨below_setRow bw2 (Nat.le_add_right _ 1) _,(own_setRowLo ho _ (by have:=HB1.out.2;omega)).base (by have:=HB1.out.2;omega)⟩
 clear bw2 ho hb2 y0 y1 y2 y3 y4 y5
 go_wp2_with (refine wpList_store_row rfl _ _ _ rfl _ _ rfl rfl _ _ i2.2 (by kernel_rfl) rfl (by simp[Value.oneCell']) ?_)
 (try simp only[Exit.inBlock,Exit.then])
 refine bodyPost_ret (by simp[results,Tryd.results88,asAddr,Act.put,HLD];try rfl) rfl ?_
 rw[HE.out]
 exact⟨a2,n2,c2,F,rfl,HO.out.2,HO.out.1⟩
theorem serase_1(W H X Y:Int)(wrp:Bool)(a:Option Addr)(n c:Nat)(zs:List Int)(x A y m:Int)(w:World)(hg:gokB (W,H,zs,X,Y,wrp,())=true)(hr:Reads (.sl .int) w [Sz a n c] zs)(hm:m=1)(hA:0≤A∧A≤1000000):
   Calls Tryd.prog 88 #[.agg #[I O W,I O H,Sz a n c,I O X,I O Y,.bool wrp],I O x,I O A,I O y,I O m] w fun e w'=>GAns w w' e (ersD m x A y (W,H,zs,X,Y,wrp,())):=by
 obtain⟨W1,hW1⟩:∃ U,U=(w.alloc (.cells #[I O W,I O H,Sz a n c,I O X,I O Y,.bool wrp] 29)).alloc (.cells #[I O 0,I O 0,Sz none 0 0,I O 0,I O 0,.bool false] 29):=⟨_,rfl⟩
 have bW1:Below w.heap.size w W1:=by rw[hW1];exact((Below.refl _ _).alloc (Nat.le_refl _) _).alloc (by simp) _
 have zW1:W1.heap.size=w.heap.size+2:=by rw[hW1];simp
 have hA1:W1.heap[w.heap.size]?=some (.cells #[I O W,I O H,Sz a n c,I O X,I O Y,.bool wrp] 29 (0,0)):=by rw[hW1,heap_alloc_old _ _ (by simp)];exact heap_alloc_new w _
 have hZ1:W1.heap[w.heap.size+1]?=some (.cells #[I O 0,I O 0,Sz none 0 0,I O 0,I O 0,.bool false] 29 (0,0)):=by rw[hW1];have:=heap_alloc_new (w.alloc (.cells #[I O W,I O H,Sz a n c,I O X,I O Y,.bool wrp] 29)) (.cells #[I O 0,I O 0,Sz none 0 0,I O 0,I O 0,.bool false] 29);simpa using this
 have HBX:Hid (∀ w',Below W1.heap.size W1 w'→w'.heap[w.heap.size]?=some (.cells #[I O W,I O H,Sz a n c,I O X,I O Y,.bool wrp] 29 (0,0))∧w'.heap[w.heap.size+1]?=some (.cells #[I O 0,I O 0,Sz none 0 0,I O 0,I O 0,.bool false] 29 (0,0))):=fun w' h'=>⟨(h'.block _ (by omega)).trans hA1,(h'.block _ (by omega)).trans hZ1⟩
 have HB1:Hid (Below w.heap.size w W1∧W1.heap.size=w.heap.size+2):=⟨bW1,zW1⟩
 have HW:Hid (W1=_):=hW1
 have hers:ersM m x A y zs=clrM x (A+1) zs:=by unfold ersM;rw[if_neg (by omega),if_pos hm]
 have wA:IntKind.i64.wrap (A+1)=A+1:=wrap_i64_in _ (by omega) (by omega)
 have QC:Hid (Calls Tryd.prog 79 #[.agg #[I O W,I O H,Sz a n c,I O X,I O Y,.bool wrp],I O x,I O (A+1)] W1 fun e w'=>GAns W1 w' e ((W,H,clrM x (A+1) zs,X,Y,wrp,()):GrD)):=sclear_any (g:=(W,H,zs,X,Y,wrp,())) x (A+1) W1 hg (hr.later bW1)
 have HE:Hid (ersD m x A y (W,H,zs,X,Y,wrp,())=((W,H,clrM x (A+1) zs,X,Y,wrp,()):GrD)):=by
   show (W,H,ersM m x A y zs,X,Y,wrp,())=_
   rw[hers]
 subst hm
 clear hers hg hr hW1 bW1 zW1 hA1 hZ1
 have i_1:=HBX.out _ (Below.refl _ W1)
 have y0:W1.cell? ⟨w.heap.size,0,none⟩=some (I O W):=bxc i_1.1 rfl
 have y1:W1.cell? ⟨w.heap.size,1,none⟩=some (I O H):=bxc i_1.1 rfl
 have y2:W1.cell? ⟨w.heap.size,2,none⟩=some (Sz a n c):=bxc i_1.1 rfl
 have y3:W1.cell? ⟨w.heap.size,3,none⟩=some (I O X):=bxc i_1.1 rfl
 have y4:W1.cell? ⟨w.heap.size,4,none⟩=some (I O Y):=bxc i_1.1 rfl
 have y5:W1.cell? ⟨w.heap.size,5,none⟩=some (.bool wrp):=bxc i_1.1 rfl
 go_enter Tryd.func88,Tryd.ntmps88
 go_wp2_with fail
 rw[← HW.out]
 refine QC.out.mono ?_
 rintro e w2 ⟨a2,n2,c2,F,rfl,ho,hb2⟩
 have i2:=HBX.out _ hb2
 have bw2:=HB1.out.1.trans (hb2.mono HB1.out.1.size)
 have HLD:(loadVar 29 ⟨w.heap.size+1,0,none⟩).run Tryd.prog (w2.setRow (w.heap.size+1) #[I O W,I O H,Sz a2 n2 c2,I O X,I O Y,.bool wrp])=.ok (.agg #[I O W,I O H,Sz a2 n2 c2,I O X,I O Y,.bool wrp]) (w2.setRow (w.heap.size+1) #[I O W,I O H,Sz a2 n2 c2,I O X,I O Y,.bool wrp]):=run_loadVar_row _ _ _ _ _ _ _ (setRow_heap _ _ _ _ _ _ i2.2) Tryd.underlying29 rfl (by kernel_rfl)
 have HO:Hid (Below w.heap.size w (w2.setRow (w.heap.size+1) #[I O W,I O H,Sz a2 n2 c2,I O X,I O Y,.bool wrp])∧Own (.sl .int) (w2.setRow (w.heap.size+1) #[I O W,I O H,Sz a2 n2 c2,I O X,I O Y,.bool wrp]) w.heap.size [Sz a2 n2 c2] (clrM x (A+1) zs) F):=
   ⟨below_setRow bw2 (Nat.le_add_right _ 1) _,(own_setRowLo ho _ (by have:=HB1.out.2;omega)).base (by have:=HB1.out.2;omega)⟩
 clear bw2 ho hb2 y0 y1 y2 y3 y4 y5
 go_wp2_with (refine wpList_store_row rfl _ _ _ rfl _ _ rfl rfl _ _ i2.2 (by kernel_rfl) rfl (by simp[Value.oneCell']) ?_)
 (try simp only[Exit.inBlock,Exit.then])
 refine bodyPost_ret (by simp[results,Tryd.results88,asAddr,Act.put,HLD];try rfl) rfl ?_
 rw[HE.out]
 exact⟨a2,n2,c2,F,rfl,HO.out.2,HO.out.1⟩
theorem serase_2(W H X Y:Int)(wrp:Bool)(a:Option Addr)(n c:Nat)(zs:List Int)(x A y m:Int)(w:World)(hg:gokB (W,H,zs,X,Y,wrp,())=true)(hr:Reads (.sl .int) w [Sz a n c] zs)(hm:m=2):
   Calls Tryd.prog 88 #[.agg #[I O W,I O H,Sz a n c,I O X,I O Y,.bool wrp],I O x,I O A,I O y,I O m] w fun e w'=>GAns w w' e (ersD m x A y (W,H,zs,X,Y,wrp,())):=by
 obtain⟨W1,hW1⟩:∃ U,U=(w.alloc (.cells #[I O W,I O H,Sz a n c,I O X,I O Y,.bool wrp] 29)).alloc (.cells #[I O 0,I O 0,Sz none 0 0,I O 0,I O 0,.bool false] 29):=⟨_,rfl⟩
 have bW1:Below w.heap.size w W1:=by rw[hW1];exact((Below.refl _ _).alloc (Nat.le_refl _) _).alloc (by simp) _
 have zW1:W1.heap.size=w.heap.size+2:=by rw[hW1];simp
 have hA1:W1.heap[w.heap.size]?=some (.cells #[I O W,I O H,Sz a n c,I O X,I O Y,.bool wrp] 29 (0,0)):=by rw[hW1,heap_alloc_old _ _ (by simp)];exact heap_alloc_new w _
 have hZ1:W1.heap[w.heap.size+1]?=some (.cells #[I O 0,I O 0,Sz none 0 0,I O 0,I O 0,.bool false] 29 (0,0)):=by rw[hW1];have:=heap_alloc_new (w.alloc (.cells #[I O W,I O H,Sz a n c,I O X,I O Y,.bool wrp] 29)) (.cells #[I O 0,I O 0,Sz none 0 0,I O 0,I O 0,.bool false] 29);simpa using this
 have HBX:Hid (∀ w',Below W1.heap.size W1 w'→w'.heap[w.heap.size]?=some (.cells #[I O W,I O H,Sz a n c,I O X,I O Y,.bool wrp] 29 (0,0))∧w'.heap[w.heap.size+1]?=some (.cells #[I O 0,I O 0,Sz none 0 0,I O 0,I O 0,.bool false] 29 (0,0))):=fun w' h'=>⟨(h'.block _ (by omega)).trans hA1,(h'.block _ (by omega)).trans hZ1⟩
 have HB1:Hid (Below w.heap.size w W1∧W1.heap.size=w.heap.size+2):=⟨bW1,zW1⟩
 have HW:Hid (W1=_):=hW1
 have hers:ersM m x A y zs=clrM x y zs:=by unfold ersM;rw[if_neg (by omega),if_neg (by omega),if_pos hm]
 have QC:Hid (Calls Tryd.prog 79 #[.agg #[I O W,I O H,Sz a n c,I O X,I O Y,.bool wrp],I O x,I O y] W1 fun e w'=>GAns W1 w' e ((W,H,clrM x y zs,X,Y,wrp,()):GrD)):=sclear_any (g:=(W,H,zs,X,Y,wrp,())) x y W1 hg (hr.later bW1)
 have HE:Hid (ersD m x A y (W,H,zs,X,Y,wrp,())=((W,H,clrM x y zs,X,Y,wrp,()):GrD)):=by
   show (W,H,ersM m x A y zs,X,Y,wrp,())=_
   rw[hers]
 subst hm
 clear hers hg hr hW1 bW1 zW1 hA1 hZ1
 have i_1:=HBX.out _ (Below.refl _ W1)
 have y0:W1.cell? ⟨w.heap.size,0,none⟩=some (I O W):=bxc i_1.1 rfl
 have y1:W1.cell? ⟨w.heap.size,1,none⟩=some (I O H):=bxc i_1.1 rfl
 have y2:W1.cell? ⟨w.heap.size,2,none⟩=some (Sz a n c):=bxc i_1.1 rfl
 have y3:W1.cell? ⟨w.heap.size,3,none⟩=some (I O X):=bxc i_1.1 rfl
 have y4:W1.cell? ⟨w.heap.size,4,none⟩=some (I O Y):=bxc i_1.1 rfl
 have y5:W1.cell? ⟨w.heap.size,5,none⟩=some (.bool wrp):=bxc i_1.1 rfl
 go_enter Tryd.func88,Tryd.ntmps88
 go_wp2_with fail
 rw[← HW.out]
 refine QC.out.mono ?_
 rintro e w2 ⟨a2,n2,c2,F,rfl,ho,hb2⟩
 have i2:=HBX.out _ hb2
 have bw2:=HB1.out.1.trans (hb2.mono HB1.out.1.size)
 have HLD:(loadVar 29 ⟨w.heap.size+1,0,none⟩).run Tryd.prog (w2.setRow (w.heap.size+1) #[I O W,I O H,Sz a2 n2 c2,I O X,I O Y,.bool wrp])=.ok (.agg #[I O W,I O H,Sz a2 n2 c2,I O X,I O Y,.bool wrp]) (w2.setRow (w.heap.size+1) #[I O W,I O H,Sz a2 n2 c2,I O X,I O Y,.bool wrp]):=run_loadVar_row _ _ _ _ _ _ _ (setRow_heap _ _ _ _ _ _ i2.2) Tryd.underlying29 rfl (by kernel_rfl)
 have HO:Hid (Below w.heap.size w (w2.setRow (w.heap.size+1) #[I O W,I O H,Sz a2 n2 c2,I O X,I O Y,.bool wrp])∧Own (.sl .int) (w2.setRow (w.heap.size+1) #[I O W,I O H,Sz a2 n2 c2,I O X,I O Y,.bool wrp]) w.heap.size [Sz a2 n2 c2] (clrM x y zs) F):=
   ⟨below_setRow bw2 (Nat.le_add_right _ 1) _,(own_setRowLo ho _ (by have:=HB1.out.2;omega)).base (by have:=HB1.out.2;omega)⟩
 clear bw2 ho hb2 y0 y1 y2 y3 y4 y5
 go_wp2_with (refine wpList_store_row rfl _ _ _ rfl _ _ rfl rfl _ _ i2.2 (by kernel_rfl) rfl (by simp[Value.oneCell']) ?_)
 (try simp only[Exit.inBlock,Exit.then])
 refine bodyPost_ret (by simp[results,Tryd.results88,asAddr,Act.put,HLD];try rfl) rfl ?_
 rw[HE.out]
 exact⟨a2,n2,c2,F,rfl,HO.out.2,HO.out.1⟩
theorem serase_no(W H X Y:Int)(wrp:Bool)(a:Option Addr)(n c:Nat)(zs:List Int)(x A y m:Int)(w:World)(hg:gokB (W,H,zs,X,Y,wrp,())=true)(hr:Reads (.sl .int) w [Sz a n c] zs)(hm:m≠0∧m≠1∧m≠2):
   Calls Tryd.prog 88 #[.agg #[I O W,I O H,Sz a n c,I O X,I O Y,.bool wrp],I O x,I O A,I O y,I O m] w fun e w'=>e=.returned (.agg #[I O W,I O H,Sz a n c,I O X,I O Y,.bool wrp])∧ersD m x A y (W,H,zs,X,Y,wrp,())=((W,H,zs,X,Y,wrp,()):GrD)∧Below w.heap.size w w':=by
 obtain⟨W1,hW1⟩:∃ U,U=(w.alloc (.cells #[I O W,I O H,Sz a n c,I O X,I O Y,.bool wrp] 29)).alloc (.cells #[I O 0,I O 0,Sz none 0 0,I O 0,I O 0,.bool false] 29):=⟨_,rfl⟩
 have bW1:Below w.heap.size w W1:=by rw[hW1];exact((Below.refl _ _).alloc (Nat.le_refl _) _).alloc (by simp) _
 have zW1:W1.heap.size=w.heap.size+2:=by rw[hW1];simp
 have hA1:W1.heap[w.heap.size]?=some (.cells #[I O W,I O H,Sz a n c,I O X,I O Y,.bool wrp] 29 (0,0)):=by rw[hW1,heap_alloc_old _ _ (by simp)];exact heap_alloc_new w _
 have hZ1:W1.heap[w.heap.size+1]?=some (.cells #[I O 0,I O 0,Sz none 0 0,I O 0,I O 0,.bool false] 29 (0,0)):=by rw[hW1];have:=heap_alloc_new (w.alloc (.cells #[I O W,I O H,Sz a n c,I O X,I O Y,.bool wrp] 29)) (.cells #[I O 0,I O 0,Sz none 0 0,I O 0,I O 0,.bool false] 29);simpa using this
 have HBX:Hid (∀ w',Below W1.heap.size W1 w'→w'.heap[w.heap.size]?=some (.cells #[I O W,I O H,Sz a n c,I O X,I O Y,.bool wrp] 29 (0,0))∧w'.heap[w.heap.size+1]?=some (.cells #[I O 0,I O 0,Sz none 0 0,I O 0,I O 0,.bool false] 29 (0,0))):=fun w' h'=>⟨(h'.block _ (by omega)).trans hA1,(h'.block _ (by omega)).trans hZ1⟩
 have HB1:Hid (Below w.heap.size w W1∧W1.heap.size=w.heap.size+2):=⟨bW1,zW1⟩
 have HW:Hid (W1=_):=hW1
 have HE:Hid (ersD m x A y (W,H,zs,X,Y,wrp,())=((W,H,zs,X,Y,wrp,()):GrD)):=by
   show (W,H,ersM m x A y zs,X,Y,wrp,())=_
   unfold ersM
   rw[if_neg hm.1,if_neg hm.2.1,if_neg hm.2.2]
 have m0:(m==0)=false:=by simpa using hm.1
 have m1:(m==1)=false:=by simpa using hm.2.1
 have m2:(m==2)=false:=by simpa using hm.2.2
 have i2:=HBX.out _ (Below.refl _ W1)
 have HLD:(loadVar 29 ⟨w.heap.size+1,0,none⟩).run Tryd.prog (W1.setRow (w.heap.size+1) #[I O W,I O H,Sz a n c,I O X,I O Y,.bool wrp])=.ok (.agg #[I O W,I O H,Sz a n c,I O X,I O Y,.bool wrp]) (W1.setRow (w.heap.size+1) #[I O W,I O H,Sz a n c,I O X,I O Y,.bool wrp]):=run_loadVar_row _ _ _ _ _ _ _ (setRow_heap _ _ _ _ _ _ i2.2) Tryd.underlying29 rfl (by kernel_rfl)
 have HO:Hid (Below w.heap.size w (W1.setRow (w.heap.size+1) #[I O W,I O H,Sz a n c,I O X,I O Y,.bool wrp])):=below_setRow bW1 (Nat.le_add_right _ 1) _
 clear hm hg hr hW1 bW1 zW1 hA1 hZ1
 have i_1:=HBX.out _ (Below.refl _ W1)
 have y0:W1.cell? ⟨w.heap.size,0,none⟩=some (I O W):=bxc i_1.1 rfl
 have y1:W1.cell? ⟨w.heap.size,1,none⟩=some (I O H):=bxc i_1.1 rfl
 have y2:W1.cell? ⟨w.heap.size,2,none⟩=some (Sz a n c):=bxc i_1.1 rfl
 have y3:W1.cell? ⟨w.heap.size,3,none⟩=some (I O X):=bxc i_1.1 rfl
 have y4:W1.cell? ⟨w.heap.size,4,none⟩=some (I O Y):=bxc i_1.1 rfl
 have y5:W1.cell? ⟨w.heap.size,5,none⟩=some (.bool wrp):=bxc i_1.1 rfl
 go_enter Tryd.func88,Tryd.ntmps88
 go_wp2_with (rw[← HW.out];refine wpList_store_row rfl _ _ _ rfl _ _ rfl rfl _ _ i2.2 (by kernel_rfl) rfl (by simp[Value.oneCell']) ?_)
 (try simp only[Exit.inBlock,Exit.then])
 refine bodyPost_ret (by simp[results,Tryd.results88,asAddr,Act.put,HLD];try rfl) rfl ?_
 exact⟨rfl,HE.out,HO.out⟩
end Go.Proofs.YthodinpflcbklaaDoor
namespace Go.Proofs.YthodinpflcbklaaDoor
open Go.RowKit
set_option maxRecDepth 100000
theorem reads_Grid{w:World}{d:shGrid.D}{v2:Value}(h:Reads (.sl .int) w [v2] d.2.2.1):Reads shGrid w [I O (d.1),I O (d.2.1),v2,I O (d.2.2.2.1),I O (d.2.2.2.2.1),.bool (d.2.2.2.2.2.1)] d:=
 ⟨[_],_,rfl,rfl,[_],_,rfl,rfl,[_],_,rfl,h,[_],_,rfl,rfl,[_],_,rfl,rfl,[_],_,rfl,rfl,rfl⟩
theorem reads_Vt{w:World}{d:shVt.D}{v2 v7 v8:Value}(h2:Reads (.sl .int) w [v2] d.1.2.2.1)(h7:Reads (.sl .int) w [v7] d.2.2.1)(h8:Reads (.sl .u8) w [v8] d.2.2.2.1):
   Reads shVt w [I O (d.1.1),I O (d.1.2.1),v2,I O (d.1.2.2.2.1),I O (d.1.2.2.2.2.1),.bool (d.1.2.2.2.2.2.1),I O (d.2.1),v7,v8,I O (d.2.2.2.2.1)] d:=
 ⟨[_,_,_,_,_,_],_,rfl,reads_Grid (d:=d.1) h2,[_],_,rfl,rfl,[_],_,rfl,h7,[_],_,rfl,h8,[_],_,rfl,rfl,rfl⟩
theorem own_keepAll{s:Sh}{w:World}{B v r:Nat}{cs:List Value}{d:s.D}{F:List Nat}(h:Own s w B cs d F)(hv:v < B)(hr:r < B)(vs:List Value)(o:Nat)(u6 u7:Value)(R:Array Value):
   Own s ((((w.setCells v o vs).setCell ⟨v,6,none⟩ u6).setCell ⟨v,7,none⟩ u7).setRow r R) B cs d F:=
 h.keep fun g hg=>by
   have:=(h.lt g hg).1
   rw[setRow_other _ r g _ (by omega),box_other _ (by omega),box_other _ (by omega),setCells_other (by omega)]
theorem six_in{w:World}{v:Nat}{c0 c1 c2 c3 c4 c5 c6 c7 c8 c9 d0 d1 d2 d3 d4 d5:Value}(h:w.heap[v]?=some (.cells #[c0,c1,c2,c3,c4,c5,c6,c7,c8,c9] 31 (0,0))):
   (w.setCells v 0 [d0,d1,d2,d3,d4,d5]).heap[v]?=some (.cells #[d0,d1,d2,d3,d4,d5,c6,c7,c8,c9] 31 (0,0)):=by
 have h1:=setCells_row (g:=v) [d0,d1,d2,d3,d4,d5] 0 w [c0,c1,c2,c3,c4,c5,c6,c7,c8,c9] h (by simp)
 exact h1
theorem six_there{w:World}{v:Nat}{c0 c1 c2 c3 c4 c5 c6 c7 c8 c9:Value}(h:w.heap[v]?=some (.cells #[c0,c1,c2,c3,c4,c5,c6,c7,c8,c9] 31 (0,0))):w.there v 0 6:=by
 intro j hj
 refine⟨?_,?_⟩
 · rw[show w.cell? ⟨v,0+j,none⟩=(#[c0,c1,c2,c3,c4,c5,c6,c7,c8,c9]:Array Value)[0+j]? by simp[World.cell?,h]]
   rcases (show j=0∨j=1∨j=2∨j=3∨j=4∨j=5 by omega) with rfl | rfl | rfl | rfl | rfl | rfl <;> rfl
 · exact box_frozen h
def RK(w w':World)(o:List Value)(D:TD)(s2 s7 s8:Value)(zs al pl:List Int):Prop:=
 ∀ w'':World,(∀ g,w.heap.size≤g→g < w'.heap.size→w''.heap[g]?=w'.heap[g]?)→Reads (.sl .int) w'' [s2] zs→Reads (.sl .int) w'' [s7] al→Reads (.sl .u8) w'' [s8] pl→Reads shVt w'' o D
theorem own_read{s:Sh}{w w1 w'':World}{B:Nat}{cs:List Value}{d:s.D}{F:List Nat}(h:Own s w1 B cs d F)(hB:w.heap.size≤B)(hk:∀ g,w.heap.size≤g→g < w1.heap.size→w''.heap[g]?=w1.heap[g]?):Reads s w'' cs d:=
 (h.keep fun g hg=>hk g (Nat.le_trans hB (h.lt g hg).1) (h.lt g hg).2).reads
theorem nil_readI(w:World):Reads (.sl .int) w [Sz none 0 0] []:=reads_mkI (zs:=[]) (.inl rfl) rfl (Nat.le_refl _) (Nat.zero_le _)
theorem argM_cnt{al:List Int}{i:Nat}(h:0≤at0 al i):argM al i 1=cntN al i:=by
 unfold argM cntN
 by_cases h0:at0 al i=0
 · rw[if_pos h0,if_pos (by omega)]
 · rw[if_neg h0,if_neg (by omega)]
theorem argM_zero(al:List Int)(i:Nat):argM al i 0=at0 al i:=by
 unfold argM
 by_cases h0:at0 al i=0
 · rw[if_pos h0,h0]
 · rw[if_neg h0]
end Go.Proofs.YthodinpflcbklaaDoor
namespace Go.Proofs.YthodinpflcbklaaDoor
open Go.RowKit
set_option maxRecDepth 100000
theorem mpro1 (W H X Y st be:Int)(wrp:Bool)(a a7 a8:Option Addr)(n c n7 c7 n8 c8:Nat)(w:World):∃ W1,(W1=(w.alloc (.cells #[I O W,I O H,Sz a n c,I O X,I O Y,.bool wrp,I O st,Sz a7 n7 c7,Sz a8 n8 c8,I O be] 31)).alloc (.cells #[I O 0,I O 0,Sz none 0 0,I O 0,I O 0,.bool false,I O 0,Sz none 0 0,Sz none 0 0,I O 0] 31))∧(Below w.heap.size w W1)∧(W1.heap.size=w.heap.size+2)∧(W1.heap[w.heap.size]?=some (.cells #[I O W,I O H,Sz a n c,I O X,I O Y,.bool wrp,I O st,Sz a7 n7 c7,Sz a8 n8 c8,I O be] 31 (0,0)))∧(W1.heap[w.heap.size+1]?=some (.cells #[I O 0,I O 0,Sz none 0 0,I O 0,I O 0,.bool false,I O 0,Sz none 0 0,Sz none 0 0,I O 0] 31 (0,0)))∧(Hid (∀ w',Below W1.heap.size W1 w'→w'.heap[w.heap.size]?=some (.cells #[I O W,I O H,Sz a n c,I O X,I O Y,.bool wrp,I O st,Sz a7 n7 c7,Sz a8 n8 c8,I O be] 31 (0,0))∧w'.heap[w.heap.size+1]?=some (.cells #[I O 0,I O 0,Sz none 0 0,I O 0,I O 0,.bool false,I O 0,Sz none 0 0,Sz none 0 0,I O 0] 31 (0,0)))):=by
 obtain⟨W1,hW1⟩:∃ U,U=(w.alloc (.cells #[I O W,I O H,Sz a n c,I O X,I O Y,.bool wrp,I O st,Sz a7 n7 c7,Sz a8 n8 c8,I O be] 31)).alloc (.cells #[I O 0,I O 0,Sz none 0 0,I O 0,I O 0,.bool false,I O 0,Sz none 0 0,Sz none 0 0,I O 0] 31):=⟨_,rfl⟩
 have bW1:Below w.heap.size w W1:=by rw[hW1];exact((Below.refl _ _).alloc (Nat.le_refl _) _).alloc (by simp) _
 have zW1:W1.heap.size=w.heap.size+2:=by rw[hW1];simp
 have hA1:W1.heap[w.heap.size]?=some (.cells #[I O W,I O H,Sz a n c,I O X,I O Y,.bool wrp,I O st,Sz a7 n7 c7,Sz a8 n8 c8,I O be] 31 (0,0)):=by rw[hW1,heap_alloc_old _ _ (by simp)];exact heap_alloc_new w _
 have hZ1:W1.heap[w.heap.size+1]?=some (.cells #[I O 0,I O 0,Sz none 0 0,I O 0,I O 0,.bool false,I O 0,Sz none 0 0,Sz none 0 0,I O 0] 31 (0,0)):=by rw[hW1];have:=heap_alloc_new (w.alloc (.cells #[I O W,I O H,Sz a n c,I O X,I O Y,.bool wrp,I O st,Sz a7 n7 c7,Sz a8 n8 c8,I O be] 31)) (.cells #[I O 0,I O 0,Sz none 0 0,I O 0,I O 0,.bool false,I O 0,Sz none 0 0,Sz none 0 0,I O 0] 31);simpa using this
 have HBX:Hid (∀ w',Below W1.heap.size W1 w'→w'.heap[w.heap.size]?=some (.cells #[I O W,I O H,Sz a n c,I O X,I O Y,.bool wrp,I O st,Sz a7 n7 c7,Sz a8 n8 c8,I O be] 31 (0,0))∧w'.heap[w.heap.size+1]?=some (.cells #[I O 0,I O 0,Sz none 0 0,I O 0,I O 0,.bool false,I O 0,Sz none 0 0,Sz none 0 0,I O 0] 31 (0,0))):=fun w' h'=>⟨(h'.block _ (by omega)).trans hA1,(h'.block _ (by omega)).trans hZ1⟩
 exact⟨W1,hW1,bW1,zW1,hA1,hZ1,HBX⟩
theorem mpro2 (W H X Y st be:Int)(wrp:Bool)(a a7 a8:Option Addr)(n c n7 c7 n8 c8:Nat)(w:World):∃ W2,(W2=((w.alloc (.cells #[I O W,I O H,Sz a n c,I O X,I O Y,.bool wrp,I O st,Sz a7 n7 c7,Sz a8 n8 c8,I O be] 31)).alloc (.cells #[I O 0,I O 0,Sz none 0 0,I O 0,I O 0,.bool false,I O 0,Sz none 0 0,Sz none 0 0,I O 0] 31)).alloc (.cells #[I O W,I O H,Sz a n c,I O X,I O Y,.bool wrp] 29))∧(Below w.heap.size w W2)∧(W2.heap.size=w.heap.size+3)∧(W2.heap[w.heap.size]?=some (.cells #[I O W,I O H,Sz a n c,I O X,I O Y,.bool wrp,I O st,Sz a7 n7 c7,Sz a8 n8 c8,I O be] 31 (0,0)))∧(W2.heap[w.heap.size+1]?=some (.cells #[I O 0,I O 0,Sz none 0 0,I O 0,I O 0,.bool false,I O 0,Sz none 0 0,Sz none 0 0,I O 0] 31 (0,0)))∧(W2.heap[w.heap.size+1+1]?=some (.cells #[I O W,I O H,Sz a n c,I O X,I O Y,.bool wrp] 29 (0,0)))∧(Hid (∀ w',Below W2.heap.size W2 w'→w'.heap[w.heap.size]?=some (.cells #[I O W,I O H,Sz a n c,I O X,I O Y,.bool wrp,I O st,Sz a7 n7 c7,Sz a8 n8 c8,I O be] 31 (0,0))∧w'.heap[w.heap.size+1]?=some (.cells #[I O 0,I O 0,Sz none 0 0,I O 0,I O 0,.bool false,I O 0,Sz none 0 0,Sz none 0 0,I O 0] 31 (0,0))∧w'.heap[w.heap.size+1+1]?=some (.cells #[I O W,I O H,Sz a n c,I O X,I O Y,.bool wrp] 29 (0,0)))):=by
 obtain⟨W2,hW2⟩:∃ U,U=((w.alloc (.cells #[I O W,I O H,Sz a n c,I O X,I O Y,.bool wrp,I O st,Sz a7 n7 c7,Sz a8 n8 c8,I O be] 31)).alloc (.cells #[I O 0,I O 0,Sz none 0 0,I O 0,I O 0,.bool false,I O 0,Sz none 0 0,Sz none 0 0,I O 0] 31)).alloc (.cells #[I O W,I O H,Sz a n c,I O X,I O Y,.bool wrp] 29):=⟨_,rfl⟩
 have bW2:Below w.heap.size w W2:=by rw[hW2];exact(((Below.refl _ _).alloc (Nat.le_refl _) _).alloc (by simp) _).alloc (by simp;omega) _
 have zW2:W2.heap.size=w.heap.size+3:=by rw[hW2];simp
 have hA2:W2.heap[w.heap.size]?=some (.cells #[I O W,I O H,Sz a n c,I O X,I O Y,.bool wrp,I O st,Sz a7 n7 c7,Sz a8 n8 c8,I O be] 31 (0,0)):=by rw[hW2,heap_alloc_old _ _ (by simp;omega),heap_alloc_old _ _ (by simp)];exact heap_alloc_new w _
 have hZ2:W2.heap[w.heap.size+1]?=some (.cells #[I O 0,I O 0,Sz none 0 0,I O 0,I O 0,.bool false,I O 0,Sz none 0 0,Sz none 0 0,I O 0] 31 (0,0)):=by rw[hW2,heap_alloc_old _ _ (by simp)];have:=heap_alloc_new (w.alloc (.cells #[I O W,I O H,Sz a n c,I O X,I O Y,.bool wrp,I O st,Sz a7 n7 c7,Sz a8 n8 c8,I O be] 31)) (.cells #[I O 0,I O 0,Sz none 0 0,I O 0,I O 0,.bool false,I O 0,Sz none 0 0,Sz none 0 0,I O 0] 31);simpa using this
 have hG2:W2.heap[w.heap.size+1+1]?=some (.cells #[I O W,I O H,Sz a n c,I O X,I O Y,.bool wrp] 29 (0,0)):=by rw[hW2];have:=heap_alloc_new ((w.alloc (.cells #[I O W,I O H,Sz a n c,I O X,I O Y,.bool wrp,I O st,Sz a7 n7 c7,Sz a8 n8 c8,I O be] 31)).alloc (.cells #[I O 0,I O 0,Sz none 0 0,I O 0,I O 0,.bool false,I O 0,Sz none 0 0,Sz none 0 0,I O 0] 31)) (.cells #[I O W,I O H,Sz a n c,I O X,I O Y,.bool wrp] 29);simpa using this
 have HBX:Hid (∀ w',Below W2.heap.size W2 w'→w'.heap[w.heap.size]?=some (.cells #[I O W,I O H,Sz a n c,I O X,I O Y,.bool wrp,I O st,Sz a7 n7 c7,Sz a8 n8 c8,I O be] 31 (0,0))∧w'.heap[w.heap.size+1]?=some (.cells #[I O 0,I O 0,Sz none 0 0,I O 0,I O 0,.bool false,I O 0,Sz none 0 0,Sz none 0 0,I O 0] 31 (0,0))∧w'.heap[w.heap.size+1+1]?=some (.cells #[I O W,I O H,Sz a n c,I O X,I O Y,.bool wrp] 29 (0,0))):=fun w' h'=>⟨(h'.block _ (by omega)).trans hA2,(h'.block _ (by omega)).trans hZ2,(h'.block _ (by omega)).trans hG2⟩
 exact⟨W2,hW2,bW2,zW2,hA2,hZ2,hG2,HBX⟩
end Go.Proofs.YthodinpflcbklaaDoor
