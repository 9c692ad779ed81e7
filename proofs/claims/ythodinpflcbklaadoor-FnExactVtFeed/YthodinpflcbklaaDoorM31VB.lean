/-
  Parts of the road to VB, joined: GrSPd, SvPp, SvP3.
-/
import Derived.Test.YthodinpflcbklaaDoorM27VB
import Derived.Deep.RegionHeld3
import Derived.Test.YthodinpflcbklaaDoorM20VB
import Derived.Test.YthodinpflcbklaaDoorM28VB
import Derived.Test.YthodinpflcbklaaDoorM29VB
import Derived.Test.YthodinpflcbklaaDoorM30VB
import Derived.Test.YthodinpflcbklaaDoorM13VB
import Derived.Test.YthodinpflcbklaaDoorM3VB
import Derived.Test.YthodinpflcbklaaDoorM26VB
import Derived.Test.YthodinpflcbklaaDoorM21VB
open Go.Value renaming int → I,slice → Sz
open Go.IntKind renaming i64 → O
open List renaming setIfInBounds_toArray → lA,getElem_toArray → lB,getElem_cons_succ → lC,getElem_cons_zero → lD,set_cons_zero → lE,set_cons_succ → lF
set_option linter.unusedVariables false
set_option linter.unusedSimpArgs false
set_option maxHeartbeats 40000000
namespace Go.Proofs.YthodinpflcbklaaDoor
open Go.RowKit
set_option maxRecDepth 100000 in
theorem specPut_2n (x0 x1 x3 x4:Int) (a0:Option Addr) (n c:Nat) (x5:Bool) (zs:List Int) (r:Int) (hw:wd r=2) (hr32:-1≤r∧r≤1114111) (X1 Y1:Nat) (z1:List Int) (XN:Int) (bN:Bool) (a:Nat) (hae:a=Y1*x0.toNat+X1) (hX1:(X1:Int)+2≤x0) (hY1:(Y1:Int) < x1) (hz1:cellsB z1 x0.toNat (x0.toNat*x1.toNat)=true∧z1.length=n) (hXN:((X1:Int)+2=x0∧XN=x0 - 1∧bN=true)∨((X1:Int)+2 < x0∧XN=(X1:Int)+2∧bN=false)) (hb:x5=false∧x3≠x0 - 1∧x3=(X1:Int)∧x4=(Y1:Int)∧z1=zs) (w:World) (hr:Reads (.sl .int) w [Sz a0 n c] zs) (hg:gokB (x0,x1,zs,x3,x4,x5,())=true) (R:GrD) (hRz:R=(x0,x1,putZ a 2 r (-1) (clrM (a:Int) ((a:Int)+2) z1),XN,(Y1:Int),bN,())) :
   Calls Tryd.prog 61 #[.agg #[I O x0,I O x1,Sz a0 n c,I O x3,I O x4,.bool x5],I O r] w fun e w'=>∃ o F,e=.returned (.agg o.toArray)∧Own shGrid w' w.heap.size o R F∧F.Nodup∧Below w.heap.size w w':=by
 have HRR:Hid (R=(x0,x1,putZ a 2 r (-1) (clrM (a:Int) ((a:Int)+2) z1),XN,(Y1:Int),bN,())):=hRz
 clear hRz
 have HHB:Hid (x5=false∧x3≠x0 - 1∧x3=(X1:Int)∧x4=(Y1:Int)∧z1=zs):=hb
 clear hb
 have qw:Hid (∀ w',Calls Tryd.prog 69 #[I O r] w' fun e w''=>e=.returned (I O 2)∧Below w'.heap.size w' w''):=fun w'=>by rw[← hw];exact specWid_any r w'
 obtain⟨hl,hrd,hc,hm⟩:=reads_ints hr
 unfold maxLen at hm
 obtain⟨W1,hW1⟩:∃ W,W=(w.alloc (.cells #[I O x0,I O x1,Sz a0 n c,I O x3,I O x4,.bool x5] 29)).alloc (.cells #[I O 0,I O 0,Sz none 0 0,I O 0,I O 0,.bool false] 29):=⟨_,rfl⟩
 have bW1:Below w.heap.size w W1:=by rw[hW1];exact((Below.refl _ _).alloc (Nat.le_refl _) _).alloc (by simp) _
 have zW1:W1.heap.size=w.heap.size+1+1:=by rw[hW1];simp
 have hbox:W1.heap[w.heap.size]?=some (.cells #[I O x0,I O x1,Sz a0 n c,I O x3,I O x4,.bool x5] 29 (0,0)):=by
   rw[hW1,heap_alloc_old _ _ (by simp)];exact heap_alloc_new w _
 have hbox1:W1.heap[w.heap.size+1]?=some (.cells #[I O 0,I O 0,Sz none 0 0,I O 0,I O 0,.bool false] 29 (0,0)):=by
   rw[hW1]
   have:=heap_alloc_new (w.alloc (.cells #[I O x0,I O x1,Sz a0 n c,I O x3,I O x4,.bool x5] 29)) (.cells #[I O 0,I O 0,Sz none 0 0,I O 0,I O 0,.bool false] 29)
   simpa using this
 have HBX:Hid (∀ w',Below W1.heap.size W1 w'→w'.heap[w.heap.size]?=some (.cells #[I O x0,I O x1,Sz a0 n c,I O x3,I O x4,.bool x5] 29 (0,0))):=fun w' h'=>(h'.block _ (by omega)).trans hbox
 have HBR:Hid (∀ w',Below W1.heap.size W1 w'→w'.heap[w.heap.size+1]?=some (.cells #[I O 0,I O 0,Sz none 0 0,I O 0,I O 0,.bool false] 29 (0,0))):=fun w' h'=>(h'.block _ (by omega)).trans hbox1
 have HR:Hid (Reads (.sl .int) w [Sz a0 n c] zs):=hr
 have qg:Hid (∀ w',Below w.heap.size w w'→Calls Tryd.prog 52 #[.agg #[I O x0,I O x1,Sz a0 n c,I O x3,I O x4,.bool x5]] w' fun e w''=>e=.returned (.bool (gokB (x0,x1,zs,x3,x4,x5,())))∧Below w'.heap.size w' w''):=fun w' h'=>specGok_any x0 x1 x3 x4 a0 n c x5 zs w' (hr.later h')
 have HW:Hid (W1=_):=hW1
 have HB1:Hid (Below w.heap.size w W1):=bW1
 have hb00:Below W1.heap.size W1 W1:=Below.refl _ _
 have i_W1:=HBX.out W1 hb00
 have y0:W1.cell? ⟨w.heap.size,0,none⟩=some (I O x0):=bxc i_W1 rfl
 have y1:W1.cell? ⟨w.heap.size,1,none⟩=some (I O x1):=bxc i_W1 rfl
 have y2:W1.cell? ⟨w.heap.size,2,none⟩=some (Sz a0 n c):=bxc i_W1 rfl
 have y3:W1.cell? ⟨w.heap.size,3,none⟩=some (I O x3):=bxc i_W1 rfl
 have y4:W1.cell? ⟨w.heap.size,4,none⟩=some (I O x4):=bxc i_W1 rfl
 have y5:W1.cell? ⟨w.heap.size,5,none⟩=some (.bool x5):=bxc i_W1 rfl
 clear i_W1
 clear hW1 hbox hbox1 hr hrd hl hb00
 refine(fun (_:True)=>?_) trivial
 · have HG:Hid (gokB (x0,x1,zs,x3,x4,x5,())=true):=hg
   rw[hg] at qg
   obtain⟨W,H,rfl,rfl,g1,g2,g3,g4,g5,hlen,hcl,hcu⟩:=gok_parts hg
   have hl:=(reads_ints HR.out).1
   have hn:n=W*H:=by omega
   have hmb:=mul_bd (x:=W) (y:=H) (by omega) (by omega) (by omega) (by omega)
   have hpr:(W:Int)*(H:Int)=(n:Int):=by rw[hn];simp
   rw[hpr] at hmb
   have HN:Hid (n=W*H∧zs.length=n∧cellsB zs W (W*H)=true∧cursB W H x3 x4 x5=true):=⟨hn,hl,hcl,hcu⟩
   have hn8:n≤8000:=by omega
   have qc:Hid (∀ w',Below w.heap.size w w'→Calls Tryd.prog 43 #[.agg #[I O W,I O H,Sz a0 n c,I O x3,I O x4,.bool x5]] w' fun e w''=>∃ k kc,e=.returned (.agg #[I O W,I O H,Sz (some ⟨k,0,none⟩) n kc,I O x3,I O x4,.bool x5])∧w''.ownsRow w'.heap.size 3 1 (Sz (some ⟨k,0,none⟩) n kc) n (zs.map (Value.int .i64))∧Below w'.heap.size w' w''):=fun w' h'=>specGcopy_any W H x3 x4 a0 n c x5 zs w' (HR.out.later h') (by omega) (by omega)
   clear hg hn hl hlen hcl hcu g5 hpr
   go_enter Tryd.func61,Tryd.ntmps61
   go_wp2_with fail
   rw[← HW.out]
   refine(qg.out _ HB1.out).mono ?_
   rintro e wA ⟨rfl,hbA⟩
   go_wp2_with fail
   refine(qw.out _).mono ?_
   rintro e w2 ⟨rfl,hb2'⟩
   have hb2:Below W1.heap.size W1 w2:=hbA.trans (hb2'.mono hbA.size)
   have b2:=HB1.out.trans (hb2.mono HB1.out.size)
   clear hbA hb2'
   have z2:=hb2.size
   clear y0 y1 y2 y3 y4 y5
   have i_w2:=HBX.out w2 hb2
   have y0:w2.cell? ⟨w.heap.size,0,none⟩=some (I O W):=bxc i_w2 rfl
   have y1:w2.cell? ⟨w.heap.size,1,none⟩=some (I O H):=bxc i_w2 rfl
   have y2:w2.cell? ⟨w.heap.size,2,none⟩=some (Sz a0 n c):=bxc i_w2 rfl
   have y3:w2.cell? ⟨w.heap.size,3,none⟩=some (I O x3):=bxc i_w2 rfl
   have y4:w2.cell? ⟨w.heap.size,4,none⟩=some (I O x4):=bxc i_w2 rfl
   have y5:w2.cell? ⟨w.heap.size,5,none⟩=some (.bool x5):=bxc i_w2 rfl
   clear i_w2
   have HB2:Hid (Below W1.heap.size W1 w2):=hb2
   clear hb2
   go_wp2_with fail
   refine(qc.out _ b2).mono ?_
   rintro e w3 ⟨k,kc,rfl,ho3,hb3⟩
   have HB3:Hid (Below W1.heap.size W1 w3):=HB2.out.trans (hb3.mono HB2.out.size)
   have z3:=hb3.size
   have hk3:w2.heap.size≤k∧k < w3.heap.size:=ho3.lt k rfl
   have HO3:Hid (w3.ownsRow w2.heap.size 3 1 (Sz (some ⟨k,0,none⟩) n kc) n (zs.map (Value.int .i64))):=ho3
   clear ho3 hb3 y0 y1 y2 y3 y4 y5
   rw[Int.toNat_natCast] at hae hz1
   rw[Int.toNat_natCast] at hz1
   have hb:=HHB.out
   try rw[Int.toNat_natCast] at hb
   obtain⟨hcx0,hcx1,hcy0,hcy1,hcw⟩:=cursB_iff.1 HN.out.2.2.2
   have hn0:0 < n:=by omega
   obtain⟨pp,hpp⟩:∃ pp,pp=Y1*W:=⟨_,rfl⟩
   have hpi:(Y1:Int)*(W:Int)=(pp:Int):=by rw[hpp];simp
   have hai:(pp:Int)+(X1:Int)=(a:Int):=by rw[hae,hpp];simp
   have hfit:a+2≤n:=by
     have h1:(Y1+1)*W≤H*W:=Nat.mul_le_mul_right _ (by omega)
     rw[Nat.add_mul,Nat.one_mul] at h1
     rw[hae,HN.out.1,Nat.mul_comm W H];omega
   have wpp:IntKind.i64.wrap (pp:Int)=(pp:Int):=wrap_i64_in _ (by omega) (by omega)
   have wa:IntKind.i64.wrap (a:Int)=(a:Int):=wrap_i64_in _ (by omega) (by omega)
   have wa1:IntKind.i64.wrap ((a:Int)+2)=(a:Int)+2:=wrap_i64_in _ (by omega) (by omega)
   have wX1:IntKind.i64.wrap ((X1:Int)+2)=(X1:Int)+2:=wrap_i64_in _ (by omega) (by omega)
   have wa2:IntKind.i64.wrap ((a:Int)+1)=(a:Int)+1:=wrap_i64_in _ (by omega) (by omega)
   have wW1:IntKind.i64.wrap ((W:Int) - 1)=(W:Int) - 1:=wrap_i64_in _ (by omega) (by omega)
   have wH1:IntKind.i64.wrap ((H:Int) - 1)=(H:Int) - 1:=wrap_i64_in _ (by omega) (by omega)
   have wY1:IntKind.i64.wrap (x4+1)=x4+1:=wrap_i64_in _ (by omega) (by omega)
   have HG0:Hid (gokB ((W:Int),(H:Int),zs,x3,x4,x5,())=true):=HG.out
   have HZ1:Hid (gokB ((W:Int),(H:Int),z1,(X1:Int),(Y1:Int),false,())=true):=by
     show _=_
     rw[gok_three (gok_sides HG.out) (by rw[hz1.2];exact HN.out.1),hz1.1]
     exact cursB_iff.2 ⟨by omega,by omega,by omega,hY1,fun h=>by cases h⟩
   have HL1:Hid (z1.length=n):=hz1.2
   have HCL:Hid ((clrM (a:Int) ((a:Int)+2) z1).length=n):=by show _=_;rw[clrM_len];exact hz1.2
   have HPZ:Hid (putZ a 2 r (-1) (clrM (a:Int) ((a:Int)+2) z1)=((clrM (a:Int) ((a:Int)+2) z1).set a r).set (a+1) (-1)∧(putZ a 2 r (-1) (clrM (a:Int) ((a:Int)+2) z1)).length=n):=⟨(put_set2 (h:=-1) (by rw[HCL.out];exact hfit)).symm,by rw[putZ_len (by omega) (by rw[HCL.out];exact hfit)];exact HCL.out⟩
   have hzl:w.heap.size < w3.heap.size:=by omega
   have O4:OutAt (w3.alloc (.cells #[I O W,I O H,Sz (some ⟨k,0,none⟩) n kc,I O x3,I O x4,.bool x5] 29)) w2.heap.size w3.heap.size k n kc W H x3 x4 x5 zs:=⟨heap_alloc_new w3 _,HO3.out.alloc _,HN.out.2.1,z3,by omega⟩
   obtain⟨W4,hW4⟩:∃ V,V=w3.alloc (.cells #[I O W,I O H,Sz (some ⟨k,0,none⟩) n kc,I O x3,I O x4,.bool x5] 29):=⟨_,rfl⟩
   rw[← hW4] at O4
   have B4:Below W1.heap.size W1 W4:=by rw[hW4];exact HB3.out.alloc HB3.out.size _
   have HW4:Hid (W4=_):=hW4
   have ZQ:Hid (w.heap.size+1 < w2.heap.size∧w2.heap.size≤w3.heap.size∧W1.heap.size≤w2.heap.size):=⟨by omega,z3,by omega⟩
   have HO4:Hid (OutAt W4 w2.heap.size w3.heap.size k n kc W H x3 x4 x5 zs):=O4
   have HB4:Hid (Below W1.heap.size W1 W4):=B4
   clear hW4 O4 B4 hz1 hae hpp hk3 hcw
   have h5:(x5=false∧x3≠(W:Int) - 1∧x3=(X1:Int)∧x4=(Y1:Int)∧z1=zs):=hb
   clear hb
   rcases h5 with ⟨k1,k6,k2,k3,k5⟩
   · subst k1
     have dk:(x3==(W:Int) - 1)=false:=by simpa using k6
     have i4:=HBX.out W4 HB4.out
     have s0:W4.cell? ⟨w.heap.size,0,none⟩=some (I O W):=bxc i4 rfl
     have s1:W4.cell? ⟨w.heap.size,1,none⟩=some (I O H):=bxc i4 rfl
     have s3:W4.cell? ⟨w.heap.size,3,none⟩=some (I O x3):=bxc i4 rfl
     have s4:W4.cell? ⟨w.heap.size,4,none⟩=some (I O x4):=bxc i4 rfl
     have s5:W4.cell? ⟨w.heap.size,5,none⟩=some (.bool false):=bxc i4 rfl
     have g0:W4.cell? ⟨w3.heap.size,0,none⟩=some (I O W):=bxc HO4.out.box rfl
     have g1:W4.cell? ⟨w3.heap.size,1,none⟩=some (I O H):=bxc HO4.out.box rfl
     have g2:W4.cell? ⟨w3.heap.size,2,none⟩=some (Sz (some ⟨k,0,none⟩) n kc):=bxc HO4.out.box rfl
     have g3:W4.cell? ⟨w3.heap.size,3,none⟩=some (I O x3):=bxc HO4.out.box rfl
     have g4:W4.cell? ⟨w3.heap.size,4,none⟩=some (I O x4):=bxc HO4.out.box rfl
     have g5:W4.cell? ⟨w3.heap.size,5,none⟩=some (.bool false):=bxc HO4.out.box rfl
     rw[HW4.out] at g0 g1 g2 g3 g4 g5 s0 s1 s3 s4 s5
     clear k6
     subst k2
     subst k3
     subst k5
     have qC:Hid (Calls Tryd.prog 79 #[.agg #[I O W,I O H,Sz (some ⟨k,0,none⟩) n kc,I O (X1:Int),I O (Y1:Int),.bool false],I O (a:Int),I O ((a:Int)+2)] W4 fun e w'=>∃ k' kc',e=.returned (.agg #[I O W,I O H,Sz (some ⟨k',0,none⟩) n kc',I O (X1:Int),I O (Y1:Int),.bool false])∧w'.ownsRow W4.heap.size 3 1 (Sz (some ⟨k',0,none⟩) n kc') n ((clrM (a:Int) ((a:Int)+2) z1).map (Value.int .i64))∧Below W4.heap.size W4 w'):=clear_out (a:Int) ((a:Int)+2) W4 HZ1.out HO4.out.reads
     go_wp2_with fail
     rw[← HW4.out]
     refine qC.out.mono ?_
     rintro e w7 ⟨k7,kc7,rfl,hr7,hb7⟩
     have O7:=HO4.out.put (X':=(X1:Int)) (Y':=(Y1:Int)) (wr':=false) hb7 hr7 HCL.out
     have j7:=(hb7.block _ (box_lt HO4.out.box)).trans HO4.out.box
     obtain⟨V7,hV7⟩:∃ V,V=w7.setRow w3.heap.size #[I O W,I O H,Sz (some ⟨k7,0,none⟩) n kc7,I O (X1:Int),I O (Y1:Int),.bool false]:=⟨_,rfl⟩
     rw[← hV7] at O7
     have HO7:Hid (OutAt V7 w2.heap.size w3.heap.size k7 n kc7 W H (X1:Int) (Y1:Int) false (clrM (a:Int) ((a:Int)+2) z1)):=O7
     have HB7:Hid (Below W1.heap.size W1 V7):=by show Below _ _ _;rw[hV7];exact below_setRow (HB4.out.trans (hb7.mono HB4.out.size)) (by have:=ZQ.out;omega) _
     have HV7:Hid (V7=_):=hV7
     clear g0 g1 g2 g3 g4 g5 s0 s1 s3 s4 s5 O7 hV7 hr7 hb7 i4
     have hka:k7≠w3.heap.size:=fun e=>HO7.out.ne e.symm
     have hks:k7≠w.heap.size:=by have h1:=(HO7.out.row.lt k7 rfl).1;have h2:=ZQ.out;omega
     have hqs:w3.heap.size≠w.heap.size:=by have h2:=ZQ.out;omega
     have g2:V7.cell? ⟨w3.heap.size,2,none⟩=some (Sz (some ⟨k7,0,none⟩) n kc7):=bxc HO7.out.box rfl
     obtain⟨ua,ca⟩:=HO7.out.cell (a:=a) (by omega)
     have fa:=HO7.out.row.frozenAt a
     have O8:OutAt (V7.setCell ⟨k7,a,none⟩ (I O r)) w2.heap.size w3.heap.size k7 n kc7 W H (X1:Int) (Y1:Int) false ((clrM (a:Int) ((a:Int)+2) z1).set a r):=HO7.out.setZ r
     have B8:Below W1.heap.size W1 (V7.setCell ⟨k7,a,none⟩ (I O r)):=HB7.out.setCell (p:=⟨k7,a,none⟩) (by have h1:=(HO7.out.row.lt k7 rfl).1;have h2:=ZQ.out;show W1.heap.size≤k7;omega) _
     have g2b:(V7.setCell ⟨k7,a,none⟩ (I O r)).cell? ⟨w3.heap.size,2,none⟩=some (Sz (some ⟨k7,0,none⟩) n kc7):=bxc O8.box rfl
     obtain⟨ub,cb⟩:=O8.cell (a:=a+1) (by omega)
     have fb:=O8.row.frozenAt (a+1)
     have O9:OutAt ((V7.setCell ⟨k7,a,none⟩ (I O r)).setCell ⟨k7,a+1,none⟩ (I O (-1))) w2.heap.size w3.heap.size k7 n kc7 W H (X1:Int) (Y1:Int) false (((clrM (a:Int) ((a:Int)+2) z1).set a r).set (a+1) (-1)):=O8.setZ (-1)
     have B9:Below W1.heap.size W1 ((V7.setCell ⟨k7,a,none⟩ (I O r)).setCell ⟨k7,a+1,none⟩ (I O (-1))):=B8.setCell (p:=⟨k7,a+1,none⟩) (by have h1:=(HO7.out.row.lt k7 rfl).1;have h2:=ZQ.out;show W1.heap.size≤k7;omega) _
     have x3:((V7.setCell ⟨k7,a,none⟩ (I O r)).setCell ⟨k7,a+1,none⟩ (I O (-1))).cell? ⟨w3.heap.size,3,none⟩=some (I O (X1:Int)):=bxc O9.box rfl
     have fx3:((V7.setCell ⟨k7,a,none⟩ (I O r)).setCell ⟨k7,a+1,none⟩ (I O (-1))).frozen? ⟨w3.heap.size,3,none⟩=false:=box_frozen O9.box
     have s0:((V7.setCell ⟨k7,a,none⟩ (I O r)).setCell ⟨k7,a+1,none⟩ (I O (-1))).cell? ⟨w.heap.size,0,none⟩=some (I O W):=bxc (HBX.out _ B9) rfl
     have HOL:Hid (OutAt ((V7.setCell ⟨k7,a,none⟩ (I O r)).setCell ⟨k7,a+1,none⟩ (I O (-1))) w2.heap.size w3.heap.size k7 n kc7 W H (X1:Int) (Y1:Int) false (((clrM (a:Int) ((a:Int)+2) z1).set a r).set (a+1) (-1))):=O9
     have HBL:Hid (Below W1.heap.size W1 ((V7.setCell ⟨k7,a,none⟩ (I O r)).setCell ⟨k7,a+1,none⟩ (I O (-1)))):=B9
     have HFT:Hid (a+2≤n):=hfit
     have ja:(a:Int) < (n:Int):=by omega
     have ja1:(a:Int)+1 < (n:Int):=by omega
     have ja2:((a:Int)+1).toNat=a+1:=by omega
     have ja3:(0:Int)≤(a:Int)+1:=by omega
     clear O8 B8 O9 B9
     rcases hXN with ⟨q1,q2,q3⟩ | ⟨q1,q2,q3⟩
     · have de:decide ((W:Int)≤((X1:Int)+2))=true:=decide_eq_true (by omega)
       subst q2
       subst q3
       have m5:(((V7.setCell ⟨k7,a,none⟩ (I O r)).setCell ⟨k7,a+1,none⟩ (I O (-1))).setCell ⟨w3.heap.size,3,none⟩ (I O ((W:Int) - 1))).cell? ⟨w3.heap.size,5,none⟩=some (.bool false):=bxc (HOL.out.setX ((W:Int) - 1)).box rfl
       have mf5:(((V7.setCell ⟨k7,a,none⟩ (I O r)).setCell ⟨k7,a+1,none⟩ (I O (-1))).setCell ⟨w3.heap.size,3,none⟩ (I O ((W:Int) - 1))).frozen? ⟨w3.heap.size,5,none⟩=false:=box_frozen (HOL.out.setX ((W:Int) - 1)).box
       have OE:=(HOL.out.setX ((W:Int) - 1)).setWr true
       have BE:Below W1.heap.size W1 ((((V7.setCell ⟨k7,a,none⟩ (I O r)).setCell ⟨k7,a+1,none⟩ (I O (-1))).setCell ⟨w3.heap.size,3,none⟩ (I O ((W:Int) - 1))).setCell ⟨w3.heap.size,5,none⟩ (.bool true)):=(HBL.out.setCell (p:=⟨w3.heap.size,3,none⟩) (by have h2:=ZQ.out;show W1.heap.size≤w3.heap.size;omega) _).setCell (p:=⟨w3.heap.size,5,none⟩) (by have h2:=ZQ.out;show W1.heap.size≤w3.heap.size;omega) _
       have e0:((((V7.setCell ⟨k7,a,none⟩ (I O r)).setCell ⟨k7,a+1,none⟩ (I O (-1))).setCell ⟨w3.heap.size,3,none⟩ (I O ((W:Int) - 1))).setCell ⟨w3.heap.size,5,none⟩ (.bool true)).cell? ⟨w3.heap.size,0,none⟩=some (I O W):=bxc OE.box rfl
       have e1:((((V7.setCell ⟨k7,a,none⟩ (I O r)).setCell ⟨k7,a+1,none⟩ (I O (-1))).setCell ⟨w3.heap.size,3,none⟩ (I O ((W:Int) - 1))).setCell ⟨w3.heap.size,5,none⟩ (.bool true)).cell? ⟨w3.heap.size,1,none⟩=some (I O H):=bxc OE.box rfl
       have e2:((((V7.setCell ⟨k7,a,none⟩ (I O r)).setCell ⟨k7,a+1,none⟩ (I O (-1))).setCell ⟨w3.heap.size,3,none⟩ (I O ((W:Int) - 1))).setCell ⟨w3.heap.size,5,none⟩ (.bool true)).cell? ⟨w3.heap.size,2,none⟩=some (Sz (some ⟨k7,0,none⟩) n kc7):=bxc OE.box rfl
       have e3:((((V7.setCell ⟨k7,a,none⟩ (I O r)).setCell ⟨k7,a+1,none⟩ (I O (-1))).setCell ⟨w3.heap.size,3,none⟩ (I O ((W:Int) - 1))).setCell ⟨w3.heap.size,5,none⟩ (.bool true)).cell? ⟨w3.heap.size,3,none⟩=some (I O ((W:Int) - 1)):=bxc OE.box rfl
       have e4:((((V7.setCell ⟨k7,a,none⟩ (I O r)).setCell ⟨k7,a+1,none⟩ (I O (-1))).setCell ⟨w3.heap.size,3,none⟩ (I O ((W:Int) - 1))).setCell ⟨w3.heap.size,5,none⟩ (.bool true)).cell? ⟨w3.heap.size,4,none⟩=some (I O (Y1:Int)):=bxc OE.box rfl
       have e5:((((V7.setCell ⟨k7,a,none⟩ (I O r)).setCell ⟨k7,a+1,none⟩ (I O (-1))).setCell ⟨w3.heap.size,3,none⟩ (I O ((W:Int) - 1))).setCell ⟨w3.heap.size,5,none⟩ (.bool true)).cell? ⟨w3.heap.size,5,none⟩=some (.bool true):=bxc OE.box rfl
       have jr:=HBR.out _ BE
       have HLD:(loadVar 29 ⟨w.heap.size+1,0,none⟩).run Tryd.prog (((((V7.setCell ⟨k7,a,none⟩ (I O r)).setCell ⟨k7,a+1,none⟩ (I O (-1))).setCell ⟨w3.heap.size,3,none⟩ (I O ((W:Int) - 1))).setCell ⟨w3.heap.size,5,none⟩ (.bool true)).setRow (w.heap.size+1) #[I O W,I O H,Sz (some ⟨k7,0,none⟩) n kc7,I O ((W:Int) - 1),I O (Y1:Int),.bool true])=.ok (.agg #[I O W,I O H,Sz (some ⟨k7,0,none⟩) n kc7,I O ((W:Int) - 1),I O (Y1:Int),.bool true]) (((((V7.setCell ⟨k7,a,none⟩ (I O r)).setCell ⟨k7,a+1,none⟩ (I O (-1))).setCell ⟨w3.heap.size,3,none⟩ (I O ((W:Int) - 1))).setCell ⟨w3.heap.size,5,none⟩ (.bool true)).setRow (w.heap.size+1) #[I O W,I O H,Sz (some ⟨k7,0,none⟩) n kc7,I O ((W:Int) - 1),I O (Y1:Int),.bool true]):=run_loadVar_row _ _ _ _ _ _ _ (setRow_heap _ _ _ _ _ _ jr) Tryd.underlying29 rfl (by kernel_rfl)
       have HO:Hid ((((((V7.setCell ⟨k7,a,none⟩ (I O r)).setCell ⟨k7,a+1,none⟩ (I O (-1))).setCell ⟨w3.heap.size,3,none⟩ (I O ((W:Int) - 1))).setCell ⟨w3.heap.size,5,none⟩ (.bool true)).setRow (w.heap.size+1) #[I O W,I O H,Sz (some ⟨k7,0,none⟩) n kc7,I O ((W:Int) - 1),I O (Y1:Int),.bool true]).ownsRow w.heap.size 3 1 (Sz (some ⟨k7,0,none⟩) n kc7) n ((((clrM (a:Int) ((a:Int)+2) z1).set a r).set (a+1) (-1)).map (Value.int .i64))∧Below w.heap.size w (((((V7.setCell ⟨k7,a,none⟩ (I O r)).setCell ⟨k7,a+1,none⟩ (I O (-1))).setCell ⟨w3.heap.size,3,none⟩ (I O ((W:Int) - 1))).setCell ⟨w3.heap.size,5,none⟩ (.bool true)).setRow (w.heap.size+1) #[I O W,I O H,Sz (some ⟨k7,0,none⟩) n kc7,I O ((W:Int) - 1),I O (Y1:Int),.bool true])):=⟨own_low (own_offR OE.row (w.heap.size+1) #[I O W,I O H,Sz (some ⟨k7,0,none⟩) n kc7,I O ((W:Int) - 1),I O (Y1:Int),.bool true] (by have h1:=(OE.row.lt k7 rfl).1;have h2:=ZQ.out;omega)) (by have h2:=ZQ.out;omega),below_setRow (HB1.out.trans (BE.mono HB1.out.size)) (Nat.le_add_right _ 1) #[I O W,I O H,Sz (some ⟨k7,0,none⟩) n kc7,I O ((W:Int) - 1),I O (Y1:Int),.bool true]⟩
       clear OE BE q1 hka hks hqs
       go_wp2_with (first | (refine wpList_store_row rfl _ _ _ rfl w3.heap.size #[I O W,I O H,Sz (some ⟨k7,0,none⟩) n kc7,I O (X1:Int),I O (Y1:Int),.bool false] rfl rfl _ _ j7 (by kernel_rfl) rfl (by simp[Value.oneCell']) ?_;clear j7;rw[← HV7.out]) | (refine wpList_store_row rfl _ _ _ rfl (w.heap.size+1) #[I O W,I O H,Sz (some ⟨k7,0,none⟩) n kc7,I O ((W:Int) - 1),I O (Y1:Int),.bool true] rfl rfl 29 #[I O 0,I O 0,Sz none 0 0,I O 0,I O 0,.bool false] ?jrx (by kernel_rfl) rfl ?jry ?_;(case jrx=>exact jr);(case jry=>simp[Value.oneCell'])))
       (try simp only[Exit.inBlock,Exit.then])
       refine bodyPost_ret (by simp[results,Tryd.results61,asAddr,Act.put,HLD];try rfl) rfl ?_
       refine⟨_,[k7]++[],rfl,?_,by simp,HO.out.2⟩
       rw[HRR.out,HPZ.out.1]
       exact own_Grid (d:=((W:Int),(H:Int),(((clrM (a:Int) ((a:Int)+2) z1).set a r).set (a+1) (-1)),(((W:Int) - 1):Int),(Y1:Int),true,())) (F2:=[k7]) (own_ints (by rw[← HPZ.out.1];exact HPZ.out.2) HO.out.1)
     · have de:decide ((W:Int)≤((X1:Int)+2))=false:=decide_eq_false (by omega)
       subst q2
       subst q3
       have OE:=HOL.out.setX ((X1:Int)+2)
       have BE:Below W1.heap.size W1 (((V7.setCell ⟨k7,a,none⟩ (I O r)).setCell ⟨k7,a+1,none⟩ (I O (-1))).setCell ⟨w3.heap.size,3,none⟩ (I O ((X1:Int)+2))):=HBL.out.setCell (p:=⟨w3.heap.size,3,none⟩) (by have h2:=ZQ.out;show W1.heap.size≤w3.heap.size;omega) _
       have e0:(((V7.setCell ⟨k7,a,none⟩ (I O r)).setCell ⟨k7,a+1,none⟩ (I O (-1))).setCell ⟨w3.heap.size,3,none⟩ (I O ((X1:Int)+2))).cell? ⟨w3.heap.size,0,none⟩=some (I O W):=bxc OE.box rfl
       have e1:(((V7.setCell ⟨k7,a,none⟩ (I O r)).setCell ⟨k7,a+1,none⟩ (I O (-1))).setCell ⟨w3.heap.size,3,none⟩ (I O ((X1:Int)+2))).cell? ⟨w3.heap.size,1,none⟩=some (I O H):=bxc OE.box rfl
       have e2:(((V7.setCell ⟨k7,a,none⟩ (I O r)).setCell ⟨k7,a+1,none⟩ (I O (-1))).setCell ⟨w3.heap.size,3,none⟩ (I O ((X1:Int)+2))).cell? ⟨w3.heap.size,2,none⟩=some (Sz (some ⟨k7,0,none⟩) n kc7):=bxc OE.box rfl
       have e3:(((V7.setCell ⟨k7,a,none⟩ (I O r)).setCell ⟨k7,a+1,none⟩ (I O (-1))).setCell ⟨w3.heap.size,3,none⟩ (I O ((X1:Int)+2))).cell? ⟨w3.heap.size,3,none⟩=some (I O ((X1:Int)+2)):=bxc OE.box rfl
       have e4:(((V7.setCell ⟨k7,a,none⟩ (I O r)).setCell ⟨k7,a+1,none⟩ (I O (-1))).setCell ⟨w3.heap.size,3,none⟩ (I O ((X1:Int)+2))).cell? ⟨w3.heap.size,4,none⟩=some (I O (Y1:Int)):=bxc OE.box rfl
       have e5:(((V7.setCell ⟨k7,a,none⟩ (I O r)).setCell ⟨k7,a+1,none⟩ (I O (-1))).setCell ⟨w3.heap.size,3,none⟩ (I O ((X1:Int)+2))).cell? ⟨w3.heap.size,5,none⟩=some (.bool false):=bxc OE.box rfl
       have jr:=HBR.out _ BE
       have HLD:(loadVar 29 ⟨w.heap.size+1,0,none⟩).run Tryd.prog ((((V7.setCell ⟨k7,a,none⟩ (I O r)).setCell ⟨k7,a+1,none⟩ (I O (-1))).setCell ⟨w3.heap.size,3,none⟩ (I O ((X1:Int)+2))).setRow (w.heap.size+1) #[I O W,I O H,Sz (some ⟨k7,0,none⟩) n kc7,I O ((X1:Int)+2),I O (Y1:Int),.bool false])=.ok (.agg #[I O W,I O H,Sz (some ⟨k7,0,none⟩) n kc7,I O ((X1:Int)+2),I O (Y1:Int),.bool false]) ((((V7.setCell ⟨k7,a,none⟩ (I O r)).setCell ⟨k7,a+1,none⟩ (I O (-1))).setCell ⟨w3.heap.size,3,none⟩ (I O ((X1:Int)+2))).setRow (w.heap.size+1) #[I O W,I O H,Sz (some ⟨k7,0,none⟩) n kc7,I O ((X1:Int)+2),I O (Y1:Int),.bool false]):=run_loadVar_row _ _ _ _ _ _ _ (setRow_heap _ _ _ _ _ _ jr) Tryd.underlying29 rfl (by kernel_rfl)
       have HO:Hid (((((V7.setCell ⟨k7,a,none⟩ (I O r)).setCell ⟨k7,a+1,none⟩ (I O (-1))).setCell ⟨w3.heap.size,3,none⟩ (I O ((X1:Int)+2))).setRow (w.heap.size+1) #[I O W,I O H,Sz (some ⟨k7,0,none⟩) n kc7,I O ((X1:Int)+2),I O (Y1:Int),.bool false]).ownsRow w.heap.size 3 1 (Sz (some ⟨k7,0,none⟩) n kc7) n ((((clrM (a:Int) ((a:Int)+2) z1).set a r).set (a+1) (-1)).map (Value.int .i64))∧Below w.heap.size w ((((V7.setCell ⟨k7,a,none⟩ (I O r)).setCell ⟨k7,a+1,none⟩ (I O (-1))).setCell ⟨w3.heap.size,3,none⟩ (I O ((X1:Int)+2))).setRow (w.heap.size+1) #[I O W,I O H,Sz (some ⟨k7,0,none⟩) n kc7,I O ((X1:Int)+2),I O (Y1:Int),.bool false])):=⟨own_low (own_offR OE.row (w.heap.size+1) #[I O W,I O H,Sz (some ⟨k7,0,none⟩) n kc7,I O ((X1:Int)+2),I O (Y1:Int),.bool false] (by have h1:=(OE.row.lt k7 rfl).1;have h2:=ZQ.out;omega)) (by have h2:=ZQ.out;omega),below_setRow (HB1.out.trans (BE.mono HB1.out.size)) (Nat.le_add_right _ 1) #[I O W,I O H,Sz (some ⟨k7,0,none⟩) n kc7,I O ((X1:Int)+2),I O (Y1:Int),.bool false]⟩
       clear OE BE q1 hka hks hqs
       go_wp2_with (first | (refine wpList_store_row rfl _ _ _ rfl w3.heap.size #[I O W,I O H,Sz (some ⟨k7,0,none⟩) n kc7,I O (X1:Int),I O (Y1:Int),.bool false] rfl rfl _ _ j7 (by kernel_rfl) rfl (by simp[Value.oneCell']) ?_;clear j7;rw[← HV7.out]) | (refine wpList_store_row rfl _ _ _ rfl (w.heap.size+1) #[I O W,I O H,Sz (some ⟨k7,0,none⟩) n kc7,I O ((X1:Int)+2),I O (Y1:Int),.bool false] rfl rfl 29 #[I O 0,I O 0,Sz none 0 0,I O 0,I O 0,.bool false] ?jrx (by kernel_rfl) rfl ?jry ?_;(case jrx=>exact jr);(case jry=>simp[Value.oneCell'])))
       (try simp only[Exit.inBlock,Exit.then])
       refine bodyPost_ret (by simp[results,Tryd.results61,asAddr,Act.put,HLD];try rfl) rfl ?_
       refine⟨_,[k7]++[],rfl,?_,by simp,HO.out.2⟩
       rw[HRR.out,HPZ.out.1]
       exact own_Grid (d:=((W:Int),(H:Int),(((clrM (a:Int) ((a:Int)+2) z1).set a r).set (a+1) (-1)),(((X1:Int)+2):Int),(Y1:Int),false,())) (F2:=[k7]) (own_ints (by rw[← HPZ.out.1];exact HPZ.out.2) HO.out.1)
end Go.Proofs.YthodinpflcbklaaDoor
namespace Go.Proofs.YthodinpflcbklaaDoor
open Go.RowKit
theorem specPut_all(x0 x1 x3 x4:Int)(a:Option Addr)(n c:Nat)(x5:Bool)(zs:List Int)(r:Int)(w:World)(hr:Reads (.sl .int) w [Sz a n c] zs):
   Calls Tryd.prog 61 #[.agg #[I O x0,I O x1,Sz a n c,I O x3,I O x4,.bool x5],I O r] w fun e w'=>∃ o F,e=.returned (.agg o.toArray)∧Own shGrid w' w.heap.size o (putD (x0,x1,zs,x3,x4,x5,()) r) F∧F.Nodup∧Below w.heap.size w w':=by
 have hl:=(reads_ints hr).1
 cases hg:gokB (x0,x1,zs,x3,x4,x5,()) with
 | false=>exact specPut_no x0 x1 x3 x4 a n c x5 zs r w hr hg _ (ansG_no hg)
 | true =>
   obtain⟨W,H,rfl,rfl,g1,g2,g3,g4,g5,hlen,hcl,hcu⟩:=gok_parts hg
   obtain⟨c1,c2,c3,c4,c5⟩:=cursB_iff.1 hcu
   have hd:=wd_bd r
   by_cases h0:wd r=0
   · exact specPut_zero W H x3 x4 a n c x5 zs r h0 w hr hg _ (by unfold putD;rw[ansG_yes hg,putN_zero h0])
   · obtain⟨d,hdd⟩:∃ d:Nat,wd r=d:=⟨(wd r).toNat,by omega⟩
     have hd2:d=1∨d=2:=by omega
     obtain⟨X1,Y1,z1,e1,e2,e3,hl1,hc1,f1,f2,_,hb⟩:=put_facts d hd2 hg hl
     have hR:putD ((W:Int),(H:Int),zs,x3,x4,x5,()) r=putN ((W:Int),(H:Int),zs,x3,x4,x5,()) r:=ansG_yes hg
     have hR2:=hR.trans (putN_yes hdd hd2 e1 e2 e3)
     have hr32:=wd_rune h0
     have hXN:((X1:Int)+d=W∧(if (X1:Int)+d=W then (X1:Int)+d - 1 else (X1:Int)+d)=(W:Int) - 1∧decide ((X1:Int)+d=W)=true)∨((X1:Int)+d < W∧(if (X1:Int)+d=W then (X1:Int)+d - 1 else (X1:Int)+d)=(X1:Int)+d∧decide ((X1:Int)+d=W)=false):=by
       by_cases h:(X1:Int)+d=W
       · left;rw[if_pos h];exact⟨h,by omega,decide_eq_true h⟩
       · right;rw[if_neg h];exact⟨by omega,rfl,decide_eq_false h⟩
     have hbr:(brkG x3 W d x5=true→x5=true∨(x5=false∧(W:Int) < x3+d))∧(brkG x3 W d x5=false→x5=false∧x3+d≤W):=by
       unfold brkG
       cases x5 <;> simp
     have ht:(W:Int).toNat=W:=Int.toNat_natCast W
     have ht2:(H:Int).toNat=H:=Int.toNat_natCast H
     rcases hd2 with rfl | rfl
     · refine specPut_1 W H x3 x4 a n c x5 zs r hdd ⟨by omega,by omega⟩ X1 Y1 z1 _ _ (Y1*W+X1) (by rw[ht]) (by omega) (by omega) ⟨by rw[ht,ht2];exact hc1,hl1⟩ hXN ?_ w hr hg _ hR2
       rcases hb with ⟨q1,q2,q3,q4⟩ | ⟨q1,q2,q3,q4⟩
       · left
         refine⟨?_,q2,q3.symm,by rw[ht];exact q4⟩
         rcases hbr.1 q1 with h | ⟨_,h⟩
         · exact .inl h
         · exfalso;omega
       · exact .inr ⟨(hbr.2 q1).1,trivial,q2,q3,q4⟩
     · rcases hb with ⟨q1,q2,q3,q4⟩ | ⟨q1,q2,q3,q4⟩
       · rcases hbr.1 q1 with h | ⟨h1,h⟩
         · refine specPut_2w W H x3 x4 a n c x5 zs r hdd ⟨by omega,by omega⟩ X1 Y1 z1 _ _ (Y1*W+X1) (by rw[ht]) (by omega) (by omega) ⟨by rw[ht,ht2];exact hc1,hl1⟩ hXN ?_ w hr hg _ hR2
           exact⟨h,q2,q3.symm,by rw[ht];exact q4⟩
         · refine specPut_2e W H x3 x4 a n c x5 zs r hdd ⟨by omega,by omega⟩ X1 Y1 z1 _ _ (Y1*W+X1) (by rw[ht]) (by omega) (by omega) ⟨by rw[ht,ht2];exact hc1,hl1⟩ hXN ?_ w hr hg _ hR2
           exact⟨h1,by omega,q2,q3.symm,by rw[ht];exact q4⟩
       · refine specPut_2n W H x3 x4 a n c x5 zs r hdd ⟨by omega,by omega⟩ X1 Y1 z1 _ _ (Y1*W+X1) (by rw[ht]) (by omega) (by omega) ⟨by rw[ht,ht2];exact hc1,hl1⟩ hXN ?_ w hr hg _ hR2
         exact⟨(hbr.2 q1).1,by have:=(hbr.2 q1).2;omega,q2,q3,q4⟩
theorem sput_any{g:GrD}{a:Option Addr}{n c:Nat}(r:Int)(w:World)(hg:gokB g=true)(hr:Reads (.sl .int) w [Sz a n c] g.2.2.1):
   Calls Tryd.prog 61 #[.agg #[I O g.1,I O g.2.1,Sz a n c,I O g.2.2.2.1,I O g.2.2.2.2.1,.bool g.2.2.2.2.2.1],I O r] w fun e w'=>GAns w w' e (putN g r):=by
 obtain⟨x0,x1,zs,x3,x4,x5,u⟩:=g
 refine(specPut_all x0 x1 x3 x4 a n c x5 zs r w hr).mono ?_
 rintro e w' ⟨o,F,he,ho,_,hb⟩
 rw[show putD (x0,x1,zs,x3,x4,x5,()) r=putN (x0,x1,zs,x3,x4,x5,()) r from ansG_yes hg] at ho
 exact gans_of he ho hb
end Go.Proofs.YthodinpflcbklaaDoor
namespace Go.Proofs.YthodinpflcbklaaDoor
open Go.RowKit
set_option maxRecDepth 100000
theorem spl_put(W H X Y st be:Int)(wrp:Bool)(a a7 a8:Option Addr)(n c n7 c7 n8 c8:Nat)(zs al pl:List Int)(b:Int)(w:World)(hg:gokB (W,H,zs,X,Y,wrp,())=true)(h2:Reads (.sl .int) w [Sz a n c] zs)(h7:Reads (.sl .int) w [Sz a7 n7 c7] al)(h8:Reads (.sl .u8) w [Sz a8 n8 c8] pl)(hpl:pl.length≤3)(hbe:0≤be∧be≤1000000)(hb:32≤b∧b < 127):
   Calls Tryd.prog 54 #[.agg #[I O W,I O H,Sz a n c,I O X,I O Y,.bool wrp,I O st,Sz a7 n7 c7,Sz a8 n8 c8,I O be],I O b] w fun e w'=>∃ o,e=.returned (.agg o.toArray)∧RK w w' o (plainT (((W,H,zs,X,Y,wrp,()),st,al,pl,be,()):TD) b) (Sz a n c) (Sz a7 n7 c7) (Sz a8 n8 c8) zs al pl∧Below w.heap.size w w':=by
 obtain⟨i1,ji,jz0,jz1,jz2⟩:=info_parts Tryd.infoB
 obtain⟨W2,hW2,bW2,zW2,hA2,hZ2,hG2,HBX⟩:=mpro2 W H X Y st be wrp a a7 a8 n c n7 c7 n8 c8 w
 have HB2:Hid (Below w.heap.size w W2∧W2.heap.size=w.heap.size+3):=⟨bW2,zW2⟩
 have HW:Hid (W2=_):=hW2
 have HR:Hid (Reads (.sl .int) w [Sz a n c] zs∧Reads (.sl .int) w [Sz a7 n7 c7] al):=⟨h2,h7⟩
 obtain⟨hl8,hr8,_,_⟩:=reads_bytes h8
 have HBY:Hid (∀ i,0≤bt pl i∧bt pl i≤255):=fun i=>hr8.1 i
 have HL:Hid (pl.length=n8):=hl8
 have HSR:Hid (SrcZ w (Sz a8 n8 c8) n8 (pl.map (Value.int .u8))):=srcZ_rd hr8 hl8
 obtain⟨WE,hWE⟩:∃ U,U=W2.alloc (.cells #[] 5):=⟨_,rfl⟩
 have bE:Below W2.heap.size W2 WE:=by rw[hWE];exact(Below.refl _ _).alloc (Nat.le_refl _) _
 have oE:WE.ownsRow W2.heap.size 5 1 (Sz (some ⟨w.heap.size+1+1+1,0,none⟩) 0 0) 0 []:=by
   have h9:=World.ownsRow_lit (base:=W2.heap.size) (e:=5) (size:=1) W2 #[] 0 (Nat.le_refl _) (Nat.zero_le _) rfl
   rw[zW2] at h9
   rw[hWE,zW2]
   exact h9
 have hn83:n8≤3:=by omega
 have HE0:Hid (Below W2.heap.size W2 WE∧WE.ownsRow W2.heap.size 5 1 (Sz (some ⟨w.heap.size+1+1+1,0,none⟩) 0 0) 0 []):=⟨bE,oE⟩
 have HWE:Hid (WE=_):=hWE
 obtain⟨W',H',eW,eH,g1,g2,g3,g4,g5,hlen,hcl,hcu⟩:=gok_parts hg
 obtain⟨c1,c2,c3,c4,c5⟩:=cursB_iff.1 hcu
 have e7:(b==7)=false:=by simp;omega
 have e8:(b==8)=false:=by simp;omega
 have e10:(b==10)=false:=by simp;omega
 have e13:(b==13)=false:=by simp;omega
 have e27:(b==27)=false:=by simp;omega
 have d1:decide ((128:Int)≤b)=false:=decide_eq_false (by omega)
 have d2:decide ((32:Int)≤b)=true:=decide_eq_true hb.1
 have d3:decide (b < (127:Int))=true:=decide_eq_true hb.2
 have wb:IntKind.u8.wrap b=b:=by simp[IntKind.wrap,IntKind.bits,IntKind.signed];omega
 obtain⟨D,hD⟩:∃ D:GrD,D=putN (W,H,zs,X,Y,wrp,()) b:=⟨_,rfl⟩
 have HE:Hid (plainT (((W,H,zs,X,Y,wrp,()),st,al,pl,be,()):TD) b=(D,st,al,[],be,())):=by
   rw[hD]
   show _=_
   unfold plainT
   rw[if_neg (by omega),if_neg (by omega),if_neg (by omega),if_neg (by omega),if_neg (by omega),if_neg (by omega)]
 have QG:Hid (∀ w',Below w.heap.size w w'→Calls Tryd.prog 61 #[.agg #[I O W,I O H,Sz a n c,I O X,I O Y,.bool wrp],I O b] w' fun e w''=>GAns w' w'' e D):=fun w' hb=>by rw[hD];exact sput_any (g:=(W,H,zs,X,Y,wrp,())) b w' hg (h2.later hb)
 clear hg h2 h7 h8 hpl hl8 hr8 hW2 bW2 zW2 hA2 hZ2 hG2 hWE bE oE hD hlen hcl hcu eW eH g1 g2 g3 g4 g5 c1 c2 c3 c4 c5 hb hbe
 have y0:WE.cell? ⟨w.heap.size,0,none⟩=some (I O W):=bxc (HBX.out _ HE0.out.1).1 rfl
 have y1:WE.cell? ⟨w.heap.size,1,none⟩=some (I O H):=bxc (HBX.out _ HE0.out.1).1 rfl
 have y2:WE.cell? ⟨w.heap.size,2,none⟩=some (Sz a n c):=bxc (HBX.out _ HE0.out.1).1 rfl
 have y3:WE.cell? ⟨w.heap.size,3,none⟩=some (I O X):=bxc (HBX.out _ HE0.out.1).1 rfl
 have y4:WE.cell? ⟨w.heap.size,4,none⟩=some (I O Y):=bxc (HBX.out _ HE0.out.1).1 rfl
 have y5:WE.cell? ⟨w.heap.size,5,none⟩=some (.bool wrp):=bxc (HBX.out _ HE0.out.1).1 rfl
 have y6:WE.cell? ⟨w.heap.size,6,none⟩=some (I O st):=bxc (HBX.out _ HE0.out.1).1 rfl
 have y7:WE.cell? ⟨w.heap.size,7,none⟩=some (Sz a7 n7 c7):=bxc (HBX.out _ HE0.out.1).1 rfl
 have y8:WE.cell? ⟨w.heap.size,8,none⟩=some (Sz a8 n8 c8):=bxc (HBX.out _ HE0.out.1).1 rfl
 have y9:WE.cell? ⟨w.heap.size,9,none⟩=some (I O be):=bxc (HBX.out _ HE0.out.1).1 rfl
 have hsE:=srcZ_later HSR.out (HB2.out.1.trans (HE0.out.1.mono HB2.out.1.size))
 have oE:=HE0.out.2
 go_enter Tryd.func54,Tryd.ntmps54
 go_wp2_with (at_builtin;rw[← HW.out,← HWE.out];refine wpList_append_srcZ rfl _ _ 25 rfl W2.heap.size 5 i1 (I .u8 0) 1 1 Tryd.underlying25 ji jz0 jz1 jz2 rfl (by decide) _ 0 [] rfl oE (Sz a8 n8 c8) n8 (pl.map (Value.int .u8)) rfl ?c0 hsE ?c1 ?c3 ?c4 HE0.out.1.size ?_)
 case c0=>(rw[List.length_map,HL.out]) <;> omega
 case c1=>intro u hu;simp at hu;obtain⟨x,_,rfl⟩:=hu;rfl
 case c3=>unfold maxLen;omega
 case c4=>omega
 intro v7 wA oA gA
 (try rw[Nat.zero_add] at oA)
 (try rw[List.nil_append] at oA)
 obtain⟨aA,cA,hvA⟩:=own_formV oA
 subst hvA
 have kA:Below W2.heap.size W2 wA:=HE0.out.1.grown gA HE0.out.1.size (fun k e=>(oE.lt k e).1)
 clear oE gA hsE y0 y1 y2 y3 y4 y5 y6 y7 y8 y9
 have bl2:Below wA.heap.size wA (wA.alloc (.cells #[I .u8 (b)] 5)):=(Below.refl _ _).alloc (Nat.le_refl _) _
 have oA2:=own_later oA bl2
 have sB:SrcZ (wA.alloc (.cells #[I .u8 (b)] 5)) (Sz (some ⟨wA.heap.size,0,none⟩) 1 1) 1 [I .u8 (b)]:=srcZ_lit (cs:=[I .u8 (b)]) (heap_alloc_new wA _)
 have kA2:Below W2.heap.size W2 (wA.alloc (.cells #[I .u8 (b)] 5)):=kA.trans (bl2.mono kA.size)
 have y0:wA.cell? ⟨w.heap.size,0,none⟩=some (I O W):=bxc (HBX.out _ kA).1 rfl
 have y1:wA.cell? ⟨w.heap.size,1,none⟩=some (I O H):=bxc (HBX.out _ kA).1 rfl
 have y2:wA.cell? ⟨w.heap.size,2,none⟩=some (Sz a n c):=bxc (HBX.out _ kA).1 rfl
 have y3:wA.cell? ⟨w.heap.size,3,none⟩=some (I O X):=bxc (HBX.out _ kA).1 rfl
 have y4:wA.cell? ⟨w.heap.size,4,none⟩=some (I O Y):=bxc (HBX.out _ kA).1 rfl
 have y5:wA.cell? ⟨w.heap.size,5,none⟩=some (.bool wrp):=bxc (HBX.out _ kA).1 rfl
 have y6:wA.cell? ⟨w.heap.size,6,none⟩=some (I O st):=bxc (HBX.out _ kA).1 rfl
 have y7:wA.cell? ⟨w.heap.size,7,none⟩=some (Sz a7 n7 c7):=bxc (HBX.out _ kA).1 rfl
 have y8:wA.cell? ⟨w.heap.size,8,none⟩=some (Sz a8 n8 c8):=bxc (HBX.out _ kA).1 rfl
 have y9:wA.cell? ⟨w.heap.size,9,none⟩=some (I O be):=bxc (HBX.out _ kA).1 rfl
 go_wp2_with (at_builtin;refine wpList_append_srcZ rfl _ _ 25 rfl W2.heap.size 5 i1 (I .u8 0) 1 1 Tryd.underlying25 ji jz0 jz1 jz2 rfl (by decide) _ n8 (pl.map (Value.int .u8)) rfl oA2 (Sz (some ⟨wA.heap.size,0,none⟩) 1 1) 1 [I .u8 (b)] rfl rfl sB (by intro u hu;simp at hu;subst hu;rfl) (by unfold maxLen;omega) (by omega) kA2.size ?_)
 intro v8 wB oB gB
 obtain⟨gC,cB,hvB,_,_⟩:=own_form oB (by omega)
 subst hvB
 have kB:Below W2.heap.size W2 wB:=kA2.grown gB kA2.size (fun k e=>(oA2.lt k e).1)
 have oS:wB.ownsRow W2.heap.size 5 1 (Sz (some ⟨gC,0,none⟩) (n8+1) cB) (n8+1) ((pl++[b]).map (Value.int .u8)):=by rw[List.map_append];exact oB
 clear oA oA2 sB bl2 kA kA2 gB oB y0 y1 y2 y3 y4 y5 y6 y7 y8 y9
 have bB:=HB2.out.1.trans (kB.mono HB2.out.1.size)
 have i4:=HBX.out _ kB
 obtain⟨w8,hw8⟩:∃ U,U=wB.setCell ⟨w.heap.size,8,none⟩ (Sz none 0 0):=⟨_,rfl⟩
 have b8:Below w.heap.size w w8:=by rw[hw8];exact Below.setCell (p:=⟨w.heap.size,8,none⟩) bB (Nat.le_refl _) _
 have z8:W2.heap.size≤w8.heap.size:=by rw[hw8];exact Nat.le_trans kB.size (Below.setCell (p:=⟨w.heap.size,8,none⟩) (Below.refl w.heap.size wB) (Nat.le_refl _) _).size
 have hV8:w8.heap[w.heap.size]?=some (.cells #[I O W,I O H,Sz a n c,I O X,I O Y,.bool wrp,I O st,Sz a7 n7 c7,Sz none 0 0,I O be] 31 (0,0)):=by rw[hw8];exact box_set _ i4.1
 have hR8:w8.heap[w.heap.size+1]?=some (.cells #[I O 0,I O 0,Sz none 0 0,I O 0,I O 0,.bool false,I O 0,Sz none 0 0,Sz none 0 0,I O 0] 31 (0,0)):=by rw[hw8,box_other _ (by omega)];exact i4.2.1
 have hG8:w8.heap[w.heap.size+1+1]?=some (.cells #[I O W,I O H,Sz a n c,I O X,I O Y,.bool wrp] 29 (0,0)):=by rw[hw8,box_other _ (by omega)];exact i4.2.2
 have q0:wB.cell? ⟨w.heap.size,0,none⟩=some (I O W):=bxc i4.1 rfl
 have q1:wB.cell? ⟨w.heap.size,1,none⟩=some (I O H):=bxc i4.1 rfl
 have q2:wB.cell? ⟨w.heap.size,2,none⟩=some (Sz a n c):=bxc i4.1 rfl
 have q3:wB.cell? ⟨w.heap.size,3,none⟩=some (I O X):=bxc i4.1 rfl
 have q4:wB.cell? ⟨w.heap.size,4,none⟩=some (I O Y):=bxc i4.1 rfl
 have q5:wB.cell? ⟨w.heap.size,5,none⟩=some (.bool wrp):=bxc i4.1 rfl
 have q6:wB.cell? ⟨w.heap.size,6,none⟩=some (I O st):=bxc i4.1 rfl
 have q7:wB.cell? ⟨w.heap.size,7,none⟩=some (Sz a7 n7 c7):=bxc i4.1 rfl
 have q8:wB.cell? ⟨w.heap.size,8,none⟩=some (Sz a8 n8 c8):=bxc i4.1 rfl
 have q9:wB.cell? ⟨w.heap.size,9,none⟩=some (I O be):=bxc i4.1 rfl
 have z0:wB.cell? ⟨w.heap.size+1+1,0,none⟩=some (I O W):=bxc i4.2.2 rfl
 have z1:wB.cell? ⟨w.heap.size+1+1,1,none⟩=some (I O H):=bxc i4.2.2 rfl
 have z2:wB.cell? ⟨w.heap.size+1+1,2,none⟩=some (Sz a n c):=bxc i4.2.2 rfl
 have z3:wB.cell? ⟨w.heap.size+1+1,3,none⟩=some (I O X):=bxc i4.2.2 rfl
 have z4:wB.cell? ⟨w.heap.size+1+1,4,none⟩=some (I O Y):=bxc i4.2.2 rfl
 have z5:wB.cell? ⟨w.heap.size+1+1,5,none⟩=some (.bool wrp):=bxc i4.2.2 rfl
 have f8:wB.frozen? ⟨w.heap.size,8,none⟩=false:=box_frozen i4.1
 have HW8:Hid (w8=_):=hw8
 clear i4 bB kB oS hw8
 go_wp2_with fail
 rw[← HW8.out]
 refine(QG.out _ b8).mono ?_
 rintro e w4 ⟨a5,n5,c5',F,rfl,ho,hb4⟩
 clear q0 q1 q2 q3 q4 q5 q6 q7 q8 q9 z0 z1 z2 z3 z4 z5 f8
 have b4:=b8.trans (hb4.mono b8.size)
 have hz:=HB2.out.2
 have hV4:=(hb4.block _ (by omega)).trans hV8
 have hR4:=(hb4.block _ (by omega)).trans hR8
 obtain⟨VV,hVV⟩:∃ U,U=w4.setCells w.heap.size 0 (#[I O D.1,I O D.2.1,Sz a5 n5 c5',I O D.2.2.2.1,I O D.2.2.2.2.1,.bool D.2.2.2.2.2.1]:Array Value).toList:=⟨_,rfl⟩
 have hVb:VV.heap[w.heap.size]?=some (.cells #[I O D.1,I O D.2.1,Sz a5 n5 c5',I O D.2.2.2.1,I O D.2.2.2.2.1,.bool D.2.2.2.2.2.1,I O st,Sz a7 n7 c7,Sz none 0 0,I O be] 31 (0,0)):=by rw[hVV];exact six_in hV4
 have hth:w4.there w.heap.size 0 6:=six_there hV4
 have hVr:VV.heap[w.heap.size+1]?=some (.cells #[I O 0,I O 0,Sz none 0 0,I O 0,I O 0,.bool false,I O 0,Sz none 0 0,Sz none 0 0,I O 0] 31 (0,0)):=by rw[hVV,setCells_other (by omega)];exact hR4
 have q0:VV.cell? ⟨w.heap.size,0,none⟩=some (I O D.1):=bxc hVb rfl
 have q1:VV.cell? ⟨w.heap.size,1,none⟩=some (I O D.2.1):=bxc hVb rfl
 have q2:VV.cell? ⟨w.heap.size,2,none⟩=some (Sz a5 n5 c5'):=bxc hVb rfl
 have q3:VV.cell? ⟨w.heap.size,3,none⟩=some (I O D.2.2.2.1):=bxc hVb rfl
 have q4:VV.cell? ⟨w.heap.size,4,none⟩=some (I O D.2.2.2.2.1):=bxc hVb rfl
 have q5:VV.cell? ⟨w.heap.size,5,none⟩=some (.bool D.2.2.2.2.2.1):=bxc hVb rfl
 have q6:VV.cell? ⟨w.heap.size,6,none⟩=some (I O st):=bxc hVb rfl
 have q7:VV.cell? ⟨w.heap.size,7,none⟩=some (Sz a7 n7 c7):=bxc hVb rfl
 have q8:VV.cell? ⟨w.heap.size,8,none⟩=some (Sz none 0 0):=bxc hVb rfl
 have q9:VV.cell? ⟨w.heap.size,9,none⟩=some (I O be):=bxc hVb rfl
 have HLD:(loadVar 31 ⟨w.heap.size+1,0,none⟩).run Tryd.prog (VV.setRow (w.heap.size+1) #[I O D.1,I O D.2.1,Sz a5 n5 c5',I O D.2.2.2.1,I O D.2.2.2.2.1,.bool D.2.2.2.2.2.1,I O st,Sz a7 n7 c7,Sz none 0 0,I O be])=.ok (.agg #[I O D.1,I O D.2.1,Sz a5 n5 c5',I O D.2.2.2.1,I O D.2.2.2.2.1,.bool D.2.2.2.2.2.1,I O st,Sz a7 n7 c7,Sz none 0 0,I O be]) (VV.setRow (w.heap.size+1) #[I O D.1,I O D.2.1,Sz a5 n5 c5',I O D.2.2.2.1,I O D.2.2.2.2.1,.bool D.2.2.2.2.2.1,I O st,Sz a7 n7 c7,Sz none 0 0,I O be]):=run_loadVar_row _ _ _ _ _ _ _ (setRow_heap _ _ _ _ _ _ hVr) Tryd.underlying31 rfl (by kernel_rfl)
 have bF:Below w.heap.size w (VV.setRow (w.heap.size+1) #[I O D.1,I O D.2.1,Sz a5 n5 c5',I O D.2.2.2.1,I O D.2.2.2.2.1,.bool D.2.2.2.2.2.1,I O st,Sz a7 n7 c7,Sz none 0 0,I O be]):=below_setRow (by rw[hVV];exact below_setCells _ _ _ b4 (Nat.le_refl _)) (Nat.le_add_right _ 1) _
 have rN:Own (.sl .int) (VV.setRow (w.heap.size+1) #[I O D.1,I O D.2.1,Sz a5 n5 c5',I O D.2.2.2.1,I O D.2.2.2.2.1,.bool D.2.2.2.2.2.1,I O st,Sz a7 n7 c7,Sz none 0 0,I O be]) w8.heap.size [Sz a5 n5 c5'] D.2.2.1 F:=ho.keep fun g hg=>by
   have:=(ho.lt g hg).1
   rw[setRow_other _ (w.heap.size+1) g _ (by omega),hVV,setCells_other (by omega)]
 have HSZ:Hid (w.heap.size≤w8.heap.size):=b8.size
 have HF:Hid (_∧_):=⟨bF,rN⟩
 have HVV:Hid (VV=_):=hVV
 have HTH:Hid (w4.there w.heap.size 0 6):=hth
 clear hVV hVb hth b4 bF rN ho hb4 b8 z8 hV8 hR8 hG8 hV4 hR4
 go_wp2_with (first | (refine wpList_store_mid rfl _ _ _ rfl w.heap.size 0 #[I O D.1,I O D.2.1,Sz a5 n5 c5',I O D.2.2.2.1,I O D.2.2.2.2.1,.bool D.2.2.2.2.2.1] rfl rfl HTH.out (by kernel_rfl) (by simp[Value.oneCell']) ?_;rw[← HVV.out]) | (refine wpList_store_row rfl _ _ _ rfl _ _ rfl rfl _ _ hVr (by kernel_rfl) rfl (by simp[Value.oneCell']) ?_))
 (try simp only[Exit.inBlock,Exit.then])
 refine bodyPost_ret (by simp[results,Tryd.results54,asAddr,Act.put,HLD];try rfl) rfl ?_
 refine⟨[I O D.1,I O D.2.1,Sz a5 n5 c5',I O D.2.2.2.1,I O D.2.2.2.2.1,.bool D.2.2.2.2.2.1,I O st,Sz a7 n7 c7,Sz none 0 0,I O be],rfl,?_,HF.out.1⟩
 rw[HE.out]
 intro w'' hk r2 r7 r8
 exact reads_Vt (d:=((D,st,al,[],be,()):TD)) (own_read HF.out.2 HSZ.out hk) r7 (nil_readB _)
end Go.Proofs.YthodinpflcbklaaDoor
