/-
  Parts of the road to VB, joined: GrSPc.
-/
import Derived.Test.YthodinpflcbklaaDoorM27VB
import Derived.Deep.RegionHeld3
open Go.Value renaming int → I,slice → Sz
open Go.IntKind renaming i64 → O
open List renaming setIfInBounds_toArray → lA,getElem_toArray → lB,getElem_cons_succ → lC,getElem_cons_zero → lD,set_cons_zero → lE,set_cons_succ → lF
set_option linter.unusedVariables false
set_option linter.unusedSimpArgs false
set_option maxHeartbeats 40000000
namespace Go.Proofs.YthodinpflcbklaaDoor
open Go.RowKit
set_option maxRecDepth 100000 in
theorem specPut_2e (x0 x1 x3 x4:Int) (a0:Option Addr) (n c:Nat) (x5:Bool) (zs:List Int) (r:Int) (hw:wd r=2) (hr32:-1≤r∧r≤1114111) (X1 Y1:Nat) (z1:List Int) (XN:Int) (bN:Bool) (a:Nat) (hae:a=Y1*x0.toNat+X1) (hX1:(X1:Int)+2≤x0) (hY1:(Y1:Int) < x1) (hz1:cellsB z1 x0.toNat (x0.toNat*x1.toNat)=true∧z1.length=n) (hXN:((X1:Int)+2=x0∧XN=x0 - 1∧bN=true)∨((X1:Int)+2 < x0∧XN=(X1:Int)+2∧bN=false)) (hb:x5=false∧x3=x0 - 1∧X1=0∧(Y1:Int)=clampG (x4+1) x1∧z1=(if x4=x1 - 1 then scr 32 x0.toNat zs else zs)) (w:World) (hr:Reads (.sl .int) w [Sz a0 n c] zs) (hg:gokB (x0,x1,zs,x3,x4,x5,())=true) (R:GrD) (hRz:R=(x0,x1,putZ a 2 r (-1) (clrM (a:Int) ((a:Int)+2) z1),XN,(Y1:Int),bN,())) :
   Calls Tryd.prog 61 #[.agg #[I O x0,I O x1,Sz a0 n c,I O x3,I O x4,.bool x5],I O r] w fun e w'=>∃ o F,e=.returned (.agg o.toArray)∧Own shGrid w' w.heap.size o R F∧F.Nodup∧Below w.heap.size w w':=by
 have HRR:Hid (R=(x0,x1,putZ a 2 r (-1) (clrM (a:Int) ((a:Int)+2) z1),XN,(Y1:Int),bN,())):=hRz
 clear hRz
 have HHB:Hid (x5=false∧x3=x0 - 1∧X1=0∧(Y1:Int)=clampG (x4+1) x1∧z1=(if x4=x1 - 1 then scr 32 x0.toNat zs else zs)):=hb
 clear hb
 have qw:Hid (∀ w',Calls Tryd.prog 69 #[I O r] w' fun e w''=>e=.returned (I O 2)∧Below w'.heap.size w' w''):=fun w'=>by rw[← hw];exact specWid_any r w'
 obtain⟨hl,hrd,hc,hm⟩:=reads_ints hr
 unfold maxLen at hm
 obtain⟨W1,hW1⟩:∃ W,W=(w.alloc (.cells #[I O x0,I O x1,Sz a0 n c,I O x3,I O x4,.bool x5] 29)).alloc (.cells #[I O 0,I O 0,Sz none 0 0,I O 0,I O 0,.bool false] 29):=⟨_,rfl⟩
 have bW1:Below w.heap.size w W1:=by rw[hW1];exact((Below.refl _ _).alloc (Nat.le_refl _) _).alloc (by simp) _
 have zW1:W1.heap.size=w.heap.size+1+1:=by rw[hW1];simp
 have hbox:W1.heap[w.heap.size]?=some (.cells #[I O x0,I O x1,Sz a0 n c,I O x3,I O x4,.bool x5] 29 (0,0)):=by
   rw[hW1,heap_alloc_old _ _ (by simp)];exact heap_alloc_new w _
 have hbox1:W1.heap[w.heap.size+1]?=some (.cells #[I O 0,I O 0,Sz none 0 0,I O 0,I O 0,.bool false] 29 (0,0)):=by
   rw[hW1]
   have:=heap_alloc_new (w.alloc (.cells #[I O x0,I O x1,Sz a0 n c,I O x3,I O x4,.bool x5] 29)) (.cells #[I O 0,I O 0,Sz none 0 0,I O 0,I O 0,.bool false] 29)
   simpa using this
 have HBX:Hid (∀ w',Below W1.heap.size W1 w'→w'.heap[w.heap.size]?=some (.cells #[I O x0,I O x1,Sz a0 n c,I O x3,I O x4,.bool x5] 29 (0,0))):=fun w' h'=>(h'.block _ (by omega)).trans hbox
 have HBR:Hid (∀ w',Below W1.heap.size W1 w'→w'.heap[w.heap.size+1]?=some (.cells #[I O 0,I O 0,Sz none 0 0,I O 0,I O 0,.bool false] 29 (0,0))):=fun w' h'=>(h'.block _ (by omega)).trans hbox1
 have HR:Hid (Reads (.sl .int) w [Sz a0 n c] zs):=hr
 have qg:Hid (∀ w',Below w.heap.size w w'→Calls Tryd.prog 52 #[.agg #[I O x0,I O x1,Sz a0 n c,I O x3,I O x4,.bool x5]] w' fun e w''=>e=.returned (.bool (gokB (x0,x1,zs,x3,x4,x5,())))∧Below w'.heap.size w' w''):=fun w' h'=>specGok_any x0 x1 x3 x4 a0 n c x5 zs w' (hr.later h')
 have HW:Hid (W1=_):=hW1
 have HB1:Hid (Below w.heap.size w W1):=bW1
 have hb00:Below W1.heap.size W1 W1:=Below.refl _ _
 have i_W1:=HBX.out W1 hb00
 have y0:W1.cell? ⟨w.heap.size,0,none⟩=some (I O x0):=bxc i_W1 rfl
 have y1:W1.cell? ⟨w.heap.size,1,none⟩=some (I O x1):=bxc i_W1 rfl
 have y2:W1.cell? ⟨w.heap.size,2,none⟩=some (Sz a0 n c):=bxc i_W1 rfl
 have y3:W1.cell? ⟨w.heap.size,3,none⟩=some (I O x3):=bxc i_W1 rfl
 have y4:W1.cell? ⟨w.heap.size,4,none⟩=some (I O x4):=bxc i_W1 rfl
 have y5:W1.cell? ⟨w.heap.size,5,none⟩=some (.bool x5):=bxc i_W1 rfl
 clear i_W1
 clear hW1 hbox hbox1 hr hrd hl hb00
 refine(fun (_:True)=>?_) trivial
 · have HG:Hid (gokB (x0,x1,zs,x3,x4,x5,())=true):=hg
   rw[hg] at qg
   obtain⟨W,H,rfl,rfl,g1,g2,g3,g4,g5,hlen,hcl,hcu⟩:=gok_parts hg
   have hl:=(reads_ints HR.out).1
   have hn:n=W*H:=by omega
   have hmb:=mul_bd (x:=W) (y:=H) (by omega) (by omega) (by omega) (by omega)
   have hpr:(W:Int)*(H:Int)=(n:Int):=by rw[hn];simp
   rw[hpr] at hmb
   have HN:Hid (n=W*H∧zs.length=n∧cellsB zs W (W*H)=true∧cursB W H x3 x4 x5=true):=⟨hn,hl,hcl,hcu⟩
   have hn8:n≤8000:=by omega
   have qc:Hid (∀ w',Below w.heap.size w w'→Calls Tryd.prog 43 #[.agg #[I O W,I O H,Sz a0 n c,I O x3,I O x4,.bool x5]] w' fun e w''=>∃ k kc,e=.returned (.agg #[I O W,I O H,Sz (some ⟨k,0,none⟩) n kc,I O x3,I O x4,.bool x5])∧w''.ownsRow w'.heap.size 3 1 (Sz (some ⟨k,0,none⟩) n kc) n (zs.map (Value.int .i64))∧Below w'.heap.size w' w''):=fun w' h'=>specGcopy_any W H x3 x4 a0 n c x5 zs w' (HR.out.later h') (by omega) (by omega)
   clear hg hn hl hlen hcl hcu g5 hpr
   go_enter Tryd.func61,Tryd.ntmps61
   go_wp2_with fail
   rw[← HW.out]
   refine(qg.out _ HB1.out).mono ?_
   rintro e wA ⟨rfl,hbA⟩
   go_wp2_with fail
   refine(qw.out _).mono ?_
   rintro e w2 ⟨rfl,hb2'⟩
   have hb2:Below W1.heap.size W1 w2:=hbA.trans (hb2'.mono hbA.size)
   have b2:=HB1.out.trans (hb2.mono HB1.out.size)
   clear hbA hb2'
   have z2:=hb2.size
   clear y0 y1 y2 y3 y4 y5
   have i_w2:=HBX.out w2 hb2
   have y0:w2.cell? ⟨w.heap.size,0,none⟩=some (I O W):=bxc i_w2 rfl
   have y1:w2.cell? ⟨w.heap.size,1,none⟩=some (I O H):=bxc i_w2 rfl
   have y2:w2.cell? ⟨w.heap.size,2,none⟩=some (Sz a0 n c):=bxc i_w2 rfl
   have y3:w2.cell? ⟨w.heap.size,3,none⟩=some (I O x3):=bxc i_w2 rfl
   have y4:w2.cell? ⟨w.heap.size,4,none⟩=some (I O x4):=bxc i_w2 rfl
   have y5:w2.cell? ⟨w.heap.size,5,none⟩=some (.bool x5):=bxc i_w2 rfl
   clear i_w2
   have HB2:Hid (Below W1.heap.size W1 w2):=hb2
   clear hb2
   go_wp2_with fail
   refine(qc.out _ b2).mono ?_
   rintro e w3 ⟨k,kc,rfl,ho3,hb3⟩
   have HB3:Hid (Below W1.heap.size W1 w3):=HB2.out.trans (hb3.mono HB2.out.size)
   have z3:=hb3.size
   have hk3:w2.heap.size≤k∧k < w3.heap.size:=ho3.lt k rfl
   have HO3:Hid (w3.ownsRow w2.heap.size 3 1 (Sz (some ⟨k,0,none⟩) n kc) n (zs.map (Value.int .i64))):=ho3
   clear ho3 hb3 y0 y1 y2 y3 y4 y5
   rw[Int.toNat_natCast] at hae hz1
   rw[Int.toNat_natCast] at hz1
   have hb:=HHB.out
   try rw[Int.toNat_natCast] at hb
   obtain⟨hcx0,hcx1,hcy0,hcy1,hcw⟩:=cursB_iff.1 HN.out.2.2.2
   have hn0:0 < n:=by omega
   obtain⟨pp,hpp⟩:∃ pp,pp=Y1*W:=⟨_,rfl⟩
   have hpi:(Y1:Int)*(W:Int)=(pp:Int):=by rw[hpp];simp
   have hai:(pp:Int)+(X1:Int)=(a:Int):=by rw[hae,hpp];simp
   have hfit:a+2≤n:=by
     have h1:(Y1+1)*W≤H*W:=Nat.mul_le_mul_right _ (by omega)
     rw[Nat.add_mul,Nat.one_mul] at h1
     rw[hae,HN.out.1,Nat.mul_comm W H];omega
   have wpp:IntKind.i64.wrap (pp:Int)=(pp:Int):=wrap_i64_in _ (by omega) (by omega)
   have wa:IntKind.i64.wrap (a:Int)=(a:Int):=wrap_i64_in _ (by omega) (by omega)
   have wa1:IntKind.i64.wrap ((a:Int)+2)=(a:Int)+2:=wrap_i64_in _ (by omega) (by omega)
   have wX1:IntKind.i64.wrap ((X1:Int)+2)=(X1:Int)+2:=wrap_i64_in _ (by omega) (by omega)
   have wa2:IntKind.i64.wrap ((a:Int)+1)=(a:Int)+1:=wrap_i64_in _ (by omega) (by omega)
   have wW1:IntKind.i64.wrap ((W:Int) - 1)=(W:Int) - 1:=wrap_i64_in _ (by omega) (by omega)
   have wH1:IntKind.i64.wrap ((H:Int) - 1)=(H:Int) - 1:=wrap_i64_in _ (by omega) (by omega)
   have wY1:IntKind.i64.wrap (x4+1)=x4+1:=wrap_i64_in _ (by omega) (by omega)
   have HG0:Hid (gokB ((W:Int),(H:Int),zs,x3,x4,x5,())=true):=HG.out
   have HZ1:Hid (gokB ((W:Int),(H:Int),z1,(X1:Int),(Y1:Int),false,())=true):=by
     show _=_
     rw[gok_three (gok_sides HG.out) (by rw[hz1.2];exact HN.out.1),hz1.1]
     exact cursB_iff.2 ⟨by omega,by omega,by omega,hY1,fun h=>by cases h⟩
   have HL1:Hid (z1.length=n):=hz1.2
   have HCL:Hid ((clrM (a:Int) ((a:Int)+2) z1).length=n):=by show _=_;rw[clrM_len];exact hz1.2
   have HPZ:Hid (putZ a 2 r (-1) (clrM (a:Int) ((a:Int)+2) z1)=((clrM (a:Int) ((a:Int)+2) z1).set a r).set (a+1) (-1)∧(putZ a 2 r (-1) (clrM (a:Int) ((a:Int)+2) z1)).length=n):=⟨(put_set2 (h:=-1) (by rw[HCL.out];exact hfit)).symm,by rw[putZ_len (by omega) (by rw[HCL.out];exact hfit)];exact HCL.out⟩
   have hzl:w.heap.size < w3.heap.size:=by omega
   have O4:OutAt (w3.alloc (.cells #[I O W,I O H,Sz (some ⟨k,0,none⟩) n kc,I O x3,I O x4,.bool x5] 29)) w2.heap.size w3.heap.size k n kc W H x3 x4 x5 zs:=⟨heap_alloc_new w3 _,HO3.out.alloc _,HN.out.2.1,z3,by omega⟩
   obtain⟨W4,hW4⟩:∃ V,V=w3.alloc (.cells #[I O W,I O H,Sz (some ⟨k,0,none⟩) n kc,I O x3,I O x4,.bool x5] 29):=⟨_,rfl⟩
   rw[← hW4] at O4
   have B4:Below W1.heap.size W1 W4:=by rw[hW4];exact HB3.out.alloc HB3.out.size _
   have HW4:Hid (W4=_):=hW4
   have ZQ:Hid (w.heap.size+1 < w2.heap.size∧w2.heap.size≤w3.heap.size∧W1.heap.size≤w2.heap.size):=⟨by omega,z3,by omega⟩
   have HO4:Hid (OutAt W4 w2.heap.size w3.heap.size k n kc W H x3 x4 x5 zs):=O4
   have HB4:Hid (Below W1.heap.size W1 W4):=B4
   clear hW4 O4 B4 hz1 hae hpp hk3 hcw
   have h5:(x5=false∧x3=(W:Int) - 1∧X1=0∧(Y1:Int)=clampG (x4+1) H∧x4=(H:Int) - 1∧z1=scr 32 W zs)∨(x5=false∧x3=(W:Int) - 1∧X1=0∧(Y1:Int)=clampG (x4+1) H∧x4≠(H:Int) - 1∧z1=zs):=by
     obtain⟨h1,h1',h2,h3,h4⟩:=hb
     by_cases hy:x4=(H:Int) - 1
     · rw[if_pos hy] at h4
       exact .inl ⟨h1,h1',h2,h3,hy,h4⟩
     · rw[if_neg hy] at h4
       exact .inr ⟨h1,h1',h2,h3,hy,h4⟩
   clear hb
   rcases h5 with ⟨k1,k6,k2,k3,k4,k5⟩ | ⟨k1,k6,k2,k3,k4,k5⟩
   · subst k1
     have dk:(x3==(W:Int) - 1)=true:=by simp[k6]
     clear k6
     have dy:(x4==(H:Int) - 1)=true:=by simp[k4]
     subst k2
     have c0:clampG 0 (W:Int)=0:=by unfold clampG;omega
     have i4:=HBX.out W4 HB4.out
     have s0:W4.cell? ⟨w.heap.size,0,none⟩=some (I O W):=bxc i4 rfl
     have s1:W4.cell? ⟨w.heap.size,1,none⟩=some (I O H):=bxc i4 rfl
     have s3:W4.cell? ⟨w.heap.size,3,none⟩=some (I O x3):=bxc i4 rfl
     have s4:W4.cell? ⟨w.heap.size,4,none⟩=some (I O x4):=bxc i4 rfl
     have s5:W4.cell? ⟨w.heap.size,5,none⟩=some (.bool false):=bxc i4 rfl
     have g0:W4.cell? ⟨w3.heap.size,0,none⟩=some (I O W):=bxc HO4.out.box rfl
     have g1:W4.cell? ⟨w3.heap.size,1,none⟩=some (I O H):=bxc HO4.out.box rfl
     have g2:W4.cell? ⟨w3.heap.size,2,none⟩=some (Sz (some ⟨k,0,none⟩) n kc):=bxc HO4.out.box rfl
     have g3:W4.cell? ⟨w3.heap.size,3,none⟩=some (I O x3):=bxc HO4.out.box rfl
     have g4:W4.cell? ⟨w3.heap.size,4,none⟩=some (I O x4):=bxc HO4.out.box rfl
     have g5:W4.cell? ⟨w3.heap.size,5,none⟩=some (.bool false):=bxc HO4.out.box rfl
     rw[HW4.out] at g0 g1 g2 g3 g4 g5 s0 s1 s3 s4 s5
     have qS:Hid (Calls Tryd.prog 71 #[.agg #[I O W,I O H,Sz (some ⟨k,0,none⟩) n kc,I O x3,I O x4,.bool false]] W4 fun e w'=>∃ k' kc',e=.returned (.agg #[I O W,I O H,Sz (some ⟨k',0,none⟩) n kc',I O x3,I O x4,.bool false])∧w'.ownsRow W4.heap.size 3 1 (Sz (some ⟨k',0,none⟩) n kc') n (z1.map (Value.int .i64))∧Below W4.heap.size W4 w'):=by rw[k5];exact scroll_out W4 HG0.out HO4.out.reads
     have HGZ:Hid (gokB ((W:Int),(H:Int),z1,x3,x4,false,())=true):=by
       show _=_
       have h1:=gok_parts HG0.out
       rw[gok_three (gok_sides HG0.out) (by rw[HL1.out];exact HN.out.1),(gok_cells HZ1.out)]
       exact HN.out.2.2.2
     clear k4 k5
     go_wp2_with fail
     rw[← HW4.out]
     refine qS.out.mono ?_
     rintro e w5 ⟨k5,kc5,rfl,hr5,hb5⟩
     have O5:=HO4.out.put (X':=x3) (Y':=x4) (wr':=false) hb5 hr5 HL1.out
     have j5:=(hb5.block _ (box_lt HO4.out.box)).trans HO4.out.box
     obtain⟨V5,hV5⟩:∃ V,V=w5.setRow w3.heap.size #[I O W,I O H,Sz (some ⟨k5,0,none⟩) n kc5,I O x3,I O x4,.bool false]:=⟨_,rfl⟩
     rw[← hV5] at O5
     have HO5:Hid (OutAt V5 w2.heap.size w3.heap.size k5 n kc5 W H x3 x4 false z1):=O5
     have HB5:Hid (Below W1.heap.size W1 V5):=by show Below _ _ _;rw[hV5];exact below_setRow (HB4.out.trans (hb5.mono HB4.out.size)) (by have:=ZQ.out;omega) _
     have HV5:Hid (V5=_):=hV5
     clear g0 g1 g2 g3 g4 g5 s0 s1 s3 s4 s5 O5 hV5 hr5 hb5 i4
     have i5:=HBX.out V5 HB5.out
     have s0:V5.cell? ⟨w.heap.size,0,none⟩=some (I O W):=bxc i5 rfl
     have s1:V5.cell? ⟨w.heap.size,1,none⟩=some (I O H):=bxc i5 rfl
     have s3:V5.cell? ⟨w.heap.size,3,none⟩=some (I O x3):=bxc i5 rfl
     have s4:V5.cell? ⟨w.heap.size,4,none⟩=some (I O x4):=bxc i5 rfl
     have s5:V5.cell? ⟨w.heap.size,5,none⟩=some (.bool false):=bxc i5 rfl
     have g0:V5.cell? ⟨w3.heap.size,0,none⟩=some (I O W):=bxc HO5.out.box rfl
     have g1:V5.cell? ⟨w3.heap.size,1,none⟩=some (I O H):=bxc HO5.out.box rfl
     have g2:V5.cell? ⟨w3.heap.size,2,none⟩=some (Sz (some ⟨k5,0,none⟩) n kc5):=bxc HO5.out.box rfl
     have g3:V5.cell? ⟨w3.heap.size,3,none⟩=some (I O x3):=bxc HO5.out.box rfl
     have g4:V5.cell? ⟨w3.heap.size,4,none⟩=some (I O x4):=bxc HO5.out.box rfl
     have g5:V5.cell? ⟨w3.heap.size,5,none⟩=some (.bool false):=bxc HO5.out.box rfl
     rw[HV5.out] at g0 g1 g2 g3 g4 g5 s0 s1 s3 s4 s5
     have qG:Hid (Calls Tryd.prog 44 #[.agg #[I O W,I O H,Sz (some ⟨k5,0,none⟩) n kc5,I O x3,I O x4,.bool false],I O 0,I O (x4+1)] V5 fun e w'=>∃ k' kc',e=.returned (.agg #[I O W,I O H,Sz (some ⟨k',0,none⟩) n kc',I O 0,I O (Y1:Int),.bool false])∧w'.ownsRow V5.heap.size 3 1 (Sz (some ⟨k',0,none⟩) n kc') n (z1.map (Value.int .i64))∧Below V5.heap.size V5 w'):=by
       have:=go_out 0 (x4+1) V5 HGZ.out HO5.out.reads
       rw[c0,← k3] at this;exact this
     clear k3 c0
     go_wp2_with (refine wpList_store_row rfl _ _ _ rfl _ _ rfl rfl _ _ j5 (by kernel_rfl) rfl (by simp[Value.oneCell']) ?_)
     rw[← HV5.out]
     refine qG.out.mono ?_
     rintro e w6 ⟨k6,kc6,rfl,hr6,hb6⟩
     have O6:=HO5.out.put (X':=0) (Y':=(Y1:Int)) (wr':=false) hb6 hr6 HL1.out
     have j6:=(hb6.block _ (box_lt HO5.out.box)).trans HO5.out.box
     obtain⟨V6,hV6⟩:∃ V,V=w6.setRow w3.heap.size #[I O W,I O H,Sz (some ⟨k6,0,none⟩) n kc6,I O 0,I O (Y1:Int),.bool false]:=⟨_,rfl⟩
     rw[← hV6] at O6
     have HO6:Hid (OutAt V6 w2.heap.size w3.heap.size k6 n kc6 W H 0 (Y1:Int) false z1):=O6
     have HB6:Hid (Below W1.heap.size W1 V6):=by show Below _ _ _;rw[hV6];exact below_setRow (HB5.out.trans (hb6.mono HB5.out.size)) (by have:=ZQ.out;omega) _
     have HV6:Hid (V6=_):=hV6
     clear g0 g1 g2 g3 g4 g5 s0 s1 s3 s4 s5 O6 hV6 hr6 hb6 i5
     have i6:=HBX.out V6 HB6.out
     have s0:V6.cell? ⟨w.heap.size,0,none⟩=some (I O W):=bxc i6 rfl
     have s1:V6.cell? ⟨w.heap.size,1,none⟩=some (I O H):=bxc i6 rfl
     have s3:V6.cell? ⟨w.heap.size,3,none⟩=some (I O x3):=bxc i6 rfl
     have s4:V6.cell? ⟨w.heap.size,4,none⟩=some (I O x4):=bxc i6 rfl
     have s5:V6.cell? ⟨w.heap.size,5,none⟩=some (.bool false):=bxc i6 rfl
     have g0:V6.cell? ⟨w3.heap.size,0,none⟩=some (I O W):=bxc HO6.out.box rfl
     have g1:V6.cell? ⟨w3.heap.size,1,none⟩=some (I O H):=bxc HO6.out.box rfl
     have g2:V6.cell? ⟨w3.heap.size,2,none⟩=some (Sz (some ⟨k6,0,none⟩) n kc6):=bxc HO6.out.box rfl
     have g3:V6.cell? ⟨w3.heap.size,3,none⟩=some (I O 0):=bxc HO6.out.box rfl
     have g4:V6.cell? ⟨w3.heap.size,4,none⟩=some (I O (Y1:Int)):=bxc HO6.out.box rfl
     have g5:V6.cell? ⟨w3.heap.size,5,none⟩=some (.bool false):=bxc HO6.out.box rfl
     rw[HV6.out] at g0 g1 g2 g3 g4 g5 s0 s1 s3 s4 s5
     have hpa:(pp:Int)=(a:Int):=by omega
     have qC:Hid (Calls Tryd.prog 79 #[.agg #[I O W,I O H,Sz (some ⟨k6,0,none⟩) n kc6,I O 0,I O (Y1:Int),.bool false],I O (a:Int),I O ((a:Int)+2)] V6 fun e w'=>∃ k' kc',e=.returned (.agg #[I O W,I O H,Sz (some ⟨k',0,none⟩) n kc',I O 0,I O (Y1:Int),.bool false])∧w'.ownsRow V6.heap.size 3 1 (Sz (some ⟨k',0,none⟩) n kc') n ((clrM (a:Int) ((a:Int)+2) z1).map (Value.int .i64))∧Below V6.heap.size V6 w'):=clear_out (a:Int) ((a:Int)+2) V6 HZ1.out HO6.out.reads
     go_wp2_with (refine wpList_store_row rfl _ _ _ rfl _ _ rfl rfl _ _ j6 (by kernel_rfl) rfl (by simp[Value.oneCell']) ?_)
     rw[← HV6.out]
     refine qC.out.mono ?_
     rintro e w7 ⟨k7,kc7,rfl,hr7,hb7⟩
     have O7:=HO6.out.put (X':=0) (Y':=(Y1:Int)) (wr':=false) hb7 hr7 HCL.out
     have j7:=(hb7.block _ (box_lt HO6.out.box)).trans HO6.out.box
     obtain⟨V7,hV7⟩:∃ V,V=w7.setRow w3.heap.size #[I O W,I O H,Sz (some ⟨k7,0,none⟩) n kc7,I O 0,I O (Y1:Int),.bool false]:=⟨_,rfl⟩
     rw[← hV7] at O7
     have HO7:Hid (OutAt V7 w2.heap.size w3.heap.size k7 n kc7 W H 0 (Y1:Int) false (clrM (a:Int) ((a:Int)+2) z1)):=O7
     have HB7:Hid (Below W1.heap.size W1 V7):=by show Below _ _ _;rw[hV7];exact below_setRow (HB6.out.trans (hb7.mono HB6.out.size)) (by have:=ZQ.out;omega) _
     have HV7:Hid (V7=_):=hV7
     clear g0 g1 g2 g3 g4 g5 s0 s1 s3 s4 s5 O7 hV7 hr7 hb7 i6
     have hka:k7≠w3.heap.size:=fun e=>HO7.out.ne e.symm
     have hks:k7≠w.heap.size:=by have h1:=(HO7.out.row.lt k7 rfl).1;have h2:=ZQ.out;omega
     have hqs:w3.heap.size≠w.heap.size:=by have h2:=ZQ.out;omega
     have g2:V7.cell? ⟨w3.heap.size,2,none⟩=some (Sz (some ⟨k7,0,none⟩) n kc7):=bxc HO7.out.box rfl
     obtain⟨ua,ca⟩:=HO7.out.cell (a:=a) (by omega)
     have fa:=HO7.out.row.frozenAt a
     have O8:OutAt (V7.setCell ⟨k7,a,none⟩ (I O r)) w2.heap.size w3.heap.size k7 n kc7 W H 0 (Y1:Int) false ((clrM (a:Int) ((a:Int)+2) z1).set a r):=HO7.out.setZ r
     have B8:Below W1.heap.size W1 (V7.setCell ⟨k7,a,none⟩ (I O r)):=HB7.out.setCell (p:=⟨k7,a,none⟩) (by have h1:=(HO7.out.row.lt k7 rfl).1;have h2:=ZQ.out;show W1.heap.size≤k7;omega) _
     have g2b:(V7.setCell ⟨k7,a,none⟩ (I O r)).cell? ⟨w3.heap.size,2,none⟩=some (Sz (some ⟨k7,0,none⟩) n kc7):=bxc O8.box rfl
     obtain⟨ub,cb⟩:=O8.cell (a:=a+1) (by omega)
     have fb:=O8.row.frozenAt (a+1)
     have O9:OutAt ((V7.setCell ⟨k7,a,none⟩ (I O r)).setCell ⟨k7,a+1,none⟩ (I O (-1))) w2.heap.size w3.heap.size k7 n kc7 W H 0 (Y1:Int) false (((clrM (a:Int) ((a:Int)+2) z1).set a r).set (a+1) (-1)):=O8.setZ (-1)
     have B9:Below W1.heap.size W1 ((V7.setCell ⟨k7,a,none⟩ (I O r)).setCell ⟨k7,a+1,none⟩ (I O (-1))):=B8.setCell (p:=⟨k7,a+1,none⟩) (by have h1:=(HO7.out.row.lt k7 rfl).1;have h2:=ZQ.out;show W1.heap.size≤k7;omega) _
     have x3:((V7.setCell ⟨k7,a,none⟩ (I O r)).setCell ⟨k7,a+1,none⟩ (I O (-1))).cell? ⟨w3.heap.size,3,none⟩=some (I O 0):=bxc O9.box rfl
     have fx3:((V7.setCell ⟨k7,a,none⟩ (I O r)).setCell ⟨k7,a+1,none⟩ (I O (-1))).frozen? ⟨w3.heap.size,3,none⟩=false:=box_frozen O9.box
     have s0:((V7.setCell ⟨k7,a,none⟩ (I O r)).setCell ⟨k7,a+1,none⟩ (I O (-1))).cell? ⟨w.heap.size,0,none⟩=some (I O W):=bxc (HBX.out _ B9) rfl
     have HOL:Hid (OutAt ((V7.setCell ⟨k7,a,none⟩ (I O r)).setCell ⟨k7,a+1,none⟩ (I O (-1))) w2.heap.size w3.heap.size k7 n kc7 W H 0 (Y1:Int) false (((clrM (a:Int) ((a:Int)+2) z1).set a r).set (a+1) (-1))):=O9
     have HBL:Hid (Below W1.heap.size W1 ((V7.setCell ⟨k7,a,none⟩ (I O r)).setCell ⟨k7,a+1,none⟩ (I O (-1)))):=B9
     have HFT:Hid (a+2≤n):=hfit
     have ja:(a:Int) < (n:Int):=by omega
     have ja1:(a:Int)+1 < (n:Int):=by omega
     have ja2:((a:Int)+1).toNat=a+1:=by omega
     have ja3:(0:Int)≤(a:Int)+1:=by omega
     clear O8 B8 O9 B9
     rcases hXN with ⟨q1,q2,q3⟩ | ⟨q1,q2,q3⟩
     · have de:decide ((W:Int)≤2)=true:=decide_eq_true (by simp at q1;omega)
       subst q2
       subst q3
       have m5:(((V7.setCell ⟨k7,a,none⟩ (I O r)).setCell ⟨k7,a+1,none⟩ (I O (-1))).setCell ⟨w3.heap.size,3,none⟩ (I O ((W:Int) - 1))).cell? ⟨w3.heap.size,5,none⟩=some (.bool false):=bxc (HOL.out.setX ((W:Int) - 1)).box rfl
       have mf5:(((V7.setCell ⟨k7,a,none⟩ (I O r)).setCell ⟨k7,a+1,none⟩ (I O (-1))).setCell ⟨w3.heap.size,3,none⟩ (I O ((W:Int) - 1))).frozen? ⟨w3.heap.size,5,none⟩=false:=box_frozen (HOL.out.setX ((W:Int) - 1)).box
       have OE:=(HOL.out.setX ((W:Int) - 1)).setWr true
       have BE:Below W1.heap.size W1 ((((V7.setCell ⟨k7,a,none⟩ (I O r)).setCell ⟨k7,a+1,none⟩ (I O (-1))).setCell ⟨w3.heap.size,3,none⟩ (I O ((W:Int) - 1))).setCell ⟨w3.heap.size,5,none⟩ (.bool true)):=(HBL.out.setCell (p:=⟨w3.heap.size,3,none⟩) (by have h2:=ZQ.out;show W1.heap.size≤w3.heap.size;omega) _).setCell (p:=⟨w3.heap.size,5,none⟩) (by have h2:=ZQ.out;show W1.heap.size≤w3.heap.size;omega) _
       have e0:((((V7.setCell ⟨k7,a,none⟩ (I O r)).setCell ⟨k7,a+1,none⟩ (I O (-1))).setCell ⟨w3.heap.size,3,none⟩ (I O ((W:Int) - 1))).setCell ⟨w3.heap.size,5,none⟩ (.bool true)).cell? ⟨w3.heap.size,0,none⟩=some (I O W):=bxc OE.box rfl
       have e1:((((V7.setCell ⟨k7,a,none⟩ (I O r)).setCell ⟨k7,a+1,none⟩ (I O (-1))).setCell ⟨w3.heap.size,3,none⟩ (I O ((W:Int) - 1))).setCell ⟨w3.heap.size,5,none⟩ (.bool true)).cell? ⟨w3.heap.size,1,none⟩=some (I O H):=bxc OE.box rfl
       have e2:((((V7.setCell ⟨k7,a,none⟩ (I O r)).setCell ⟨k7,a+1,none⟩ (I O (-1))).setCell ⟨w3.heap.size,3,none⟩ (I O ((W:Int) - 1))).setCell ⟨w3.heap.size,5,none⟩ (.bool true)).cell? ⟨w3.heap.size,2,none⟩=some (Sz (some ⟨k7,0,none⟩) n kc7):=bxc OE.box rfl
       have e3:((((V7.setCell ⟨k7,a,none⟩ (I O r)).setCell ⟨k7,a+1,none⟩ (I O (-1))).setCell ⟨w3.heap.size,3,none⟩ (I O ((W:Int) - 1))).setCell ⟨w3.heap.size,5,none⟩ (.bool true)).cell? ⟨w3.heap.size,3,none⟩=some (I O ((W:Int) - 1)):=bxc OE.box rfl
       have e4:((((V7.setCell ⟨k7,a,none⟩ (I O r)).setCell ⟨k7,a+1,none⟩ (I O (-1))).setCell ⟨w3.heap.size,3,none⟩ (I O ((W:Int) - 1))).setCell ⟨w3.heap.size,5,none⟩ (.bool true)).cell? ⟨w3.heap.size,4,none⟩=some (I O (Y1:Int)):=bxc OE.box rfl
       have e5:((((V7.setCell ⟨k7,a,none⟩ (I O r)).setCell ⟨k7,a+1,none⟩ (I O (-1))).setCell ⟨w3.heap.size,3,none⟩ (I O ((W:Int) - 1))).setCell ⟨w3.heap.size,5,none⟩ (.bool true)).cell? ⟨w3.heap.size,5,none⟩=some (.bool true):=bxc OE.box rfl
       have jr:=HBR.out _ BE
       have HLD:(loadVar 29 ⟨w.heap.size+1,0,none⟩).run Tryd.prog (((((V7.setCell ⟨k7,a,none⟩ (I O r)).setCell ⟨k7,a+1,none⟩ (I O (-1))).setCell ⟨w3.heap.size,3,none⟩ (I O ((W:Int) - 1))).setCell ⟨w3.heap.size,5,none⟩ (.bool true)).setRow (w.heap.size+1) #[I O W,I O H,Sz (some ⟨k7,0,none⟩) n kc7,I O ((W:Int) - 1),I O (Y1:Int),.bool true])=.ok (.agg #[I O W,I O H,Sz (some ⟨k7,0,none⟩) n kc7,I O ((W:Int) - 1),I O (Y1:Int),.bool true]) (((((V7.setCell ⟨k7,a,none⟩ (I O r)).setCell ⟨k7,a+1,none⟩ (I O (-1))).setCell ⟨w3.heap.size,3,none⟩ (I O ((W:Int) - 1))).setCell ⟨w3.heap.size,5,none⟩ (.bool true)).setRow (w.heap.size+1) #[I O W,I O H,Sz (some ⟨k7,0,none⟩) n kc7,I O ((W:Int) - 1),I O (Y1:Int),.bool true]):=run_loadVar_row _ _ _ _ _ _ _ (setRow_heap _ _ _ _ _ _ jr) Tryd.underlying29 rfl (by kernel_rfl)
       have HO:Hid ((((((V7.setCell ⟨k7,a,none⟩ (I O r)).setCell ⟨k7,a+1,none⟩ (I O (-1))).setCell ⟨w3.heap.size,3,none⟩ (I O ((W:Int) - 1))).setCell ⟨w3.heap.size,5,none⟩ (.bool true)).setRow (w.heap.size+1) #[I O W,I O H,Sz (some ⟨k7,0,none⟩) n kc7,I O ((W:Int) - 1),I O (Y1:Int),.bool true]).ownsRow w.heap.size 3 1 (Sz (some ⟨k7,0,none⟩) n kc7) n ((((clrM (a:Int) ((a:Int)+2) z1).set a r).set (a+1) (-1)).map (Value.int .i64))∧Below w.heap.size w (((((V7.setCell ⟨k7,a,none⟩ (I O r)).setCell ⟨k7,a+1,none⟩ (I O (-1))).setCell ⟨w3.heap.size,3,none⟩ (I O ((W:Int) - 1))).setCell ⟨w3.heap.size,5,none⟩ (.bool true)).setRow (w.heap.size+1) #[I O W,I O H,Sz (some ⟨k7,0,none⟩) n kc7,I O ((W:Int) - 1),I O (Y1:Int),.bool true])):=⟨own_low (own_offR OE.row (w.heap.size+1) #[I O W,I O H,Sz (some ⟨k7,0,none⟩) n kc7,I O ((W:Int) - 1),I O (Y1:Int),.bool true] (by have h1:=(OE.row.lt k7 rfl).1;have h2:=ZQ.out;omega)) (by have h2:=ZQ.out;omega),below_setRow (HB1.out.trans (BE.mono HB1.out.size)) (Nat.le_add_right _ 1) #[I O W,I O H,Sz (some ⟨k7,0,none⟩) n kc7,I O ((W:Int) - 1),I O (Y1:Int),.bool true]⟩
       clear OE BE q1 hka hks hqs
       go_wp2_with (first | (refine wpList_store_row rfl _ _ _ rfl w3.heap.size #[I O W,I O H,Sz (some ⟨k7,0,none⟩) n kc7,I O 0,I O (Y1:Int),.bool false] rfl rfl _ _ j7 (by kernel_rfl) rfl (by simp[Value.oneCell']) ?_;clear j7;rw[← HV7.out]) | (refine wpList_store_row rfl _ _ _ rfl (w.heap.size+1) #[I O W,I O H,Sz (some ⟨k7,0,none⟩) n kc7,I O ((W:Int) - 1),I O (Y1:Int),.bool true] rfl rfl 29 #[I O 0,I O 0,Sz none 0 0,I O 0,I O 0,.bool false] ?jrx (by kernel_rfl) rfl ?jry ?_;(case jrx=>exact jr);(case jry=>simp[Value.oneCell'])))
       (try simp only[Exit.inBlock,Exit.then])
       refine bodyPost_ret (by simp[results,Tryd.results61,asAddr,Act.put,HLD];try rfl) rfl ?_
       refine⟨_,[k7]++[],rfl,?_,by simp,HO.out.2⟩
       rw[HRR.out,HPZ.out.1]
       exact own_Grid (d:=((W:Int),(H:Int),(((clrM (a:Int) ((a:Int)+2) z1).set a r).set (a+1) (-1)),(((W:Int) - 1):Int),(Y1:Int),true,())) (F2:=[k7]) (own_ints (by rw[← HPZ.out.1];exact HPZ.out.2) HO.out.1)
     · have de:decide ((W:Int)≤2)=false:=decide_eq_false (by simp at q1;omega)
       subst q2
       subst q3
       have OE:=HOL.out.setX 2
       have BE:Below W1.heap.size W1 (((V7.setCell ⟨k7,a,none⟩ (I O r)).setCell ⟨k7,a+1,none⟩ (I O (-1))).setCell ⟨w3.heap.size,3,none⟩ (I O 2)):=HBL.out.setCell (p:=⟨w3.heap.size,3,none⟩) (by have h2:=ZQ.out;show W1.heap.size≤w3.heap.size;omega) _
       have e0:(((V7.setCell ⟨k7,a,none⟩ (I O r)).setCell ⟨k7,a+1,none⟩ (I O (-1))).setCell ⟨w3.heap.size,3,none⟩ (I O 2)).cell? ⟨w3.heap.size,0,none⟩=some (I O W):=bxc OE.box rfl
       have e1:(((V7.setCell ⟨k7,a,none⟩ (I O r)).setCell ⟨k7,a+1,none⟩ (I O (-1))).setCell ⟨w3.heap.size,3,none⟩ (I O 2)).cell? ⟨w3.heap.size,1,none⟩=some (I O H):=bxc OE.box rfl
       have e2:(((V7.setCell ⟨k7,a,none⟩ (I O r)).setCell ⟨k7,a+1,none⟩ (I O (-1))).setCell ⟨w3.heap.size,3,none⟩ (I O 2)).cell? ⟨w3.heap.size,2,none⟩=some (Sz (some ⟨k7,0,none⟩) n kc7):=bxc OE.box rfl
       have e3:(((V7.setCell ⟨k7,a,none⟩ (I O r)).setCell ⟨k7,a+1,none⟩ (I O (-1))).setCell ⟨w3.heap.size,3,none⟩ (I O 2)).cell? ⟨w3.heap.size,3,none⟩=some (I O 2):=bxc OE.box rfl
       have e4:(((V7.setCell ⟨k7,a,none⟩ (I O r)).setCell ⟨k7,a+1,none⟩ (I O (-1))).setCell ⟨w3.heap.size,3,none⟩ (I O 2)).cell? ⟨w3.heap.size,4,none⟩=some (I O (Y1:Int)):=bxc OE.box rfl
       have e5:(((V7.setCell ⟨k7,a,none⟩ (I O r)).setCell ⟨k7,a+1,none⟩ (I O (-1))).setCell ⟨w3.heap.size,3,none⟩ (I O 2)).cell? ⟨w3.heap.size,5,none⟩=some (.bool false):=bxc OE.box rfl
       have jr:=HBR.out _ BE
       have HLD:(loadVar 29 ⟨w.heap.size+1,0,none⟩).run Tryd.prog ((((V7.setCell ⟨k7,a,none⟩ (I O r)).setCell ⟨k7,a+1,none⟩ (I O (-1))).setCell ⟨w3.heap.size,3,none⟩ (I O 2)).setRow (w.heap.size+1) #[I O W,I O H,Sz (some ⟨k7,0,none⟩) n kc7,I O 2,I O (Y1:Int),.bool false])=.ok (.agg #[I O W,I O H,Sz (some ⟨k7,0,none⟩) n kc7,I O 2,I O (Y1:Int),.bool false]) ((((V7.setCell ⟨k7,a,none⟩ (I O r)).setCell ⟨k7,a+1,none⟩ (I O (-1))).setCell ⟨w3.heap.size,3,none⟩ (I O 2)).setRow (w.heap.size+1) #[I O W,I O H,Sz (some ⟨k7,0,none⟩) n kc7,I O 2,I O (Y1:Int),.bool false]):=run_loadVar_row _ _ _ _ _ _ _ (setRow_heap _ _ _ _ _ _ jr) Tryd.underlying29 rfl (by kernel_rfl)
       have HO:Hid (((((V7.setCell ⟨k7,a,none⟩ (I O r)).setCell ⟨k7,a+1,none⟩ (I O (-1))).setCell ⟨w3.heap.size,3,none⟩ (I O 2)).setRow (w.heap.size+1) #[I O W,I O H,Sz (some ⟨k7,0,none⟩) n kc7,I O 2,I O (Y1:Int),.bool false]).ownsRow w.heap.size 3 1 (Sz (some ⟨k7,0,none⟩) n kc7) n ((((clrM (a:Int) ((a:Int)+2) z1).set a r).set (a+1) (-1)).map (Value.int .i64))∧Below w.heap.size w ((((V7.setCell ⟨k7,a,none⟩ (I O r)).setCell ⟨k7,a+1,none⟩ (I O (-1))).setCell ⟨w3.heap.size,3,none⟩ (I O 2)).setRow (w.heap.size+1) #[I O W,I O H,Sz (some ⟨k7,0,none⟩) n kc7,I O 2,I O (Y1:Int),.bool false])):=⟨own_low (own_offR OE.row (w.heap.size+1) #[I O W,I O H,Sz (some ⟨k7,0,none⟩) n kc7,I O 2,I O (Y1:Int),.bool false] (by have h1:=(OE.row.lt k7 rfl).1;have h2:=ZQ.out;omega)) (by have h2:=ZQ.out;omega),below_setRow (HB1.out.trans (BE.mono HB1.out.size)) (Nat.le_add_right _ 1) #[I O W,I O H,Sz (some ⟨k7,0,none⟩) n kc7,I O 2,I O (Y1:Int),.bool false]⟩
       clear OE BE q1 hka hks hqs
       go_wp2_with (first | (refine wpList_store_row rfl _ _ _ rfl w3.heap.size #[I O W,I O H,Sz (some ⟨k7,0,none⟩) n kc7,I O 0,I O (Y1:Int),.bool false] rfl rfl _ _ j7 (by kernel_rfl) rfl (by simp[Value.oneCell']) ?_;clear j7;rw[← HV7.out]) | (refine wpList_store_row rfl _ _ _ rfl (w.heap.size+1) #[I O W,I O H,Sz (some ⟨k7,0,none⟩) n kc7,I O 2,I O (Y1:Int),.bool false] rfl rfl 29 #[I O 0,I O 0,Sz none 0 0,I O 0,I O 0,.bool false] ?jrx (by kernel_rfl) rfl ?jry ?_;(case jrx=>exact jr);(case jry=>simp[Value.oneCell'])))
       (try simp only[Exit.inBlock,Exit.then])
       refine bodyPost_ret (by simp[results,Tryd.results61,asAddr,Act.put,HLD];try rfl) rfl ?_
       refine⟨_,[k7]++[],rfl,?_,by simp,HO.out.2⟩
       rw[HRR.out,HPZ.out.1]
       exact own_Grid (d:=((W:Int),(H:Int),(((clrM (a:Int) ((a:Int)+2) z1).set a r).set (a+1) (-1)),(2:Int),(Y1:Int),false,())) (F2:=[k7]) (own_ints (by rw[← HPZ.out.1];exact HPZ.out.2) HO.out.1)
   · subst k1
     have dk:(x3==(W:Int) - 1)=true:=by simp[k6]
     clear k6
     have dy:(x4==(H:Int) - 1)=false:=by simp;exact k4
     subst k2
     have c0:clampG 0 (W:Int)=0:=by unfold clampG;omega
     have i4:=HBX.out W4 HB4.out
     have s0:W4.cell? ⟨w.heap.size,0,none⟩=some (I O W):=bxc i4 rfl
     have s1:W4.cell? ⟨w.heap.size,1,none⟩=some (I O H):=bxc i4 rfl
     have s3:W4.cell? ⟨w.heap.size,3,none⟩=some (I O x3):=bxc i4 rfl
     have s4:W4.cell? ⟨w.heap.size,4,none⟩=some (I O x4):=bxc i4 rfl
     have s5:W4.cell? ⟨w.heap.size,5,none⟩=some (.bool false):=bxc i4 rfl
     have g0:W4.cell? ⟨w3.heap.size,0,none⟩=some (I O W):=bxc HO4.out.box rfl
     have g1:W4.cell? ⟨w3.heap.size,1,none⟩=some (I O H):=bxc HO4.out.box rfl
     have g2:W4.cell? ⟨w3.heap.size,2,none⟩=some (Sz (some ⟨k,0,none⟩) n kc):=bxc HO4.out.box rfl
     have g3:W4.cell? ⟨w3.heap.size,3,none⟩=some (I O x3):=bxc HO4.out.box rfl
     have g4:W4.cell? ⟨w3.heap.size,4,none⟩=some (I O x4):=bxc HO4.out.box rfl
     have g5:W4.cell? ⟨w3.heap.size,5,none⟩=some (.bool false):=bxc HO4.out.box rfl
     rw[HW4.out] at g0 g1 g2 g3 g4 g5 s0 s1 s3 s4 s5
     have HGZ:Hid (gokB ((W:Int),(H:Int),z1,x3,x4,false,())=true):=by rw[k5];exact HG0.out
     subst k5
     clear k4
     have qG:Hid (Calls Tryd.prog 44 #[.agg #[I O W,I O H,Sz (some ⟨k,0,none⟩) n kc,I O x3,I O x4,.bool false],I O 0,I O (x4+1)] W4 fun e w'=>∃ k' kc',e=.returned (.agg #[I O W,I O H,Sz (some ⟨k',0,none⟩) n kc',I O 0,I O (Y1:Int),.bool false])∧w'.ownsRow W4.heap.size 3 1 (Sz (some ⟨k',0,none⟩) n kc') n (z1.map (Value.int .i64))∧Below W4.heap.size W4 w'):=by
       have:=go_out 0 (x4+1) W4 HGZ.out HO4.out.reads
       rw[c0,← k3] at this;exact this
     clear k3 c0
     go_wp2_with fail
     rw[← HW4.out]
     refine qG.out.mono ?_
     rintro e w6 ⟨k6,kc6,rfl,hr6,hb6⟩
     have O6:=HO4.out.put (X':=0) (Y':=(Y1:Int)) (wr':=false) hb6 hr6 HL1.out
     have j6:=(hb6.block _ (box_lt HO4.out.box)).trans HO4.out.box
     obtain⟨V6,hV6⟩:∃ V,V=w6.setRow w3.heap.size #[I O W,I O H,Sz (some ⟨k6,0,none⟩) n kc6,I O 0,I O (Y1:Int),.bool false]:=⟨_,rfl⟩
     rw[← hV6] at O6
     have HO6:Hid (OutAt V6 w2.heap.size w3.heap.size k6 n kc6 W H 0 (Y1:Int) false z1):=O6
     have HB6:Hid (Below W1.heap.size W1 V6):=by show Below _ _ _;rw[hV6];exact below_setRow (HB4.out.trans (hb6.mono HB4.out.size)) (by have:=ZQ.out;omega) _
     have HV6:Hid (V6=_):=hV6
     clear g0 g1 g2 g3 g4 g5 s0 s1 s3 s4 s5 O6 hV6 hr6 hb6 i4
     have i6:=HBX.out V6 HB6.out
     have s0:V6.cell? ⟨w.heap.size,0,none⟩=some (I O W):=bxc i6 rfl
     have s1:V6.cell? ⟨w.heap.size,1,none⟩=some (I O H):=bxc i6 rfl
     have s3:V6.cell? ⟨w.heap.size,3,none⟩=some (I O x3):=bxc i6 rfl
     have s4:V6.cell? ⟨w.heap.size,4,none⟩=some (I O x4):=bxc i6 rfl
     have s5:V6.cell? ⟨w.heap.size,5,none⟩=some (.bool false):=bxc i6 rfl
     have g0:V6.cell? ⟨w3.heap.size,0,none⟩=some (I O W):=bxc HO6.out.box rfl
     have g1:V6.cell? ⟨w3.heap.size,1,none⟩=some (I O H):=bxc HO6.out.box rfl
     have g2:V6.cell? ⟨w3.heap.size,2,none⟩=some (Sz (some ⟨k6,0,none⟩) n kc6):=bxc HO6.out.box rfl
     have g3:V6.cell? ⟨w3.heap.size,3,none⟩=some (I O 0):=bxc HO6.out.box rfl
     have g4:V6.cell? ⟨w3.heap.size,4,none⟩=some (I O (Y1:Int)):=bxc HO6.out.box rfl
     have g5:V6.cell? ⟨w3.heap.size,5,none⟩=some (.bool false):=bxc HO6.out.box rfl
     rw[HV6.out] at g0 g1 g2 g3 g4 g5 s0 s1 s3 s4 s5
     have hpa:(pp:Int)=(a:Int):=by omega
     have qC:Hid (Calls Tryd.prog 79 #[.agg #[I O W,I O H,Sz (some ⟨k6,0,none⟩) n kc6,I O 0,I O (Y1:Int),.bool false],I O (a:Int),I O ((a:Int)+2)] V6 fun e w'=>∃ k' kc',e=.returned (.agg #[I O W,I O H,Sz (some ⟨k',0,none⟩) n kc',I O 0,I O (Y1:Int),.bool false])∧w'.ownsRow V6.heap.size 3 1 (Sz (some ⟨k',0,none⟩) n kc') n ((clrM (a:Int) ((a:Int)+2) z1).map (Value.int .i64))∧Below V6.heap.size V6 w'):=clear_out (a:Int) ((a:Int)+2) V6 HZ1.out HO6.out.reads
     go_wp2_with (refine wpList_store_row rfl _ _ _ rfl _ _ rfl rfl _ _ j6 (by kernel_rfl) rfl (by simp[Value.oneCell']) ?_)
     rw[← HV6.out]
     refine qC.out.mono ?_
     rintro e w7 ⟨k7,kc7,rfl,hr7,hb7⟩
     have O7:=HO6.out.put (X':=0) (Y':=(Y1:Int)) (wr':=false) hb7 hr7 HCL.out
     have j7:=(hb7.block _ (box_lt HO6.out.box)).trans HO6.out.box
     obtain⟨V7,hV7⟩:∃ V,V=w7.setRow w3.heap.size #[I O W,I O H,Sz (some ⟨k7,0,none⟩) n kc7,I O 0,I O (Y1:Int),.bool false]:=⟨_,rfl⟩
     rw[← hV7] at O7
     have HO7:Hid (OutAt V7 w2.heap.size w3.heap.size k7 n kc7 W H 0 (Y1:Int) false (clrM (a:Int) ((a:Int)+2) z1)):=O7
     have HB7:Hid (Below W1.heap.size W1 V7):=by show Below _ _ _;rw[hV7];exact below_setRow (HB6.out.trans (hb7.mono HB6.out.size)) (by have:=ZQ.out;omega) _
     have HV7:Hid (V7=_):=hV7
     clear g0 g1 g2 g3 g4 g5 s0 s1 s3 s4 s5 O7 hV7 hr7 hb7 i6
     have hka:k7≠w3.heap.size:=fun e=>HO7.out.ne e.symm
     have hks:k7≠w.heap.size:=by have h1:=(HO7.out.row.lt k7 rfl).1;have h2:=ZQ.out;omega
     have hqs:w3.heap.size≠w.heap.size:=by have h2:=ZQ.out;omega
     have g2:V7.cell? ⟨w3.heap.size,2,none⟩=some (Sz (some ⟨k7,0,none⟩) n kc7):=bxc HO7.out.box rfl
     obtain⟨ua,ca⟩:=HO7.out.cell (a:=a) (by omega)
     have fa:=HO7.out.row.frozenAt a
     have O8:OutAt (V7.setCell ⟨k7,a,none⟩ (I O r)) w2.heap.size w3.heap.size k7 n kc7 W H 0 (Y1:Int) false ((clrM (a:Int) ((a:Int)+2) z1).set a r):=HO7.out.setZ r
     have B8:Below W1.heap.size W1 (V7.setCell ⟨k7,a,none⟩ (I O r)):=HB7.out.setCell (p:=⟨k7,a,none⟩) (by have h1:=(HO7.out.row.lt k7 rfl).1;have h2:=ZQ.out;show W1.heap.size≤k7;omega) _
     have g2b:(V7.setCell ⟨k7,a,none⟩ (I O r)).cell? ⟨w3.heap.size,2,none⟩=some (Sz (some ⟨k7,0,none⟩) n kc7):=bxc O8.box rfl
     obtain⟨ub,cb⟩:=O8.cell (a:=a+1) (by omega)
     have fb:=O8.row.frozenAt (a+1)
     have O9:OutAt ((V7.setCell ⟨k7,a,none⟩ (I O r)).setCell ⟨k7,a+1,none⟩ (I O (-1))) w2.heap.size w3.heap.size k7 n kc7 W H 0 (Y1:Int) false (((clrM (a:Int) ((a:Int)+2) z1).set a r).set (a+1) (-1)):=O8.setZ (-1)
     have B9:Below W1.heap.size W1 ((V7.setCell ⟨k7,a,none⟩ (I O r)).setCell ⟨k7,a+1,none⟩ (I O (-1))):=B8.setCell (p:=⟨k7,a+1,none⟩) (by have h1:=(HO7.out.row.lt k7 rfl).1;have h2:=ZQ.out;show W1.heap.size≤k7;omega) _
     have x3:((V7.setCell ⟨k7,a,none⟩ (I O r)).setCell ⟨k7,a+1,none⟩ (I O (-1))).cell? ⟨w3.heap.size,3,none⟩=some (I O 0):=bxc O9.box rfl
     have fx3:((V7.setCell ⟨k7,a,none⟩ (I O r)).setCell ⟨k7,a+1,none⟩ (I O (-1))).frozen? ⟨w3.heap.size,3,none⟩=false:=box_frozen O9.box
     have s0:((V7.setCell ⟨k7,a,none⟩ (I O r)).setCell ⟨k7,a+1,none⟩ (I O (-1))).cell? ⟨w.heap.size,0,none⟩=some (I O W):=bxc (HBX.out _ B9) rfl
     have HOL:Hid (OutAt ((V7.setCell ⟨k7,a,none⟩ (I O r)).setCell ⟨k7,a+1,none⟩ (I O (-1))) w2.heap.size w3.heap.size k7 n kc7 W H 0 (Y1:Int) false (((clrM (a:Int) ((a:Int)+2) z1).set a r).set (a+1) (-1))):=O9
     have HBL:Hid (Below W1.heap.size W1 ((V7.setCell ⟨k7,a,none⟩ (I O r)).setCell ⟨k7,a+1,none⟩ (I O (-1)))):=B9
     have HFT:Hid (a+2≤n):=hfit
     have ja:(a:Int) < (n:Int):=by omega
     have ja1:(a:Int)+1 < (n:Int):=by omega
     have ja2:((a:Int)+1).toNat=a+1:=by omega
     have ja3:(0:Int)≤(a:Int)+1:=by omega
     clear O8 B8 O9 B9
     rcases hXN with ⟨q1,q2,q3⟩ | ⟨q1,q2,q3⟩
     · have de:decide ((W:Int)≤2)=true:=decide_eq_true (by simp at q1;omega)
       subst q2
       subst q3
       have m5:(((V7.setCell ⟨k7,a,none⟩ (I O r)).setCell ⟨k7,a+1,none⟩ (I O (-1))).setCell ⟨w3.heap.size,3,none⟩ (I O ((W:Int) - 1))).cell? ⟨w3.heap.size,5,none⟩=some (.bool false):=bxc (HOL.out.setX ((W:Int) - 1)).box rfl
       have mf5:(((V7.setCell ⟨k7,a,none⟩ (I O r)).setCell ⟨k7,a+1,none⟩ (I O (-1))).setCell ⟨w3.heap.size,3,none⟩ (I O ((W:Int) - 1))).frozen? ⟨w3.heap.size,5,none⟩=false:=box_frozen (HOL.out.setX ((W:Int) - 1)).box
       have OE:=(HOL.out.setX ((W:Int) - 1)).setWr true
       have BE:Below W1.heap.size W1 ((((V7.setCell ⟨k7,a,none⟩ (I O r)).setCell ⟨k7,a+1,none⟩ (I O (-1))).setCell ⟨w3.heap.size,3,none⟩ (I O ((W:Int) - 1))).setCell ⟨w3.heap.size,5,none⟩ (.bool true)):=(HBL.out.setCell (p:=⟨w3.heap.size,3,none⟩) (by have h2:=ZQ.out;show W1.heap.size≤w3.heap.size;omega) _).setCell (p:=⟨w3.heap.size,5,none⟩) (by have h2:=ZQ.out;show W1.heap.size≤w3.heap.size;omega) _
       have e0:((((V7.setCell ⟨k7,a,none⟩ (I O r)).setCell ⟨k7,a+1,none⟩ (I O (-1))).setCell ⟨w3.heap.size,3,none⟩ (I O ((W:Int) - 1))).setCell ⟨w3.heap.size,5,none⟩ (.bool true)).cell? ⟨w3.heap.size,0,none⟩=some (I O W):=bxc OE.box rfl
       have e1:((((V7.setCell ⟨k7,a,none⟩ (I O r)).setCell ⟨k7,a+1,none⟩ (I O (-1))).setCell ⟨w3.heap.size,3,none⟩ (I O ((W:Int) - 1))).setCell ⟨w3.heap.size,5,none⟩ (.bool true)).cell? ⟨w3.heap.size,1,none⟩=some (I O H):=bxc OE.box rfl
       have e2:((((V7.setCell ⟨k7,a,none⟩ (I O r)).setCell ⟨k7,a+1,none⟩ (I O (-1))).setCell ⟨w3.heap.size,3,none⟩ (I O ((W:Int) - 1))).setCell ⟨w3.heap.size,5,none⟩ (.bool true)).cell? ⟨w3.heap.size,2,none⟩=some (Sz (some ⟨k7,0,none⟩) n kc7):=bxc OE.box rfl
       have e3:((((V7.setCell ⟨k7,a,none⟩ (I O r)).setCell ⟨k7,a+1,none⟩ (I O (-1))).setCell ⟨w3.heap.size,3,none⟩ (I O ((W:Int) - 1))).setCell ⟨w3.heap.size,5,none⟩ (.bool true)).cell? ⟨w3.heap.size,3,none⟩=some (I O ((W:Int) - 1)):=bxc OE.box rfl
       have e4:((((V7.setCell ⟨k7,a,none⟩ (I O r)).setCell ⟨k7,a+1,none⟩ (I O (-1))).setCell ⟨w3.heap.size,3,none⟩ (I O ((W:Int) - 1))).setCell ⟨w3.heap.size,5,none⟩ (.bool true)).cell? ⟨w3.heap.size,4,none⟩=some (I O (Y1:Int)):=bxc OE.box rfl
       have e5:((((V7.setCell ⟨k7,a,none⟩ (I O r)).setCell ⟨k7,a+1,none⟩ (I O (-1))).setCell ⟨w3.heap.size,3,none⟩ (I O ((W:Int) - 1))).setCell ⟨w3.heap.size,5,none⟩ (.bool true)).cell? ⟨w3.heap.size,5,none⟩=some (.bool true):=bxc OE.box rfl
       have jr:=HBR.out _ BE
       have HLD:(loadVar 29 ⟨w.heap.size+1,0,none⟩).run Tryd.prog (((((V7.setCell ⟨k7,a,none⟩ (I O r)).setCell ⟨k7,a+1,none⟩ (I O (-1))).setCell ⟨w3.heap.size,3,none⟩ (I O ((W:Int) - 1))).setCell ⟨w3.heap.size,5,none⟩ (.bool true)).setRow (w.heap.size+1) #[I O W,I O H,Sz (some ⟨k7,0,none⟩) n kc7,I O ((W:Int) - 1),I O (Y1:Int),.bool true])=.ok (.agg #[I O W,I O H,Sz (some ⟨k7,0,none⟩) n kc7,I O ((W:Int) - 1),I O (Y1:Int),.bool true]) (((((V7.setCell ⟨k7,a,none⟩ (I O r)).setCell ⟨k7,a+1,none⟩ (I O (-1))).setCell ⟨w3.heap.size,3,none⟩ (I O ((W:Int) - 1))).setCell ⟨w3.heap.size,5,none⟩ (.bool true)).setRow (w.heap.size+1) #[I O W,I O H,Sz (some ⟨k7,0,none⟩) n kc7,I O ((W:Int) - 1),I O (Y1:Int),.bool true]):=run_loadVar_row _ _ _ _ _ _ _ (setRow_heap _ _ _ _ _ _ jr) Tryd.underlying29 rfl (by kernel_rfl)
       have HO:Hid ((((((V7.setCell ⟨k7,a,none⟩ (I O r)).setCell ⟨k7,a+1,none⟩ (I O (-1))).setCell ⟨w3.heap.size,3,none⟩ (I O ((W:Int) - 1))).setCell ⟨w3.heap.size,5,none⟩ (.bool true)).setRow (w.heap.size+1) #[I O W,I O H,Sz (some ⟨k7,0,none⟩) n kc7,I O ((W:Int) - 1),I O (Y1:Int),.bool true]).ownsRow w.heap.size 3 1 (Sz (some ⟨k7,0,none⟩) n kc7) n ((((clrM (a:Int) ((a:Int)+2) z1).set a r).set (a+1) (-1)).map (Value.int .i64))∧Below w.heap.size w (((((V7.setCell ⟨k7,a,none⟩ (I O r)).setCell ⟨k7,a+1,none⟩ (I O (-1))).setCell ⟨w3.heap.size,3,none⟩ (I O ((W:Int) - 1))).setCell ⟨w3.heap.size,5,none⟩ (.bool true)).setRow (w.heap.size+1) #[I O W,I O H,Sz (some ⟨k7,0,none⟩) n kc7,I O ((W:Int) - 1),I O (Y1:Int),.bool true])):=⟨own_low (own_offR OE.row (w.heap.size+1) #[I O W,I O H,Sz (some ⟨k7,0,none⟩) n kc7,I O ((W:Int) - 1),I O (Y1:Int),.bool true] (by have h1:=(OE.row.lt k7 rfl).1;have h2:=ZQ.out;omega)) (by have h2:=ZQ.out;omega),below_setRow (HB1.out.trans (BE.mono HB1.out.size)) (Nat.le_add_right _ 1) #[I O W,I O H,Sz (some ⟨k7,0,none⟩) n kc7,I O ((W:Int) - 1),I O (Y1:Int),.bool true]⟩
       clear OE BE q1 hka hks hqs
       go_wp2_with (first | (refine wpList_store_row rfl _ _ _ rfl w3.heap.size #[I O W,I O H,Sz (some ⟨k7,0,none⟩) n kc7,I O 0,I O (Y1:Int),.bool false] rfl rfl _ _ j7 (by kernel_rfl) rfl (by simp[Value.oneCell']) ?_;clear j7;rw[← HV7.out]) | (refine wpList_store_row rfl _ _ _ rfl (w.heap.size+1) #[I O W,I O H,Sz (some ⟨k7,0,none⟩) n kc7,I O ((W:Int) - 1),I O (Y1:Int),.bool true] rfl rfl 29 #[I O 0,I O 0,Sz none 0 0,I O 0,I O 0,.bool false] ?jrx (by kernel_rfl) rfl ?jry ?_;(case jrx=>exact jr);(case jry=>simp[Value.oneCell'])))
       (try simp only[Exit.inBlock,Exit.then])
       refine bodyPost_ret (by simp[results,Tryd.results61,asAddr,Act.put,HLD];try rfl) rfl ?_
       refine⟨_,[k7]++[],rfl,?_,by simp,HO.out.2⟩
       rw[HRR.out,HPZ.out.1]
       exact own_Grid (d:=((W:Int),(H:Int),(((clrM (a:Int) ((a:Int)+2) z1).set a r).set (a+1) (-1)),(((W:Int) - 1):Int),(Y1:Int),true,())) (F2:=[k7]) (own_ints (by rw[← HPZ.out.1];exact HPZ.out.2) HO.out.1)
     · have de:decide ((W:Int)≤2)=false:=decide_eq_false (by simp at q1;omega)
       subst q2
       subst q3
       have OE:=HOL.out.setX 2
       have BE:Below W1.heap.size W1 (((V7.setCell ⟨k7,a,none⟩ (I O r)).setCell ⟨k7,a+1,none⟩ (I O (-1))).setCell ⟨w3.heap.size,3,none⟩ (I O 2)):=HBL.out.setCell (p:=⟨w3.heap.size,3,none⟩) (by have h2:=ZQ.out;show W1.heap.size≤w3.heap.size;omega) _
       have e0:(((V7.setCell ⟨k7,a,none⟩ (I O r)).setCell ⟨k7,a+1,none⟩ (I O (-1))).setCell ⟨w3.heap.size,3,none⟩ (I O 2)).cell? ⟨w3.heap.size,0,none⟩=some (I O W):=bxc OE.box rfl
       have e1:(((V7.setCell ⟨k7,a,none⟩ (I O r)).setCell ⟨k7,a+1,none⟩ (I O (-1))).setCell ⟨w3.heap.size,3,none⟩ (I O 2)).cell? ⟨w3.heap.size,1,none⟩=some (I O H):=bxc OE.box rfl
       have e2:(((V7.setCell ⟨k7,a,none⟩ (I O r)).setCell ⟨k7,a+1,none⟩ (I O (-1))).setCell ⟨w3.heap.size,3,none⟩ (I O 2)).cell? ⟨w3.heap.size,2,none⟩=some (Sz (some ⟨k7,0,none⟩) n kc7):=bxc OE.box rfl
       have e3:(((V7.setCell ⟨k7,a,none⟩ (I O r)).setCell ⟨k7,a+1,none⟩ (I O (-1))).setCell ⟨w3.heap.size,3,none⟩ (I O 2)).cell? ⟨w3.heap.size,3,none⟩=some (I O 2):=bxc OE.box rfl
       have e4:(((V7.setCell ⟨k7,a,none⟩ (I O r)).setCell ⟨k7,a+1,none⟩ (I O (-1))).setCell ⟨w3.heap.size,3,none⟩ (I O 2)).cell? ⟨w3.heap.size,4,none⟩=some (I O (Y1:Int)):=bxc OE.box rfl
       have e5:(((V7.setCell ⟨k7,a,none⟩ (I O r)).setCell ⟨k7,a+1,none⟩ (I O (-1))).setCell ⟨w3.heap.size,3,none⟩ (I O 2)).cell? ⟨w3.heap.size,5,none⟩=some (.bool false):=bxc OE.box rfl
       have jr:=HBR.out _ BE
       have HLD:(loadVar 29 ⟨w.heap.size+1,0,none⟩).run Tryd.prog ((((V7.setCell ⟨k7,a,none⟩ (I O r)).setCell ⟨k7,a+1,none⟩ (I O (-1))).setCell ⟨w3.heap.size,3,none⟩ (I O 2)).setRow (w.heap.size+1) #[I O W,I O H,Sz (some ⟨k7,0,none⟩) n kc7,I O 2,I O (Y1:Int),.bool false])=.ok (.agg #[I O W,I O H,Sz (some ⟨k7,0,none⟩) n kc7,I O 2,I O (Y1:Int),.bool false]) ((((V7.setCell ⟨k7,a,none⟩ (I O r)).setCell ⟨k7,a+1,none⟩ (I O (-1))).setCell ⟨w3.heap.size,3,none⟩ (I O 2)).setRow (w.heap.size+1) #[I O W,I O H,Sz (some ⟨k7,0,none⟩) n kc7,I O 2,I O (Y1:Int),.bool false]):=run_loadVar_row _ _ _ _ _ _ _ (setRow_heap _ _ _ _ _ _ jr) Tryd.underlying29 rfl (by kernel_rfl)
       have HO:Hid (((((V7.setCell ⟨k7,a,none⟩ (I O r)).setCell ⟨k7,a+1,none⟩ (I O (-1))).setCell ⟨w3.heap.size,3,none⟩ (I O 2)).setRow (w.heap.size+1) #[I O W,I O H,Sz (some ⟨k7,0,none⟩) n kc7,I O 2,I O (Y1:Int),.bool false]).ownsRow w.heap.size 3 1 (Sz (some ⟨k7,0,none⟩) n kc7) n ((((clrM (a:Int) ((a:Int)+2) z1).set a r).set (a+1) (-1)).map (Value.int .i64))∧Below w.heap.size w ((((V7.setCell ⟨k7,a,none⟩ (I O r)).setCell ⟨k7,a+1,none⟩ (I O (-1))).setCell ⟨w3.heap.size,3,none⟩ (I O 2)).setRow (w.heap.size+1) #[I O W,I O H,Sz (some ⟨k7,0,none⟩) n kc7,I O 2,I O (Y1:Int),.bool false])):=⟨own_low (own_offR OE.row (w.heap.size+1) #[I O W,I O H,Sz (some ⟨k7,0,none⟩) n kc7,I O 2,I O (Y1:Int),.bool false] (by have h1:=(OE.row.lt k7 rfl).1;have h2:=ZQ.out;omega)) (by have h2:=ZQ.out;omega),below_setRow (HB1.out.trans (BE.mono HB1.out.size)) (Nat.le_add_right _ 1) #[I O W,I O H,Sz (some ⟨k7,0,none⟩) n kc7,I O 2,I O (Y1:Int),.bool false]⟩
       clear OE BE q1 hka hks hqs
       go_wp2_with (first | (refine wpList_store_row rfl _ _ _ rfl w3.heap.size #[I O W,I O H,Sz (some ⟨k7,0,none⟩) n kc7,I O 0,I O (Y1:Int),.bool false] rfl rfl _ _ j7 (by kernel_rfl) rfl (by simp[Value.oneCell']) ?_;clear j7;rw[← HV7.out]) | (refine wpList_store_row rfl _ _ _ rfl (w.heap.size+1) #[I O W,I O H,Sz (some ⟨k7,0,none⟩) n kc7,I O 2,I O (Y1:Int),.bool false] rfl rfl 29 #[I O 0,I O 0,Sz none 0 0,I O 0,I O 0,.bool false] ?jrx (by kernel_rfl) rfl ?jry ?_;(case jrx=>exact jr);(case jry=>simp[Value.oneCell'])))
       (try simp only[Exit.inBlock,Exit.then])
       refine bodyPost_ret (by simp[results,Tryd.results61,asAddr,Act.put,HLD];try rfl) rfl ?_
       refine⟨_,[k7]++[],rfl,?_,by simp,HO.out.2⟩
       rw[HRR.out,HPZ.out.1]
       exact own_Grid (d:=((W:Int),(H:Int),(((clrM (a:Int) ((a:Int)+2) z1).set a r).set (a+1) (-1)),(2:Int),(Y1:Int),false,())) (F2:=[k7]) (own_ints (by rw[← HPZ.out.1];exact HPZ.out.2) HO.out.1)
end Go.Proofs.YthodinpflcbklaaDoor
