/-
  Parts of the road to VB, joined: GrSScroll.
-/
import Derived.Test.YthodinpflcbklaaDoorM8VB
import Derived.Test.YthodinpflcbklaaDoorM18VB
import Derived.Test.YthodinpflcbklaaDoorM12VB
import Derived.Deep.RegionHeld3
open Go.Value renaming int → I,slice → Sz
open Go.IntKind renaming i64 → O
open List renaming setIfInBounds_toArray → lA,getElem_toArray → lB,getElem_cons_succ → lC,getElem_cons_zero → lD,set_cons_zero → lE,set_cons_succ → lF
set_option linter.unusedVariables false
set_option linter.unusedSimpArgs false
set_option maxHeartbeats 40000000
namespace Go.Proofs.YthodinpflcbklaaDoor
open Go.RowKit
set_option maxRecDepth 100000 in
theorem specGridScroll_row (x0 x1 x3 x4:Int) (a:Option Addr) (n c:Nat) (x5:Bool) (zs:List Int) (R:GrD) (hR:R=ansG (x0,x1,zs,x3,x4,x5,()) (x0,x1,scr 32 x0.toNat zs,x3,x4,x5,())) (w:World) (hr:Reads (.sl .int) w [Sz a n c] zs) :
   Calls Tryd.prog 71 #[.agg #[I O x0,I O x1,Sz a n c,I O x3,I O x4,.bool x5]] w fun e w'=>∃ o F,e=.returned (.agg o.toArray)∧Own shGrid w' w.heap.size o R F∧F.Nodup∧Below w.heap.size w w'∧RowAns (gokB (x0,x1,zs,x3,x4,x5,())) w' w.heap.size n R o:=by
 have HRR:Hid (R=_):=hR
 clear hR
 obtain⟨hl,hrd,hc,hm⟩:=reads_ints hr
 unfold maxLen at hm
 obtain⟨W1,hW1⟩:∃ W,W=(w.alloc (.cells #[I O x0,I O x1,Sz a n c,I O x3,I O x4,.bool x5] 29)).alloc (.cells #[I O 0,I O 0,Sz none 0 0,I O 0,I O 0,.bool false] 29):=⟨_,rfl⟩
 have bW1:Below w.heap.size w W1:=by rw[hW1];exact((Below.refl _ _).alloc (Nat.le_refl _) _).alloc (by simp) _
 have zW1:W1.heap.size=w.heap.size+1+1:=by rw[hW1];simp
 have hbox:W1.heap[w.heap.size]?=some (.cells #[I O x0,I O x1,Sz a n c,I O x3,I O x4,.bool x5] 29 (0,0)):=by
   rw[hW1,heap_alloc_old _ _ (by simp)];exact heap_alloc_new w _
 have hbox1:W1.heap[w.heap.size+1]?=some (.cells #[I O 0,I O 0,Sz none 0 0,I O 0,I O 0,.bool false] 29 (0,0)):=by
   rw[hW1]
   have:=heap_alloc_new (w.alloc (.cells #[I O x0,I O x1,Sz a n c,I O x3,I O x4,.bool x5] 29)) (.cells #[I O 0,I O 0,Sz none 0 0,I O 0,I O 0,.bool false] 29)
   simpa using this
 have HBX:Hid (∀ w',Below W1.heap.size W1 w'→w'.heap[w.heap.size]?=some (.cells #[I O x0,I O x1,Sz a n c,I O x3,I O x4,.bool x5] 29 (0,0))):=fun w' h'=>(h'.block _ (by omega)).trans hbox
 have HBR:Hid (∀ w',Below W1.heap.size W1 w'→w'.heap[w.heap.size+1]?=some (.cells #[I O 0,I O 0,Sz none 0 0,I O 0,I O 0,.bool false] 29 (0,0))):=fun w' h'=>(h'.block _ (by omega)).trans hbox1
 have HR:Hid (Reads (.sl .int) w [Sz a n c] zs):=hr
 have qg:Hid (∀ w',Below w.heap.size w w'→Calls Tryd.prog 52 #[.agg #[I O x0,I O x1,Sz a n c,I O x3,I O x4,.bool x5]] w' fun e w''=>e=.returned (.bool (gokB (x0,x1,zs,x3,x4,x5,())))∧Below w'.heap.size w' w''):=fun w' h'=>specGok_any x0 x1 x3 x4 a n c x5 zs w' (hr.later h')
 have HW:Hid (W1=_):=hW1
 have HB1:Hid (Below w.heap.size w W1):=bW1
 have hb00:Below W1.heap.size W1 W1:=Below.refl _ _
 have i_W1:=HBX.out W1 hb00
 have y0:W1.cell? ⟨w.heap.size,0,none⟩=some (I O x0):=bxc i_W1 rfl
 have y1:W1.cell? ⟨w.heap.size,1,none⟩=some (I O x1):=bxc i_W1 rfl
 have y2:W1.cell? ⟨w.heap.size,2,none⟩=some (Sz a n c):=bxc i_W1 rfl
 have y3:W1.cell? ⟨w.heap.size,3,none⟩=some (I O x3):=bxc i_W1 rfl
 have y4:W1.cell? ⟨w.heap.size,4,none⟩=some (I O x4):=bxc i_W1 rfl
 have y5:W1.cell? ⟨w.heap.size,5,none⟩=some (.bool x5):=bxc i_W1 rfl
 clear i_W1
 clear hW1 hbox hbox1 hr hrd hl hb00
 by_cases hg:gokB (x0,x1,zs,x3,x4,x5,())=true
 rotate_left
 · have hg':gokB (x0,x1,zs,x3,x4,x5,())=false:=by simpa using hg
   have HG:Hid (gokB (x0,x1,zs,x3,x4,x5,())=false):=hg'
   rw[hg'] at qg
   clear hg hg'
   go_enter Tryd.func71,Tryd.ntmps71
   go_wp2_with fail
   rw[← HW.out]
   refine(qg.out _ HB1.out).mono ?_
   rintro e w2 ⟨rfl,hb2⟩
   have b2:=HB1.out.trans (hb2.mono HB1.out.size)
   have j0:=HBR.out w2 hb2
   have HLD:(loadVar 29 ⟨w.heap.size+1,0,none⟩).run Tryd.prog (w2.setRow (w.heap.size+1) #[I O 0,I O 0,Sz none 0 0,I O 0,I O 0,.bool false])=.ok (.agg #[I O 0,I O 0,Sz none 0 0,I O 0,I O 0,.bool false]) (w2.setRow (w.heap.size+1) #[I O 0,I O 0,Sz none 0 0,I O 0,I O 0,.bool false]):=run_loadVar_row _ _ _ _ _ _ _ (setRow_heap _ _ _ _ _ _ j0) Tryd.underlying29 rfl (by kernel_rfl)
   have HO:Hid (_):=below_setRow b2 (Nat.le_add_right _ 1) #[I O 0,I O 0,Sz none 0 0,I O 0,I O 0,.bool false]
   clear hb2 b2 y0 y1 y2 y3 y4 y5
   go_wp2_with (refine wpList_store_row rfl _ _ _ rfl _ _ rfl rfl _ _ j0 (by kernel_rfl) rfl (by simp[Value.oneCell']) ?_)
   (try simp only[Exit.inBlock,Exit.then])
   refine bodyPost_ret (by simp[results,Tryd.results71,asAddr,Act.put,HLD];try rfl) rfl ?_
   refine⟨_,[],rfl,?_,List.nodup_nil,HO.out,fun h=>by rw[HG.out] at h;cases h⟩
   rw[HRR.out,ansG_no HG.out]
   exact own_zeroG _ _
 · have HG:Hid (gokB (x0,x1,zs,x3,x4,x5,())=true):=hg
   rw[hg] at qg
   obtain⟨W,H,rfl,rfl,g1,g2,g3,g4,g5,hlen,hcl,hcu⟩:=gok_parts hg
   have hl:=(reads_ints HR.out).1
   have hn:n=W*H:=by omega
   have hmb:=mul_bd (x:=W) (y:=H) (by omega) (by omega) (by omega) (by omega)
   have hpr:(W:Int)*(H:Int)=(n:Int):=by rw[hn];simp
   rw[hpr] at hmb
   have HN:Hid (n=W*H∧zs.length=n∧cellsB zs W (W*H)=true∧cursB W H x3 x4 x5=true):=⟨hn,hl,hcl,hcu⟩
   have hn8:n≤8000:=by omega
   have qc:Hid (∀ w',Below w.heap.size w w'→Calls Tryd.prog 43 #[.agg #[I O W,I O H,Sz a n c,I O x3,I O x4,.bool x5]] w' fun e w''=>∃ k kc,e=.returned (.agg #[I O W,I O H,Sz (some ⟨k,0,none⟩) n kc,I O x3,I O x4,.bool x5])∧w''.ownsRow w'.heap.size 3 1 (Sz (some ⟨k,0,none⟩) n kc) n (zs.map (Value.int .i64))∧Below w'.heap.size w' w''):=fun w' h'=>specGcopy_any W H x3 x4 a n c x5 zs w' (HR.out.later h') (by omega) (by omega)
   clear hg hn hl hlen hcl hcu g5 hpr
   go_enter Tryd.func71,Tryd.ntmps71
   go_wp2_with fail
   rw[← HW.out]
   refine(qg.out _ HB1.out).mono ?_
   rintro e w2 ⟨rfl,hb2⟩
   have b2:=HB1.out.trans (hb2.mono HB1.out.size)
   have z2:=hb2.size
   clear y0 y1 y2 y3 y4 y5
   have i_w2:=HBX.out w2 hb2
   have y0:w2.cell? ⟨w.heap.size,0,none⟩=some (I O W):=bxc i_w2 rfl
   have y1:w2.cell? ⟨w.heap.size,1,none⟩=some (I O H):=bxc i_w2 rfl
   have y2:w2.cell? ⟨w.heap.size,2,none⟩=some (Sz a n c):=bxc i_w2 rfl
   have y3:w2.cell? ⟨w.heap.size,3,none⟩=some (I O x3):=bxc i_w2 rfl
   have y4:w2.cell? ⟨w.heap.size,4,none⟩=some (I O x4):=bxc i_w2 rfl
   have y5:w2.cell? ⟨w.heap.size,5,none⟩=some (.bool x5):=bxc i_w2 rfl
   clear i_w2
   have HB2:Hid (Below W1.heap.size W1 w2):=hb2
   clear hb2
   go_wp2_with fail
   refine(qc.out _ b2).mono ?_
   rintro e w3 ⟨k,kc,rfl,ho3,hb3⟩
   have HB3:Hid (Below W1.heap.size W1 w3):=HB2.out.trans (hb3.mono HB2.out.size)
   have z3:=hb3.size
   have hk3:w2.heap.size≤k∧k < w3.heap.size:=ho3.lt k rfl
   have HO3:Hid (w3.ownsRow w2.heap.size 3 1 (Sz (some ⟨k,0,none⟩) n kc) n (zs.map (Value.int .i64))):=ho3
   clear ho3 hb3 y0 y1 y2 y3 y4 y5
   obtain⟨W4,hW4⟩:∃ V,V=w3.alloc (.cells #[I O W,I O H,Sz (some ⟨k,0,none⟩) n kc,I O x3,I O x4,.bool x5] 29):=⟨_,rfl⟩
   have bW4:Below w3.heap.size w3 W4:=by rw[hW4];exact(Below.refl _ _).alloc (Nat.le_refl _) _
   have zW4:W4.heap.size=w3.heap.size+1:=by rw[hW4];simp
   have hbq:W4.heap[w3.heap.size]?=some (.cells #[I O W,I O H,Sz (some ⟨k,0,none⟩) n kc,I O x3,I O x4,.bool x5] 29 (0,0)):=by rw[hW4];exact heap_alloc_new w3 _
   have ho4:W4.ownsRow w2.heap.size 3 1 (Sz (some ⟨k,0,none⟩) n kc) n (zs.map (Value.int .i64)):=by rw[hW4];exact HO3.out.alloc _
   have HB4:Hid (Below W1.heap.size W1 W4):=HB3.out.trans (bW4.mono HB3.out.size)
   have HW4:Hid (W4=_):=hW4
   have hne:zs≠[]:=by
     intro h';have h0:=HN.out.2.1;subst h'
     have h8:0=n:=h0
     omega
   obtain⟨b,off,rfl,hb,hcc⟩:=(reads_ints HR.out).2.1.resolve_left hne
   have HKQ:Hid (w.heap.size < W4.heap.size∧w.heap.size+1 < W4.heap.size∧w3.heap.size < W4.heap.size∧w.heap.size≠k∧w.heap.size+1≠k∧w3.heap.size≠k∧w.heap.size≤w2.heap.size):=⟨by omega,by omega,by omega,by omega,by omega,by omega,by omega⟩
   have HQ:Hid (W4.heap[w3.heap.size]?=some (.cells #[I O W,I O H,Sz (some ⟨k,0,none⟩) n kc,I O x3,I O x4,.bool x5] 29 (0,0))∧W4.heap[w.heap.size]?=some (.cells #[I O W,I O H,Sz (some ⟨b,off,none⟩) n c,I O x3,I O x4,.bool x5] 29 (0,0))∧W4.heap[w.heap.size+1]?=some (.cells #[I O 0,I O 0,Sz none 0 0,I O 0,I O 0,.bool false] 29 (0,0))):=⟨hbq,HBX.out W4 HB4.out,HBR.out W4 HB4.out⟩
   have HCC:Hid (∀ w',Touch W4 w' [k]→∀ i,i < n→w'.cell? ⟨b,off+i,none⟩=some (I O (at0 zs i))):=fun w' ht i hi=>by
     have h1:Below w.heap.size w w':=ht.below (HB1.out.trans (HB4.out.mono HB1.out.size)) (by have:=HKQ.out.1;omega) (fun z hz=>by simp at hz;omega)
     exact(h1.cell (p:=⟨b,off+i,none⟩) hb).trans (hcc i (by rw[HN.out.2.1];exact hi))
   have HFX:Hid (∀ w',Touch W4 w' [k]→w'.heap[w3.heap.size]?=some (.cells #[I O W,I O H,Sz (some ⟨k,0,none⟩) n kc,I O x3,I O x4,.bool x5] 29 (0,0))∧w'.heap[w.heap.size]?=some (.cells #[I O W,I O H,Sz (some ⟨b,off,none⟩) n c,I O x3,I O x4,.bool x5] 29 (0,0))∧w'.heap[w.heap.size+1]?=some (.cells #[I O 0,I O 0,Sz none 0 0,I O 0,I O 0,.bool false] 29 (0,0))):=fun w' ht =>
     ⟨(ht.block _ HKQ.out.2.2.1 (by simp;exact HKQ.out.2.2.2.2.2.1)).trans HQ.out.1,(ht.block _ HKQ.out.1 (by simp;exact HKQ.out.2.2.2.1)).trans HQ.out.2.1,(ht.block _ HKQ.out.2.1 (by simp;exact HKQ.out.2.2.2.2.1)).trans HQ.out.2.2⟩
   have zl:w.heap.size < w3.heap.size:=by omega
   have q2:W4.cell? ⟨w3.heap.size,2,none⟩=some (Sz (some ⟨k,0,none⟩) n kc):=bxc hbq rfl
   rw[hW4] at q2
   have HWN:Hid (W≤n):=by show W≤n;rw[HN.out.1];exact Nat.le_mul_of_pos_right _ (by omega)
   have HBLT:Hid (b < w.heap.size):=hb
   have HA:Hid ((scr 32 W zs).length=n):=by show _=_;rw[scr_len (by have:=HN.out.2.1;have:=HWN.out;omega)];exact HN.out.2.1
   clear hW4 hbq bW4 hne hb hcc
   go_wp2
   rw[← HW4.out]
   have hm0:mixI (scr 32 W zs) zs 0=zs:=rfl
   rw[← hm0] at ho4
   go_loopw [14] (fun i wr=>∃ j:Nat,j≤n∧i=I O j∧wr.ownsRow w2.heap.size 3 1 (Sz (some ⟨k,0,none⟩) n kc) n ((mixI (scr 32 W zs) zs j).map (Value.int .i64))∧Touch W4 wr [k]) (fun i _=>n - (intOf i).toNat)
   case atStart=>exact⟨0,Nat.zero_le _,rfl,ho4,Touch.refl _ _⟩
   case round =>
     obtain⟨j,hj,rfl,ho,ht⟩:=hrel
     obtain⟨fq,fg,fr⟩:=HFX.out wr ht
     by_cases hlt:j < n
     · have y2:wr.cell? ⟨w3.heap.size,2,none⟩=some (Sz (some ⟨k,0,none⟩) n kc):=bxc fq rfl
       have u0:wr.cell? ⟨w.heap.size,0,none⟩=some (I O W):=bxc fg rfl
       have u2:wr.cell? ⟨w.heap.size,2,none⟩=some (Sz (some ⟨b,off,none⟩) n c):=bxc fg rfl
       have hjn:(j:Int) < (n:Int):=by omega
       have hfz:=ho.frozenAt j
       have hco:∃ u,wr.cell? ⟨k,j,none⟩=some u:=by rw[ho.cellAt j (by omega)];exact⟨_,List.getElem?_eq_getElem (by rw[List.length_map,mixI_len HA.out HN.out.2.1];exact hlt)⟩
       obtain⟨u,hco⟩:=hco
       have hst:=ho.stored j (I O 32)
       have HS:Hid (_∧_):=hst
       have HT:Hid (Touch W4 (wr.setCell ⟨k,j,none⟩ (I O 32)) [k]):=ht.trans (Touch.set wr k j (I O 32) (List.mem_singleton.2 rfl))
       have HNE:Hid (k≠w3.heap.size∧k≠w.heap.size):=⟨fun e=>HKQ.out.2.2.2.2.2.1 e.symm,fun e=>HKQ.out.2.2.2.1 e.symm⟩
       have ne1:¬ k=w3.heap.size:=HNE.out.1
       have ne2:¬ k=w.heap.size:=HNE.out.2
       have wj:IntKind.i64.wrap ((j:Int)+(W:Int))=(j:Int)+(W:Int):=wrap_i64_in _ (by omega) (by omega)
       have wj0:(0:Int)≤(j:Int)+(W:Int):=by omega
       have wj1:((j:Int)+(W:Int)).toNat=j+W:=by omega
       by_cases hjw:j+W < n
       · have hjw':(j:Int)+(W:Int) < (n:Int):=by omega
         obtain⟨r,hr⟩:∃ r,r=at0 zs (j+W):=⟨_,rfl⟩
         have hsr:wr.cell? ⟨b,off+(j+W),none⟩=some (I O r):=by rw[hr];exact HCC.out wr ht (j+W) hjw
         have hst2:=hst.1.stored j (I O r)
         have hrA:r=at0 (scr 32 W zs) j:=by rw[hr];exact(scr_at1 (by have:=HN.out.2.1;omega)).symm
         have HM:Hid (((wr.setCell ⟨k,j,none⟩ (I O 32)).setCell ⟨k,j,none⟩ (I O r)).ownsRow w2.heap.size 3 1 (Sz (some ⟨k,0,none⟩) n kc) n ((mixI (scr 32 W zs) zs (j+1)).map (Value.int .i64))):=by
           have h9:=hst2.1
           rw[List.set_set,hrA,mixI_set HA.out HN.out.2.1 hlt] at h9
           rw[hrA];exact h9
         have HTT:Hid (Touch W4 ((wr.setCell ⟨k,j,none⟩ (I O 32)).drew.setCell ⟨k,j,none⟩ (I O r)) [k]):=(touch_drew HT.out).trans (Touch.set _ k j (I O r) (List.mem_singleton.2 rfl))
         have hco2:(wr.setCell ⟨k,j,none⟩ (I O 32)).cell? ⟨k,j,none⟩=some (I O 32):=by
           exact(hst.1.cellAt j (by omega)).trans (List.getElem?_set_self (by rw[List.length_map,mixI_len HA.out HN.out.2.1];exact hlt))
         have hfz2:=hst.1.frozenAt j
         have bk:b < wr.heap.size:=by
           rcases Nat.lt_or_ge b wr.heap.size with h | h
           · exact h
           · simp[World.cell?,Array.getElem?_eq_none h] at hsr
         have hbk:¬ k=b:=by
           intro e
           have h1:=HKQ.out;have h2:=hk3.1
           have h3:=HBLT.out
           omega
         have c0:(wr.setCell ⟨k,j,none⟩ (I O 32)).cell? ⟨w3.heap.size,2,none⟩=some (Sz (some ⟨k,0,none⟩) n kc):=by rw[cell_apart _ () ne1];exact y2
         have c1:(wr.setCell ⟨k,j,none⟩ (I O 32)).cell? ⟨w.heap.size,0,none⟩=some (I O W):=by rw[cell_apart _ () ne2];exact u0
         have c2:(wr.setCell ⟨k,j,none⟩ (I O 32)).cell? ⟨w.heap.size,2,none⟩=some (Sz (some ⟨b,off,none⟩) n c):=by rw[cell_apart _ () ne2];exact u2
         have c3:(wr.setCell ⟨k,j,none⟩ (I O 32)).cell? ⟨b,off+(j+W),none⟩=some (I O r):=by rw[cell_apart _ () hbk];exact hsr
         have HSN:Hid (((wr.setCell ⟨k,j,none⟩ (I O 32)).drew.setCell ⟨k,j,none⟩ (I O r)).cell? ⟨w3.heap.size,2,none⟩=some (Sz (some ⟨k,0,none⟩) n kc)∧((wr.setCell ⟨k,j,none⟩ (I O 32)).drew.setCell ⟨k,j,none⟩ (I O r)).cell? ⟨w.heap.size,0,none⟩=some (I O W)∧((wr.setCell ⟨k,j,none⟩ (I O 32)).drew.setCell ⟨k,j,none⟩ (I O r)).cell? ⟨w.heap.size,2,none⟩=some (Sz (some ⟨b,off,none⟩) n c)∧((wr.setCell ⟨k,j,none⟩ (I O 32)).drew.setCell ⟨k,j,none⟩ (I O r)).cell? ⟨b,off+(j+W),none⟩=some (I O r)):=⟨(cell_apart _ () ne1).trans c0,(cell_apart _ () ne2).trans c1,(cell_apart _ () ne2).trans c2,(cell_apart _ () hbk).trans c3⟩
         clear hst hst2 ho fq fg fr hr hrA
         go_wp2_with fail
         refine wp_region_held_drew (S:=fun w'=>w'.cell? ⟨w3.heap.size,2,none⟩=some (Sz (some ⟨k,0,none⟩) n kc)∧w'.cell? ⟨w.heap.size,0,none⟩=some (I O W)∧w'.cell? ⟨w.heap.size,2,none⟩=some (Sz (some ⟨b,off,none⟩) n c)∧w'.cell? ⟨b,off+(j+W),none⟩=some (I O r)) (by kernel_rfl) (show World.cell? _ _=_∧World.cell? _ _=_∧World.cell? _ _=_∧World.cell? _ _=_ from ⟨c0,c1,c2,c3⟩) (fun hHeld=>?_)
         refine wpAnyH_take (i:=0) (v:=.pointer (some ⟨w3.heap.size,2,none⟩)) rfl (by kernel_rfl) (by kernel_rfl) (by kernel_rfl) (fun _ _ _ h=>h) (Or.inl ⟨by kernel_rfl,?_⟩) (by assumption) ?_
         · intro w9 hSw;(try dsimp only at hSw);go_simp
         simp only[Act.put,lB,lC,lD,lA,lE,lF]
         refine wpAnyH_take (i:=1) (v:=Sz (some ⟨k,0,none⟩) n kc) rfl (by kernel_rfl) (by kernel_rfl) (by kernel_rfl) (fun _ _ _ h=>h) (Or.inl ⟨by kernel_rfl,?_⟩) (by assumption) ?_
         · intro w9 hSw;(try dsimp only at hSw);go_simp
         simp only[Act.put,lB,lC,lD,lA,lE,lF]
         refine wpAnyH_take (i:=2) (v:=I O j) rfl (by kernel_rfl) (by kernel_rfl) (by kernel_rfl) (fun _ _ _ h=>h) (Or.inl ⟨by kernel_rfl,?_⟩) (by assumption) ?_
         · intro w9 hSw;(try dsimp only at hSw);go_simp
         simp only[Act.put,lB,lC,lD,lA,lE,lF]
         refine wpAnyH_take (i:=3) (v:=.pointer (some ⟨w.heap.size,2,none⟩)) rfl (by kernel_rfl) (by kernel_rfl) (by kernel_rfl) (fun _ _ _ h=>h) (Or.inl ⟨by kernel_rfl,?_⟩) (by assumption) ?_
         · intro w9 hSw;(try dsimp only at hSw);go_simp
         simp only[Act.put,lB,lC,lD,lA,lE,lF]
         refine wpAnyH_take (i:=4) (v:=Sz (some ⟨b,off,none⟩) n c) rfl (by kernel_rfl) (by kernel_rfl) (by kernel_rfl) (fun _ _ _ h=>h) (Or.inl ⟨by kernel_rfl,?_⟩) (by assumption) ?_
         · intro w9 hSw;(try dsimp only at hSw);go_simp
         simp only[Act.put,lB,lC,lD,lA,lE,lF]
         refine wpAnyH_take (i:=5) (v:=I O j) rfl (by kernel_rfl) (by kernel_rfl) (by kernel_rfl) (fun _ _ _ h=>h) (Or.inl ⟨by kernel_rfl,?_⟩) (by assumption) ?_
         · intro w9 hSw;(try dsimp only at hSw);go_simp
         simp only[Act.put,lB,lC,lD,lA,lE,lF]
         refine wpAnyH_take (i:=6) (v:=.pointer (some ⟨w.heap.size,0,none⟩)) rfl (by kernel_rfl) (by kernel_rfl) (by kernel_rfl) (fun _ _ _ h=>h) (Or.inl ⟨by kernel_rfl,?_⟩) (by assumption) ?_
         · intro w9 hSw;(try dsimp only at hSw);go_simp
         simp only[Act.put,lB,lC,lD,lA,lE,lF]
         refine wpAnyH_take (i:=7) (v:=I O W) rfl (by kernel_rfl) (by kernel_rfl) (by kernel_rfl) (fun _ _ _ h=>h) (Or.inl ⟨by kernel_rfl,?_⟩) (by assumption) ?_
         · intro w9 hSw;(try dsimp only at hSw);go_simp
         simp only[Act.put,lB,lC,lD,lA,lE,lF]
         refine wpAnyH_take (i:=8) (v:=I O ((j:Int)+(W:Int))) rfl (by kernel_rfl) (by kernel_rfl) (by kernel_rfl) (fun _ _ _ h=>h) (Or.inl ⟨by kernel_rfl,?_⟩) (by assumption) ?_
         · intro w9 hSw;(try dsimp only at hSw);go_simp
         simp only[Act.put,lB,lC,lD,lA,lE,lF]
         refine wpAnyH_take (i:=9) (v:=.pointer (some ⟨b,off+(j+W),none⟩)) rfl (by kernel_rfl) (by kernel_rfl) (by kernel_rfl) (fun _ _ _ h=>h) (Or.inl ⟨by kernel_rfl,?_⟩) (by assumption) ?_
         · intro w9 hSw;(try dsimp only at hSw);go_simp
         simp only[Act.put,lB,lC,lD,lA,lE,lF]
         refine wpAnyH_take (i:=10) (v:=I O r) rfl (by kernel_rfl) (by kernel_rfl) (by kernel_rfl) (fun _ _ _ h=>h) (Or.inl ⟨by kernel_rfl,?_⟩) (by assumption) ?_
         · intro w9 hSw;(try dsimp only at hSw);go_simp
         simp only[Act.put,lB,lC,lD,lA,lE,lF]
         refine wpAnyH_take (i:=11) (v:=.pointer (some ⟨k,j,none⟩)) rfl (by kernel_rfl) (by kernel_rfl) (by kernel_rfl) (fun _ _ _ h=>h) (Or.inl ⟨by kernel_rfl,?_⟩) (by assumption) ?_
         · intro w9 hSw;(try dsimp only at hSw);go_simp
         simp only[Act.put,lB,lC,lD,lA,lE,lF]
         refine wpAnyH_ready (rs:=[12]) (by kernel_rfl) (by simp) ?_
         refine AllReadyH.cons rfl (fun K hK=>?_) AllReadyH.nil
         go_simp
         refine hK.out _ _ (by first | exact HSN.out | (refine⟨?_,?_,?_,?_⟩ <;> assumption)) (fun hHeld12=>?_)
         clear hK
         refine wpAnyH_done (by kernel_rfl) ?_ _
         go_wp2
         go_roundw
         case rel=>exact⟨j+1,by omega,by go_num,HM.out,HTT.out⟩
         case measure=>simp[intOf];omega
       · have hjw':¬ (j:Int)+(W:Int) < (n:Int):=by omega
         have hrA:(32:Int)=at0 (scr 32 W zs) j:=(scr_at2 (by have:=HN.out.2.1;omega) (by have:=HN.out.2.1;omega) (by have:=HN.out.2.1;have:=HWN.out;omega)).symm
         have HM:Hid ((wr.setCell ⟨k,j,none⟩ (I O 32)).ownsRow w2.heap.size 3 1 (Sz (some ⟨k,0,none⟩) n kc) n ((mixI (scr 32 W zs) zs (j+1)).map (Value.int .i64))):=by
           have h9:=hst.1
           rw[← mixI_set HA.out HN.out.2.1 hlt,← hrA];exact h9
         have c1:(wr.setCell ⟨k,j,none⟩ (I O 32)).cell? ⟨w.heap.size,0,none⟩=some (I O W):=by rw[cell_apart _ () ne2];exact u0
         have c2:(wr.setCell ⟨k,j,none⟩ (I O 32)).cell? ⟨w.heap.size,2,none⟩=some (Sz (some ⟨b,off,none⟩) n c):=by rw[cell_apart _ () ne2];exact u2
         clear hst ho fq fg fr hrA
         go_wp2
         go_roundw
         case rel=>exact⟨j+1,by omega,by go_num,HM.out,HT.out⟩
         case measure=>simp[intOf];omega
     · have e:j=n:=by omega
       subst e
       rw[mixI_full HA.out HN.out.2.1] at ho
       have g0:=bxc (j:=0) fq rfl
       have g1:=bxc (j:=1) fq rfl
       have g2:=bxc (j:=2) fq rfl
       have g3:=bxc (j:=3) fq rfl
       have g4:=bxc (j:=4) fq rfl
       have g5:=bxc (j:=5) fq rfl
       have bR:Below w.heap.size w wr:=ht.below (HB1.out.trans (HB4.out.mono HB1.out.size)) (by have:=HKQ.out.1;omega) (fun z hz=>by simp at hz;omega)
       have HLD:(loadVar 29 ⟨w.heap.size+1,0,none⟩).run Tryd.prog (wr.setRow (w.heap.size+1) #[I O W,I O H,Sz (some ⟨k,0,none⟩) j kc,I O x3,I O x4,.bool x5])=.ok (.agg #[I O W,I O H,Sz (some ⟨k,0,none⟩) j kc,I O x3,I O x4,.bool x5]) (wr.setRow (w.heap.size+1) #[I O W,I O H,Sz (some ⟨k,0,none⟩) j kc,I O x3,I O x4,.bool x5]):=run_loadVar_row _ _ _ _ _ _ _ (setRow_heap _ _ _ _ _ _ fr) Tryd.underlying29 rfl (by kernel_rfl)
       have HO:Hid (_∧_):=⟨own_low (own_offR ho (w.heap.size+1) #[I O W,I O H,Sz (some ⟨k,0,none⟩) j kc,I O x3,I O x4,.bool x5] HKQ.out.2.2.2.2.1) (show w.heap.size≤w2.heap.size from HKQ.out.2.2.2.2.2.2),below_setRow bR (Nat.le_add_right _ 1) #[I O W,I O H,Sz (some ⟨k,0,none⟩) j kc,I O x3,I O x4,.bool x5]⟩
       clear ho bR fq fg ht
       go_wp2_with (refine wpList_store_row rfl _ _ _ rfl _ _ rfl rfl _ _ fr (by kernel_rfl) rfl (by simp[Value.oneCell']) ?_)
       (try simp only[Exit.inBlock,Exit.then])
       refine bodyPost_ret (by simp[results,Tryd.results71,asAddr,Act.put,HLD];try rfl) rfl ?_
       refine⟨_,[k]++[],rfl,?_,by simp,HO.out.2,fun _=>by rw[HRR.out,ansG_yes HG.out];exact⟨k,kc,rfl,HO.out.1⟩⟩
       rw[HRR.out,ansG_yes HG.out]
       exact own_Grid (d:=((W:Int),(H:Int),scr 32 W zs,x3,x4,x5,())) (F2:=[k]) (own_ints HA.out HO.out.1)
end Go.Proofs.YthodinpflcbklaaDoor
