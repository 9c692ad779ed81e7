/-
  Parts of the road to VB, joined: GrSClear, SvA.
-/
import Derived.Test.YthodinpflcbklaaDoorM12VB
import Derived.Test.YthodinpflcbklaaDoorM18VB
import Derived.Deep.RegionHeld3
import Derived.Test.YthodinpflcbklaaDoorM19VB
import Derived.Test.YthodinpflcbklaaDoorM3VB
open Go.Value renaming int → I,slice → Sz
open Go.IntKind renaming i64 → O
open List renaming setIfInBounds_toArray → lA,getElem_toArray → lB,getElem_cons_succ → lC,getElem_cons_zero → lD,set_cons_zero → lE,set_cons_succ → lF
set_option linter.unusedVariables false
set_option linter.unusedSimpArgs false
set_option maxHeartbeats 40000000
namespace Go.Proofs.YthodinpflcbklaaDoor
open Go.RowKit
set_option maxRecDepth 100000 in
theorem specGridClear_row (x0 x1 x3 x4:Int) (a:Option Addr) (n c:Nat) (x5:Bool) (zs:List Int) (x:Int) (y:Int) (R:GrD) (hR:R=ansG (x0,x1,zs,x3,x4,x5,()) (x0,x1,clrM x y zs,x3,x4,x5,())) (w:World) (hr:Reads (.sl .int) w [Sz a n c] zs) :
   Calls Tryd.prog 79 #[.agg #[I O x0,I O x1,Sz a n c,I O x3,I O x4,.bool x5],I O x,I O y] w fun e w'=>∃ o F,e=.returned (.agg o.toArray)∧Own shGrid w' w.heap.size o R F∧F.Nodup∧Below w.heap.size w w'∧RowAns (gokB (x0,x1,zs,x3,x4,x5,())) w' w.heap.size n R o:=by
 have HRR:Hid (R=_):=hR
 clear hR
 obtain⟨hl,hrd,hc,hm⟩:=reads_ints hr
 unfold maxLen at hm
 obtain⟨W1,hW1⟩:∃ W,W=(w.alloc (.cells #[I O x0,I O x1,Sz a n c,I O x3,I O x4,.bool x5] 29)).alloc (.cells #[I O 0,I O 0,Sz none 0 0,I O 0,I O 0,.bool false] 29):=⟨_,rfl⟩
 have bW1:Below w.heap.size w W1:=by rw[hW1];exact((Below.refl _ _).alloc (Nat.le_refl _) _).alloc (by simp) _
 have zW1:W1.heap.size=w.heap.size+1+1:=by rw[hW1];simp
 have hbox:W1.heap[w.heap.size]?=some (.cells #[I O x0,I O x1,Sz a n c,I O x3,I O x4,.bool x5] 29 (0,0)):=by
   rw[hW1,heap_alloc_old _ _ (by simp)];exact heap_alloc_new w _
 have hbox1:W1.heap[w.heap.size+1]?=some (.cells #[I O 0,I O 0,Sz none 0 0,I O 0,I O 0,.bool false] 29 (0,0)):=by
   rw[hW1]
   have:=heap_alloc_new (w.alloc (.cells #[I O x0,I O x1,Sz a n c,I O x3,I O x4,.bool x5] 29)) (.cells #[I O 0,I O 0,Sz none 0 0,I O 0,I O 0,.bool false] 29)
   simpa using this
 have HBX:Hid (∀ w',Below W1.heap.size W1 w'→w'.heap[w.heap.size]?=some (.cells #[I O x0,I O x1,Sz a n c,I O x3,I O x4,.bool x5] 29 (0,0))):=fun w' h'=>(h'.block _ (by omega)).trans hbox
 have HBR:Hid (∀ w',Below W1.heap.size W1 w'→w'.heap[w.heap.size+1]?=some (.cells #[I O 0,I O 0,Sz none 0 0,I O 0,I O 0,.bool false] 29 (0,0))):=fun w' h'=>(h'.block _ (by omega)).trans hbox1
 have HR:Hid (Reads (.sl .int) w [Sz a n c] zs):=hr
 have qg:Hid (∀ w',Below w.heap.size w w'→Calls Tryd.prog 52 #[.agg #[I O x0,I O x1,Sz a n c,I O x3,I O x4,.bool x5]] w' fun e w''=>e=.returned (.bool (gokB (x0,x1,zs,x3,x4,x5,())))∧Below w'.heap.size w' w''):=fun w' h'=>specGok_any x0 x1 x3 x4 a n c x5 zs w' (hr.later h')
 have HW:Hid (W1=_):=hW1
 have HB1:Hid (Below w.heap.size w W1):=bW1
 have hb00:Below W1.heap.size W1 W1:=Below.refl _ _
 have i_W1:=HBX.out W1 hb00
 have y0:W1.cell? ⟨w.heap.size,0,none⟩=some (I O x0):=bxc i_W1 rfl
 have y1:W1.cell? ⟨w.heap.size,1,none⟩=some (I O x1):=bxc i_W1 rfl
 have y2:W1.cell? ⟨w.heap.size,2,none⟩=some (Sz a n c):=bxc i_W1 rfl
 have y3:W1.cell? ⟨w.heap.size,3,none⟩=some (I O x3):=bxc i_W1 rfl
 have y4:W1.cell? ⟨w.heap.size,4,none⟩=some (I O x4):=bxc i_W1 rfl
 have y5:W1.cell? ⟨w.heap.size,5,none⟩=some (.bool x5):=bxc i_W1 rfl
 clear i_W1
 clear hW1 hbox hbox1 hr hrd hl hb00
 by_cases hg:gokB (x0,x1,zs,x3,x4,x5,())=true
 rotate_left
 · have hg':gokB (x0,x1,zs,x3,x4,x5,())=false:=by simpa using hg
   have HG:Hid (gokB (x0,x1,zs,x3,x4,x5,())=false):=hg'
   rw[hg'] at qg
   clear hg hg'
   go_enter Tryd.func79,Tryd.ntmps79
   go_wp2_with fail
   rw[← HW.out]
   refine(qg.out _ HB1.out).mono ?_
   rintro e w2 ⟨rfl,hb2⟩
   have b2:=HB1.out.trans (hb2.mono HB1.out.size)
   have j0:=HBR.out w2 hb2
   have HLD:(loadVar 29 ⟨w.heap.size+1,0,none⟩).run Tryd.prog (w2.setRow (w.heap.size+1) #[I O 0,I O 0,Sz none 0 0,I O 0,I O 0,.bool false])=.ok (.agg #[I O 0,I O 0,Sz none 0 0,I O 0,I O 0,.bool false]) (w2.setRow (w.heap.size+1) #[I O 0,I O 0,Sz none 0 0,I O 0,I O 0,.bool false]):=run_loadVar_row _ _ _ _ _ _ _ (setRow_heap _ _ _ _ _ _ j0) Tryd.underlying29 rfl (by kernel_rfl)
   have HO:Hid (_):=below_setRow b2 (Nat.le_add_right _ 1) #[I O 0,I O 0,Sz none 0 0,I O 0,I O 0,.bool false]
   clear hb2 b2 y0 y1 y2 y3 y4 y5
   go_wp2_with (refine wpList_store_row rfl _ _ _ rfl _ _ rfl rfl _ _ j0 (by kernel_rfl) rfl (by simp[Value.oneCell']) ?_)
   (try simp only[Exit.inBlock,Exit.then])
   refine bodyPost_ret (by simp[results,Tryd.results79,asAddr,Act.put,HLD];try rfl) rfl ?_
   refine⟨_,[],rfl,?_,List.nodup_nil,HO.out,fun h=>by rw[HG.out] at h;cases h⟩
   rw[HRR.out,ansG_no HG.out]
   exact own_zeroG _ _
 · have HG:Hid (gokB (x0,x1,zs,x3,x4,x5,())=true):=hg
   rw[hg] at qg
   obtain⟨W,H,rfl,rfl,g1,g2,g3,g4,g5,hlen,hcl,hcu⟩:=gok_parts hg
   have hl:=(reads_ints HR.out).1
   have hn:n=W*H:=by omega
   have hmb:=mul_bd (x:=W) (y:=H) (by omega) (by omega) (by omega) (by omega)
   have hpr:(W:Int)*(H:Int)=(n:Int):=by rw[hn];simp
   rw[hpr] at hmb
   have HN:Hid (n=W*H∧zs.length=n∧cellsB zs W (W*H)=true∧cursB W H x3 x4 x5=true):=⟨hn,hl,hcl,hcu⟩
   have hn8:n≤8000:=by omega
   have qc:Hid (∀ w',Below w.heap.size w w'→Calls Tryd.prog 43 #[.agg #[I O W,I O H,Sz a n c,I O x3,I O x4,.bool x5]] w' fun e w''=>∃ k kc,e=.returned (.agg #[I O W,I O H,Sz (some ⟨k,0,none⟩) n kc,I O x3,I O x4,.bool x5])∧w''.ownsRow w'.heap.size 3 1 (Sz (some ⟨k,0,none⟩) n kc) n (zs.map (Value.int .i64))∧Below w'.heap.size w' w''):=fun w' h'=>specGcopy_any W H x3 x4 a n c x5 zs w' (HR.out.later h') (by omega) (by omega)
   clear hg hn hl hlen hcl hcu g5 hpr
   go_enter Tryd.func79,Tryd.ntmps79
   go_wp2_with fail
   rw[← HW.out]
   refine(qg.out _ HB1.out).mono ?_
   rintro e w2 ⟨rfl,hb2⟩
   have b2:=HB1.out.trans (hb2.mono HB1.out.size)
   have z2:=hb2.size
   clear y0 y1 y2 y3 y4 y5
   have i_w2:=HBX.out w2 hb2
   have y0:w2.cell? ⟨w.heap.size,0,none⟩=some (I O W):=bxc i_w2 rfl
   have y1:w2.cell? ⟨w.heap.size,1,none⟩=some (I O H):=bxc i_w2 rfl
   have y2:w2.cell? ⟨w.heap.size,2,none⟩=some (Sz a n c):=bxc i_w2 rfl
   have y3:w2.cell? ⟨w.heap.size,3,none⟩=some (I O x3):=bxc i_w2 rfl
   have y4:w2.cell? ⟨w.heap.size,4,none⟩=some (I O x4):=bxc i_w2 rfl
   have y5:w2.cell? ⟨w.heap.size,5,none⟩=some (.bool x5):=bxc i_w2 rfl
   clear i_w2
   have HB2:Hid (Below W1.heap.size W1 w2):=hb2
   clear hb2
   go_wp2_with fail
   refine(qc.out _ b2).mono ?_
   rintro e w3 ⟨k,kc,rfl,ho3,hb3⟩
   have HB3:Hid (Below W1.heap.size W1 w3):=HB2.out.trans (hb3.mono HB2.out.size)
   have z3:=hb3.size
   have hk3:w2.heap.size≤k∧k < w3.heap.size:=ho3.lt k rfl
   have HO3:Hid (w3.ownsRow w2.heap.size 3 1 (Sz (some ⟨k,0,none⟩) n kc) n (zs.map (Value.int .i64))):=ho3
   clear ho3 hb3 y0 y1 y2 y3 y4 y5
   obtain⟨W4,hW4⟩:∃ V,V=w3.alloc (.cells #[I O W,I O H,Sz (some ⟨k,0,none⟩) n kc,I O x3,I O x4,.bool x5] 29):=⟨_,rfl⟩
   have bW4:Below w3.heap.size w3 W4:=by rw[hW4];exact(Below.refl _ _).alloc (Nat.le_refl _) _
   have zW4:W4.heap.size=w3.heap.size+1:=by rw[hW4];simp
   have hbq:W4.heap[w3.heap.size]?=some (.cells #[I O W,I O H,Sz (some ⟨k,0,none⟩) n kc,I O x3,I O x4,.bool x5] 29 (0,0)):=by rw[hW4];exact heap_alloc_new w3 _
   have ho4:W4.ownsRow w2.heap.size 3 1 (Sz (some ⟨k,0,none⟩) n kc) n (zs.map (Value.int .i64)):=by rw[hW4];exact HO3.out.alloc _
   have HB4:Hid (Below W1.heap.size W1 W4):=HB3.out.trans (bW4.mono HB3.out.size)
   have HW4:Hid (W4=_):=hW4
   have hne:zs≠[]:=by
     intro h';have h0:=HN.out.2.1;subst h'
     have h8:0=n:=h0
     omega
   obtain⟨b,off,rfl,hb,hcc⟩:=(reads_ints HR.out).2.1.resolve_left hne
   have HKQ:Hid (w.heap.size < W4.heap.size∧w.heap.size+1 < W4.heap.size∧w3.heap.size < W4.heap.size∧w.heap.size≠k∧w.heap.size+1≠k∧w3.heap.size≠k∧w.heap.size≤w2.heap.size):=⟨by omega,by omega,by omega,by omega,by omega,by omega,by omega⟩
   have HQ:Hid (W4.heap[w3.heap.size]?=some (.cells #[I O W,I O H,Sz (some ⟨k,0,none⟩) n kc,I O x3,I O x4,.bool x5] 29 (0,0))∧W4.heap[w.heap.size]?=some (.cells #[I O W,I O H,Sz (some ⟨b,off,none⟩) n c,I O x3,I O x4,.bool x5] 29 (0,0))∧W4.heap[w.heap.size+1]?=some (.cells #[I O 0,I O 0,Sz none 0 0,I O 0,I O 0,.bool false] 29 (0,0))):=⟨hbq,HBX.out W4 HB4.out,HBR.out W4 HB4.out⟩
   have HCC:Hid (∀ w',Touch W4 w' [k]→∀ i,i < n→w'.cell? ⟨b,off+i,none⟩=some (I O (at0 zs i))):=fun w' ht i hi=>by
     have h1:Below w.heap.size w w':=ht.below (HB1.out.trans (HB4.out.mono HB1.out.size)) (by have:=HKQ.out.1;omega) (fun z hz=>by simp at hz;omega)
     exact(h1.cell (p:=⟨b,off+i,none⟩) hb).trans (hcc i (by rw[HN.out.2.1];exact hi))
   have HFX:Hid (∀ w',Touch W4 w' [k]→w'.heap[w3.heap.size]?=some (.cells #[I O W,I O H,Sz (some ⟨k,0,none⟩) n kc,I O x3,I O x4,.bool x5] 29 (0,0))∧w'.heap[w.heap.size]?=some (.cells #[I O W,I O H,Sz (some ⟨b,off,none⟩) n c,I O x3,I O x4,.bool x5] 29 (0,0))∧w'.heap[w.heap.size+1]?=some (.cells #[I O 0,I O 0,Sz none 0 0,I O 0,I O 0,.bool false] 29 (0,0))):=fun w' ht =>
     ⟨(ht.block _ HKQ.out.2.2.1 (by simp;exact HKQ.out.2.2.2.2.2.1)).trans HQ.out.1,(ht.block _ HKQ.out.1 (by simp;exact HKQ.out.2.2.2.1)).trans HQ.out.2.1,(ht.block _ HKQ.out.2.1 (by simp;exact HKQ.out.2.2.2.2.1)).trans HQ.out.2.2⟩
   have zl:w.heap.size < w3.heap.size:=by omega
   have q2:W4.cell? ⟨w3.heap.size,2,none⟩=some (Sz (some ⟨k,0,none⟩) n kc):=bxc hbq rfl
   rw[hW4] at q2
   have HWN:Hid (W≤n):=by show W≤n;rw[HN.out.1];exact Nat.le_mul_of_pos_right _ (by omega)
   have HBLT:Hid (b < w.heap.size):=hb
   have HA:Hid ((clrM x y zs).length=n):=by show _=_;rw[clrM_len];exact HN.out.2.1
   clear hW4 hbq bW4 hne hb hcc
   have i_w3:=HBX.out w3 HB3.out
   have y2:w3.cell? ⟨w.heap.size,2,none⟩=some (Sz (some ⟨b,off,none⟩) n c):=bxc i_w3 rfl
   clear i_w3
   go_wp2
   rw[← HW4.out]
   clear y2
   have hm0:mixI (clrM x y zs) zs 0=zs:=rfl
   rw[← hm0] at ho4
   go_loopw [20] (fun i wr=>∃ j:Nat,j≤n∧i=I O j∧wr.ownsRow w2.heap.size 3 1 (Sz (some ⟨k,0,none⟩) n kc) n ((mixI (clrM x y zs) zs j).map (Value.int .i64))∧Touch W4 wr [k]) (fun i _=>n - (intOf i).toNat)
   case atStart=>exact⟨0,Nat.zero_le _,rfl,ho4,Touch.refl _ _⟩
   case round =>
     obtain⟨j,hj,rfl,ho,ht⟩:=hrel
     obtain⟨fq,fg,fr⟩:=HFX.out wr ht
     by_cases hlt:j < n
     · have hjn:(j:Int) < (n:Int):=by omega
       obtain⟨r,hr⟩:∃ r,r=at0 zs j:=⟨_,rfl⟩
       have hsr:wr.cell? ⟨b,off+j,none⟩=some (I O r):=by rw[hr];exact HCC.out wr ht j hlt
       obtain⟨d,hd⟩:∃ d,d=wd r:=⟨_,rfl⟩
       have qd:Hid (∀ w',Calls Tryd.prog 69 #[I O r] w' fun e w''=>e=.returned (I O d)∧Below w'.heap.size w' w''):=fun w'=>by rw[hd];exact specWid_any r w'
       have HE:Hid (r=at0 zs j∧d=wd r):=⟨hr,hd⟩
       have hr0:r=-1→1≤j:=by
         intro h
         rcases Nat.eq_zero_or_pos j with h0 | h0
         · exfalso
           have h1:=cellsB_lt HN.out.2.2.1 (show 0 < W*H by have:=HN.out.1;omega)
           have h2:cellB zs W 0=false:=begins_none (begins_zero zs W) (by omega) (by rw[← h0,← hr,h];exact wd_half)
           rw[h2] at h1;cases h1
         · exact h0
       have hd1:r=-1→d=0:=by intro h;rw[hd,h];exact wd_half
       have hA:at0 (clrM x y zs) j=if goesM x y zs j=true then 32 else r:=by rw[clrM_at (by rw[HN.out.2.1];exact hlt),hr]
       obtain⟨q,hq⟩:∃ q:Int,q=otherM zs j:=⟨_,rfl⟩
       have hqc:(r=-1∧(d==2)=false∧(j:Int) - 1=q)∨(r≠-1∧d=2∧(j:Int)+1=q)∨(r≠-1∧(d==2)=false∧(j:Int)=q):=by
         unfold otherM at hq
         rw[← hr,← hd] at hq
         by_cases h1:r=-1
         · have:=hd1 h1
           rw[if_neg (by omega),if_pos h1] at hq
           exact .inl ⟨h1,by simp;omega,hq.symm⟩
         · by_cases h2:d=2
           · rw[if_pos h2] at hq;exact .inr (.inl ⟨h1,h2,hq.symm⟩)
           · rw[if_neg h2,if_neg h1] at hq;exact .inr (.inr ⟨h1,by simpa using h2,hq.symm⟩)
       have hqb:-1≤q∧q≤8000:=by rcases hqc with ⟨_,_,h⟩ | ⟨_,_,h⟩ | ⟨_,_,h⟩ <;> omega
       have wq:IntKind.i64.wrap q=q:=by simp[IntKind.wrap,IntKind.bits,IntKind.signed];omega
       have hG:goesM x y zs j=(decide (x≤(j:Int))&&decide ((j:Int) < y)||decide (x≤q)&&decide (q < y)):=by unfold goesM;rw[← hq]
       have HNQ:Hid (_=_):=hG
       have HAJ:Hid (at0 (clrM x y zs) j=if goesM x y zs j=true then 32 else r):=hA
       have HO:Hid (wr.ownsRow w2.heap.size 3 1 (Sz (some ⟨k,0,none⟩) n kc) n ((mixI (clrM x y zs) zs j).map (Value.int .i64))):=ho
       have HT:Hid (Touch W4 wr [k]):=ht
       clear hG hA ho ht hr hd hr0 hd1 hq fr hqb
       rcases hqc with ⟨e1,e2,e3⟩ | ⟨e1,e2,e3⟩ | ⟨e1,e2,e3⟩
       · subst e1
         have hb2:IntKind.i64.wrap ((j:Int) - 1)=q:=by rw[e3];exact wq
         clear wq
         have h7:(decide (x≤(j:Int))=true∧decide ((j:Int) < y)=true)∨(decide (x≤(j:Int))=false∧decide (x≤q)=true∧decide (q < y)=true)∨(decide (x≤(j:Int))=false∧decide (x≤q)=false)∨(decide (x≤(j:Int))=false∧decide (x≤q)=true∧decide (q < y)=false)∨(decide (x≤(j:Int))=true∧decide ((j:Int) < y)=false∧decide (x≤q)=true∧decide (q < y)=true)∨(decide (x≤(j:Int))=true∧decide ((j:Int) < y)=false∧decide (x≤q)=false)∨(decide (x≤(j:Int))=true∧decide ((j:Int) < y)=false∧decide (x≤q)=true∧decide (q < y)=false):=by
           cases hh1:decide (x≤(j:Int)) <;> cases hh2:decide ((j:Int) < y) <;> cases hh3:decide (x≤q) <;> cases hh4:decide (q < y) <;> simp
         rcases h7 with ⟨v0,v1⟩ | ⟨v0,v1,v2⟩ | ⟨v0,v1⟩ | ⟨v0,v1,v2⟩ | ⟨v0,v1,v2,v3⟩ | ⟨v0,v1,v2⟩ | ⟨v0,v1,v2,v3⟩
         · have HGO:Hid (goesM x y zs j=true):=by show _=_;rw[HNQ.out,v0,v1];simp
           go_wp2_with fail
           refine(qd.out _).mono ?_
           rintro e w5 ⟨rfl,hb5⟩
           have HT5:Hid (Touch W4 w5 [k]):=HT.out.trans (Touch.of_below hb5 [k])
           have ho5:=own_later HO.out hb5
           have y2:w5.cell? ⟨w3.heap.size,2,none⟩=some (Sz (some ⟨k,0,none⟩) n kc):=bxc (HFX.out w5 HT5.out).1 rfl
           have hfz:=ho5.frozenAt j
           obtain⟨u,hco⟩:∃ u,w5.cell? ⟨k,j,none⟩=some u:=by rw[ho5.cellAt j (by omega)];exact⟨_,List.getElem?_eq_getElem (by rw[List.length_map,mixI_len HA.out HN.out.2.1];exact hlt)⟩
           have HM:Hid ((w5.setCell ⟨k,j,none⟩ (I O 32)).ownsRow w2.heap.size 3 1 (Sz (some ⟨k,0,none⟩) n kc) n ((mixI (clrM x y zs) zs (j+1)).map (Value.int .i64))):=by
             have h9:=(ho5.stored j (I O 32)).1
             have h8:=mixI_set HA.out HN.out.2.1 hlt
             rw[HAJ.out,if_pos HGO.out] at h8
             rw[← h8];exact h9
           have HT6:Hid (Touch W4 (w5.setCell ⟨k,j,none⟩ (I O 32)) [k]):=HT5.out.trans (Touch.set w5 k j (I O 32) (List.mem_singleton.2 rfl))
           clear ho5 hb5
           go_wp2
           go_roundw
           case rel=>exact⟨j+1,by omega,by go_num,HM.out,HT6.out⟩
           case measure=>simp[intOf];omega
         · have HGO:Hid (goesM x y zs j=true):=by show _=_;rw[HNQ.out,v0,v1,v2];simp
           go_wp2_with fail
           refine(qd.out _).mono ?_
           rintro e w5 ⟨rfl,hb5⟩
           have HT5:Hid (Touch W4 w5 [k]):=HT.out.trans (Touch.of_below hb5 [k])
           have ho5:=own_later HO.out hb5
           have y2:w5.cell? ⟨w3.heap.size,2,none⟩=some (Sz (some ⟨k,0,none⟩) n kc):=bxc (HFX.out w5 HT5.out).1 rfl
           have hfz:=ho5.frozenAt j
           obtain⟨u,hco⟩:∃ u,w5.cell? ⟨k,j,none⟩=some u:=by rw[ho5.cellAt j (by omega)];exact⟨_,List.getElem?_eq_getElem (by rw[List.length_map,mixI_len HA.out HN.out.2.1];exact hlt)⟩
           have HM:Hid ((w5.setCell ⟨k,j,none⟩ (I O 32)).ownsRow w2.heap.size 3 1 (Sz (some ⟨k,0,none⟩) n kc) n ((mixI (clrM x y zs) zs (j+1)).map (Value.int .i64))):=by
             have h9:=(ho5.stored j (I O 32)).1
             have h8:=mixI_set HA.out HN.out.2.1 hlt
             rw[HAJ.out,if_pos HGO.out] at h8
             rw[← h8];exact h9
           have HT6:Hid (Touch W4 (w5.setCell ⟨k,j,none⟩ (I O 32)) [k]):=HT5.out.trans (Touch.set w5 k j (I O 32) (List.mem_singleton.2 rfl))
           clear ho5 hb5
           go_wp2
           go_roundw
           case rel=>exact⟨j+1,by omega,by go_num,HM.out,HT6.out⟩
           case measure=>simp[intOf];omega
         · have HGO:Hid (goesM x y zs j=false):=by show _=_;rw[HNQ.out,v0,v1];simp
           go_wp2_with fail
           refine(qd.out _).mono ?_
           rintro e w5 ⟨rfl,hb5⟩
           have HT5:Hid (Touch W4 w5 [k]):=HT.out.trans (Touch.of_below hb5 [k])
           have ho5:=own_later HO.out hb5
           have HM:Hid (w5.ownsRow w2.heap.size 3 1 (Sz (some ⟨k,0,none⟩) n kc) n ((mixI (clrM x y zs) zs (j+1)).map (Value.int .i64))):=by
             show World.ownsRow _ _ _ _ _ _ _
             rw[mixI_same HA.out HN.out.2.1 hlt (by rw[HAJ.out,if_neg (by rw[HGO.out];simp)];exact HE.out.1)];exact ho5
           clear ho5 hb5
           go_wp2
           go_roundw
           case rel=>exact⟨j+1,by omega,by go_num,HM.out,HT5.out⟩
           case measure=>simp[intOf];omega
         · have HGO:Hid (goesM x y zs j=false):=by show _=_;rw[HNQ.out,v0,v1,v2];simp
           go_wp2_with fail
           refine(qd.out _).mono ?_
           rintro e w5 ⟨rfl,hb5⟩
           have HT5:Hid (Touch W4 w5 [k]):=HT.out.trans (Touch.of_below hb5 [k])
           have ho5:=own_later HO.out hb5
           have HM:Hid (w5.ownsRow w2.heap.size 3 1 (Sz (some ⟨k,0,none⟩) n kc) n ((mixI (clrM x y zs) zs (j+1)).map (Value.int .i64))):=by
             show World.ownsRow _ _ _ _ _ _ _
             rw[mixI_same HA.out HN.out.2.1 hlt (by rw[HAJ.out,if_neg (by rw[HGO.out];simp)];exact HE.out.1)];exact ho5
           clear ho5 hb5
           go_wp2
           go_roundw
           case rel=>exact⟨j+1,by omega,by go_num,HM.out,HT5.out⟩
           case measure=>simp[intOf];omega
         · have HGO:Hid (goesM x y zs j=true):=by show _=_;rw[HNQ.out,v0,v1,v2,v3];simp
           go_wp2_with fail
           refine(qd.out _).mono ?_
           rintro e w5 ⟨rfl,hb5⟩
           have HT5:Hid (Touch W4 w5 [k]):=HT.out.trans (Touch.of_below hb5 [k])
           have ho5:=own_later HO.out hb5
           have y2:w5.cell? ⟨w3.heap.size,2,none⟩=some (Sz (some ⟨k,0,none⟩) n kc):=bxc (HFX.out w5 HT5.out).1 rfl
           have hfz:=ho5.frozenAt j
           obtain⟨u,hco⟩:∃ u,w5.cell? ⟨k,j,none⟩=some u:=by rw[ho5.cellAt j (by omega)];exact⟨_,List.getElem?_eq_getElem (by rw[List.length_map,mixI_len HA.out HN.out.2.1];exact hlt)⟩
           have HM:Hid ((w5.setCell ⟨k,j,none⟩ (I O 32)).ownsRow w2.heap.size 3 1 (Sz (some ⟨k,0,none⟩) n kc) n ((mixI (clrM x y zs) zs (j+1)).map (Value.int .i64))):=by
             have h9:=(ho5.stored j (I O 32)).1
             have h8:=mixI_set HA.out HN.out.2.1 hlt
             rw[HAJ.out,if_pos HGO.out] at h8
             rw[← h8];exact h9
           have HT6:Hid (Touch W4 (w5.setCell ⟨k,j,none⟩ (I O 32)) [k]):=HT5.out.trans (Touch.set w5 k j (I O 32) (List.mem_singleton.2 rfl))
           clear ho5 hb5
           go_wp2
           go_roundw
           case rel=>exact⟨j+1,by omega,by go_num,HM.out,HT6.out⟩
           case measure=>simp[intOf];omega
         · have HGO:Hid (goesM x y zs j=false):=by show _=_;rw[HNQ.out,v0,v1,v2];simp
           go_wp2_with fail
           refine(qd.out _).mono ?_
           rintro e w5 ⟨rfl,hb5⟩
           have HT5:Hid (Touch W4 w5 [k]):=HT.out.trans (Touch.of_below hb5 [k])
           have ho5:=own_later HO.out hb5
           have HM:Hid (w5.ownsRow w2.heap.size 3 1 (Sz (some ⟨k,0,none⟩) n kc) n ((mixI (clrM x y zs) zs (j+1)).map (Value.int .i64))):=by
             show World.ownsRow _ _ _ _ _ _ _
             rw[mixI_same HA.out HN.out.2.1 hlt (by rw[HAJ.out,if_neg (by rw[HGO.out];simp)];exact HE.out.1)];exact ho5
           clear ho5 hb5
           go_wp2
           go_roundw
           case rel=>exact⟨j+1,by omega,by go_num,HM.out,HT5.out⟩
           case measure=>simp[intOf];omega
         · have HGO:Hid (goesM x y zs j=false):=by show _=_;rw[HNQ.out,v0,v1,v2,v3];simp
           go_wp2_with fail
           refine(qd.out _).mono ?_
           rintro e w5 ⟨rfl,hb5⟩
           have HT5:Hid (Touch W4 w5 [k]):=HT.out.trans (Touch.of_below hb5 [k])
           have ho5:=own_later HO.out hb5
           have HM:Hid (w5.ownsRow w2.heap.size 3 1 (Sz (some ⟨k,0,none⟩) n kc) n ((mixI (clrM x y zs) zs (j+1)).map (Value.int .i64))):=by
             show World.ownsRow _ _ _ _ _ _ _
             rw[mixI_same HA.out HN.out.2.1 hlt (by rw[HAJ.out,if_neg (by rw[HGO.out];simp)];exact HE.out.1)];exact ho5
           clear ho5 hb5
           go_wp2
           go_roundw
           case rel=>exact⟨j+1,by omega,by go_num,HM.out,HT5.out⟩
           case measure=>simp[intOf];omega
       · have e4:(r==-1)=false:=by simpa using e1
         subst e2
         clear e1
         have h7:(decide (x≤(j:Int))=true∧decide ((j:Int) < y)=true)∨(decide (x≤(j:Int))=false∧decide (x≤q)=true∧decide (q < y)=true)∨(decide (x≤(j:Int))=false∧decide (x≤q)=false)∨(decide (x≤(j:Int))=false∧decide (x≤q)=true∧decide (q < y)=false)∨(decide (x≤(j:Int))=true∧decide ((j:Int) < y)=false∧decide (x≤q)=true∧decide (q < y)=true)∨(decide (x≤(j:Int))=true∧decide ((j:Int) < y)=false∧decide (x≤q)=false)∨(decide (x≤(j:Int))=true∧decide ((j:Int) < y)=false∧decide (x≤q)=true∧decide (q < y)=false):=by
           cases hh1:decide (x≤(j:Int)) <;> cases hh2:decide ((j:Int) < y) <;> cases hh3:decide (x≤q) <;> cases hh4:decide (q < y) <;> simp
         rcases h7 with ⟨v0,v1⟩ | ⟨v0,v1,v2⟩ | ⟨v0,v1⟩ | ⟨v0,v1,v2⟩ | ⟨v0,v1,v2,v3⟩ | ⟨v0,v1,v2⟩ | ⟨v0,v1,v2,v3⟩
         · have HGO:Hid (goesM x y zs j=true):=by show _=_;rw[HNQ.out,v0,v1];simp
           go_wp2_with fail
           refine(qd.out _).mono ?_
           rintro e w5 ⟨rfl,hb5⟩
           have HT5:Hid (Touch W4 w5 [k]):=HT.out.trans (Touch.of_below hb5 [k])
           have ho5:=own_later HO.out hb5
           have y2:w5.cell? ⟨w3.heap.size,2,none⟩=some (Sz (some ⟨k,0,none⟩) n kc):=bxc (HFX.out w5 HT5.out).1 rfl
           have hfz:=ho5.frozenAt j
           obtain⟨u,hco⟩:∃ u,w5.cell? ⟨k,j,none⟩=some u:=by rw[ho5.cellAt j (by omega)];exact⟨_,List.getElem?_eq_getElem (by rw[List.length_map,mixI_len HA.out HN.out.2.1];exact hlt)⟩
           have HM:Hid ((w5.setCell ⟨k,j,none⟩ (I O 32)).ownsRow w2.heap.size 3 1 (Sz (some ⟨k,0,none⟩) n kc) n ((mixI (clrM x y zs) zs (j+1)).map (Value.int .i64))):=by
             have h9:=(ho5.stored j (I O 32)).1
             have h8:=mixI_set HA.out HN.out.2.1 hlt
             rw[HAJ.out,if_pos HGO.out] at h8
             rw[← h8];exact h9
           have HT6:Hid (Touch W4 (w5.setCell ⟨k,j,none⟩ (I O 32)) [k]):=HT5.out.trans (Touch.set w5 k j (I O 32) (List.mem_singleton.2 rfl))
           clear ho5 hb5
           go_wp2
           go_roundw
           case rel=>exact⟨j+1,by omega,by go_num,HM.out,HT6.out⟩
           case measure=>simp[intOf];omega
         · have HGO:Hid (goesM x y zs j=true):=by show _=_;rw[HNQ.out,v0,v1,v2];simp
           go_wp2_with fail
           refine(qd.out _).mono ?_
           rintro e w5 ⟨rfl,hb5⟩
           have HT5:Hid (Touch W4 w5 [k]):=HT.out.trans (Touch.of_below hb5 [k])
           have ho5:=own_later HO.out hb5
           have y2:w5.cell? ⟨w3.heap.size,2,none⟩=some (Sz (some ⟨k,0,none⟩) n kc):=bxc (HFX.out w5 HT5.out).1 rfl
           have hfz:=ho5.frozenAt j
           obtain⟨u,hco⟩:∃ u,w5.cell? ⟨k,j,none⟩=some u:=by rw[ho5.cellAt j (by omega)];exact⟨_,List.getElem?_eq_getElem (by rw[List.length_map,mixI_len HA.out HN.out.2.1];exact hlt)⟩
           have HM:Hid ((w5.setCell ⟨k,j,none⟩ (I O 32)).ownsRow w2.heap.size 3 1 (Sz (some ⟨k,0,none⟩) n kc) n ((mixI (clrM x y zs) zs (j+1)).map (Value.int .i64))):=by
             have h9:=(ho5.stored j (I O 32)).1
             have h8:=mixI_set HA.out HN.out.2.1 hlt
             rw[HAJ.out,if_pos HGO.out] at h8
             rw[← h8];exact h9
           have HT6:Hid (Touch W4 (w5.setCell ⟨k,j,none⟩ (I O 32)) [k]):=HT5.out.trans (Touch.set w5 k j (I O 32) (List.mem_singleton.2 rfl))
           clear ho5 hb5
           go_wp2
           go_roundw
           case rel=>exact⟨j+1,by omega,by go_num,HM.out,HT6.out⟩
           case measure=>simp[intOf];omega
         · have HGO:Hid (goesM x y zs j=false):=by show _=_;rw[HNQ.out,v0,v1];simp
           go_wp2_with fail
           refine(qd.out _).mono ?_
           rintro e w5 ⟨rfl,hb5⟩
           have HT5:Hid (Touch W4 w5 [k]):=HT.out.trans (Touch.of_below hb5 [k])
           have ho5:=own_later HO.out hb5
           have HM:Hid (w5.ownsRow w2.heap.size 3 1 (Sz (some ⟨k,0,none⟩) n kc) n ((mixI (clrM x y zs) zs (j+1)).map (Value.int .i64))):=by
             show World.ownsRow _ _ _ _ _ _ _
             rw[mixI_same HA.out HN.out.2.1 hlt (by rw[HAJ.out,if_neg (by rw[HGO.out];simp)];exact HE.out.1)];exact ho5
           clear ho5 hb5
           go_wp2
           go_roundw
           case rel=>exact⟨j+1,by omega,by go_num,HM.out,HT5.out⟩
           case measure=>simp[intOf];omega
         · have HGO:Hid (goesM x y zs j=false):=by show _=_;rw[HNQ.out,v0,v1,v2];simp
           go_wp2_with fail
           refine(qd.out _).mono ?_
           rintro e w5 ⟨rfl,hb5⟩
           have HT5:Hid (Touch W4 w5 [k]):=HT.out.trans (Touch.of_below hb5 [k])
           have ho5:=own_later HO.out hb5
           have HM:Hid (w5.ownsRow w2.heap.size 3 1 (Sz (some ⟨k,0,none⟩) n kc) n ((mixI (clrM x y zs) zs (j+1)).map (Value.int .i64))):=by
             show World.ownsRow _ _ _ _ _ _ _
             rw[mixI_same HA.out HN.out.2.1 hlt (by rw[HAJ.out,if_neg (by rw[HGO.out];simp)];exact HE.out.1)];exact ho5
           clear ho5 hb5
           go_wp2
           go_roundw
           case rel=>exact⟨j+1,by omega,by go_num,HM.out,HT5.out⟩
           case measure=>simp[intOf];omega
         · have HGO:Hid (goesM x y zs j=true):=by show _=_;rw[HNQ.out,v0,v1,v2,v3];simp
           go_wp2_with fail
           refine(qd.out _).mono ?_
           rintro e w5 ⟨rfl,hb5⟩
           have HT5:Hid (Touch W4 w5 [k]):=HT.out.trans (Touch.of_below hb5 [k])
           have ho5:=own_later HO.out hb5
           have y2:w5.cell? ⟨w3.heap.size,2,none⟩=some (Sz (some ⟨k,0,none⟩) n kc):=bxc (HFX.out w5 HT5.out).1 rfl
           have hfz:=ho5.frozenAt j
           obtain⟨u,hco⟩:∃ u,w5.cell? ⟨k,j,none⟩=some u:=by rw[ho5.cellAt j (by omega)];exact⟨_,List.getElem?_eq_getElem (by rw[List.length_map,mixI_len HA.out HN.out.2.1];exact hlt)⟩
           have HM:Hid ((w5.setCell ⟨k,j,none⟩ (I O 32)).ownsRow w2.heap.size 3 1 (Sz (some ⟨k,0,none⟩) n kc) n ((mixI (clrM x y zs) zs (j+1)).map (Value.int .i64))):=by
             have h9:=(ho5.stored j (I O 32)).1
             have h8:=mixI_set HA.out HN.out.2.1 hlt
             rw[HAJ.out,if_pos HGO.out] at h8
             rw[← h8];exact h9
           have HT6:Hid (Touch W4 (w5.setCell ⟨k,j,none⟩ (I O 32)) [k]):=HT5.out.trans (Touch.set w5 k j (I O 32) (List.mem_singleton.2 rfl))
           clear ho5 hb5
           go_wp2
           go_roundw
           case rel=>exact⟨j+1,by omega,by go_num,HM.out,HT6.out⟩
           case measure=>simp[intOf];omega
         · have HGO:Hid (goesM x y zs j=false):=by show _=_;rw[HNQ.out,v0,v1,v2];simp
           go_wp2_with fail
           refine(qd.out _).mono ?_
           rintro e w5 ⟨rfl,hb5⟩
           have HT5:Hid (Touch W4 w5 [k]):=HT.out.trans (Touch.of_below hb5 [k])
           have ho5:=own_later HO.out hb5
           have HM:Hid (w5.ownsRow w2.heap.size 3 1 (Sz (some ⟨k,0,none⟩) n kc) n ((mixI (clrM x y zs) zs (j+1)).map (Value.int .i64))):=by
             show World.ownsRow _ _ _ _ _ _ _
             rw[mixI_same HA.out HN.out.2.1 hlt (by rw[HAJ.out,if_neg (by rw[HGO.out];simp)];exact HE.out.1)];exact ho5
           clear ho5 hb5
           go_wp2
           go_roundw
           case rel=>exact⟨j+1,by omega,by go_num,HM.out,HT5.out⟩
           case measure=>simp[intOf];omega
         · have HGO:Hid (goesM x y zs j=false):=by show _=_;rw[HNQ.out,v0,v1,v2,v3];simp
           go_wp2_with fail
           refine(qd.out _).mono ?_
           rintro e w5 ⟨rfl,hb5⟩
           have HT5:Hid (Touch W4 w5 [k]):=HT.out.trans (Touch.of_below hb5 [k])
           have ho5:=own_later HO.out hb5
           have HM:Hid (w5.ownsRow w2.heap.size 3 1 (Sz (some ⟨k,0,none⟩) n kc) n ((mixI (clrM x y zs) zs (j+1)).map (Value.int .i64))):=by
             show World.ownsRow _ _ _ _ _ _ _
             rw[mixI_same HA.out HN.out.2.1 hlt (by rw[HAJ.out,if_neg (by rw[HGO.out];simp)];exact HE.out.1)];exact ho5
           clear ho5 hb5
           go_wp2
           go_roundw
           case rel=>exact⟨j+1,by omega,by go_num,HM.out,HT5.out⟩
           case measure=>simp[intOf];omega
       · have e4:(r==-1)=false:=by simpa using e1
         have wj9:(j:Int)=q:=e3
         clear e1 e3
         have h7:(decide (x≤(j:Int))=true∧decide ((j:Int) < y)=true)∨(decide (x≤(j:Int))=false)∨(decide (x≤(j:Int))=true∧decide ((j:Int) < y)=false):=by
           cases hh1:decide (x≤(j:Int)) <;> cases hh2:decide ((j:Int) < y) <;> simp
         rcases h7 with ⟨v0,v1⟩ | ⟨v0⟩ | ⟨v0,v1⟩
         · have HGO:Hid (goesM x y zs j=true):=by show _=_;rw[HNQ.out,← wj9,v0,v1];simp
           clear wj9 wq HNQ
           go_wp2_with fail
           refine(qd.out _).mono ?_
           rintro e w5 ⟨rfl,hb5⟩
           have HT5:Hid (Touch W4 w5 [k]):=HT.out.trans (Touch.of_below hb5 [k])
           have ho5:=own_later HO.out hb5
           have y2:w5.cell? ⟨w3.heap.size,2,none⟩=some (Sz (some ⟨k,0,none⟩) n kc):=bxc (HFX.out w5 HT5.out).1 rfl
           have hfz:=ho5.frozenAt j
           obtain⟨u,hco⟩:∃ u,w5.cell? ⟨k,j,none⟩=some u:=by rw[ho5.cellAt j (by omega)];exact⟨_,List.getElem?_eq_getElem (by rw[List.length_map,mixI_len HA.out HN.out.2.1];exact hlt)⟩
           have HM:Hid ((w5.setCell ⟨k,j,none⟩ (I O 32)).ownsRow w2.heap.size 3 1 (Sz (some ⟨k,0,none⟩) n kc) n ((mixI (clrM x y zs) zs (j+1)).map (Value.int .i64))):=by
             have h9:=(ho5.stored j (I O 32)).1
             have h8:=mixI_set HA.out HN.out.2.1 hlt
             rw[HAJ.out,if_pos HGO.out] at h8
             rw[← h8];exact h9
           have HT6:Hid (Touch W4 (w5.setCell ⟨k,j,none⟩ (I O 32)) [k]):=HT5.out.trans (Touch.set w5 k j (I O 32) (List.mem_singleton.2 rfl))
           clear ho5 hb5
           go_wp2
           go_roundw
           case rel=>exact⟨j+1,by omega,by go_num,HM.out,HT6.out⟩
           case measure=>simp[intOf];omega
         · have HGO:Hid (goesM x y zs j=false):=by show _=_;rw[HNQ.out,← wj9,v0];simp
           clear wj9 wq HNQ
           go_wp2_with fail
           refine(qd.out _).mono ?_
           rintro e w5 ⟨rfl,hb5⟩
           have HT5:Hid (Touch W4 w5 [k]):=HT.out.trans (Touch.of_below hb5 [k])
           have ho5:=own_later HO.out hb5
           have HM:Hid (w5.ownsRow w2.heap.size 3 1 (Sz (some ⟨k,0,none⟩) n kc) n ((mixI (clrM x y zs) zs (j+1)).map (Value.int .i64))):=by
             show World.ownsRow _ _ _ _ _ _ _
             rw[mixI_same HA.out HN.out.2.1 hlt (by rw[HAJ.out,if_neg (by rw[HGO.out];simp)];exact HE.out.1)];exact ho5
           clear ho5 hb5
           go_wp2
           go_roundw
           case rel=>exact⟨j+1,by omega,by go_num,HM.out,HT5.out⟩
           case measure=>simp[intOf];omega
         · have HGO:Hid (goesM x y zs j=false):=by show _=_;rw[HNQ.out,← wj9,v0,v1];simp
           clear wj9 wq HNQ
           go_wp2_with fail
           refine(qd.out _).mono ?_
           rintro e w5 ⟨rfl,hb5⟩
           have HT5:Hid (Touch W4 w5 [k]):=HT.out.trans (Touch.of_below hb5 [k])
           have ho5:=own_later HO.out hb5
           have HM:Hid (w5.ownsRow w2.heap.size 3 1 (Sz (some ⟨k,0,none⟩) n kc) n ((mixI (clrM x y zs) zs (j+1)).map (Value.int .i64))):=by
             show World.ownsRow _ _ _ _ _ _ _
             rw[mixI_same HA.out HN.out.2.1 hlt (by rw[HAJ.out,if_neg (by rw[HGO.out];simp)];exact HE.out.1)];exact ho5
           clear ho5 hb5
           go_wp2
           go_roundw
           case rel=>exact⟨j+1,by omega,by go_num,HM.out,HT5.out⟩
           case measure=>simp[intOf];omega
     · have e:j=n:=by omega
       subst e
       rw[mixI_full HA.out HN.out.2.1] at ho
       have g0:=bxc (j:=0) fq rfl
       have g1:=bxc (j:=1) fq rfl
       have g2:=bxc (j:=2) fq rfl
       have g3:=bxc (j:=3) fq rfl
       have g4:=bxc (j:=4) fq rfl
       have g5:=bxc (j:=5) fq rfl
       have bR:Below w.heap.size w wr:=ht.below (HB1.out.trans (HB4.out.mono HB1.out.size)) (by have:=HKQ.out.1;omega) (fun z hz=>by simp at hz;omega)
       have HLD:(loadVar 29 ⟨w.heap.size+1,0,none⟩).run Tryd.prog (wr.setRow (w.heap.size+1) #[I O W,I O H,Sz (some ⟨k,0,none⟩) j kc,I O x3,I O x4,.bool x5])=.ok (.agg #[I O W,I O H,Sz (some ⟨k,0,none⟩) j kc,I O x3,I O x4,.bool x5]) (wr.setRow (w.heap.size+1) #[I O W,I O H,Sz (some ⟨k,0,none⟩) j kc,I O x3,I O x4,.bool x5]):=run_loadVar_row _ _ _ _ _ _ _ (setRow_heap _ _ _ _ _ _ fr) Tryd.underlying29 rfl (by kernel_rfl)
       have HO:Hid (_∧_):=⟨own_low (own_offR ho (w.heap.size+1) #[I O W,I O H,Sz (some ⟨k,0,none⟩) j kc,I O x3,I O x4,.bool x5] HKQ.out.2.2.2.2.1) (show w.heap.size≤w2.heap.size from HKQ.out.2.2.2.2.2.2),below_setRow bR (Nat.le_add_right _ 1) #[I O W,I O H,Sz (some ⟨k,0,none⟩) j kc,I O x3,I O x4,.bool x5]⟩
       clear ho bR fq fg ht
       go_wp2_with (refine wpList_store_row rfl _ _ _ rfl _ _ rfl rfl _ _ fr (by kernel_rfl) rfl (by simp[Value.oneCell']) ?_)
       (try simp only[Exit.inBlock,Exit.then])
       refine bodyPost_ret (by simp[results,Tryd.results79,asAddr,Act.put,HLD];try rfl) rfl ?_
       refine⟨_,[k]++[],rfl,?_,by simp,HO.out.2,fun _=>by rw[HRR.out,ansG_yes HG.out];exact⟨k,kc,rfl,HO.out.1⟩⟩
       rw[HRR.out,ansG_yes HG.out]
       exact own_Grid (d:=((W:Int),(H:Int),clrM x y zs,x3,x4,x5,())) (F2:=[k]) (own_ints HA.out HO.out.1)
end Go.Proofs.YthodinpflcbklaaDoor
namespace Go.Proofs.YthodinpflcbklaaDoor
open Go.RowKit
set_option maxRecDepth 100000
def argM(al:List Int)(i:Nat)(none':Int):Int:=if at0 al i=0 then none' else at0 al i
theorem sarg_any(a:Option Addr)(n c:Nat)(al:List Int)(i:Nat)(d:Int)(w:World)(hl:al.length=n)(hr:RdI w a al)(hi:i≤10):
   Calls Tryd.prog 87 #[Sz a n c,I O i,I O d] w fun e w'=>e=.returned (I O (argM al i d))∧Below w.heap.size w w':=by
 unfold argM
 by_cases hlt:i < n
 · have hne:al≠[]:=by intro h;rw[h] at hl;simp at hl;omega
   obtain⟨b,off,rfl,hb,hc⟩:=hr.resolve_left hne
   obtain⟨x,hx⟩:∃ x,x=at0 al i:=⟨_,rfl⟩
   have g1:w.cell? ⟨b,off+i,none⟩=some (I O x):=by rw[hx];exact hc i (by omega)
   have h':(i:Int) < (n:Int):=by omega
   have hn':¬ (n:Int)≤(i:Int):=by omega
   rw[← hx]
   clear hc hne hr hx hl
   by_cases h0:x=0
   · subst h0
     rw[if_pos rfl]
     go_enter Tryd.func87,Tryd.ntmps87
     go_wp2
     go_ret
     exact⟨rfl,Below.refl _ _⟩
   · have d0:(x==0)=false:=by simpa using h0
     rw[if_neg h0]
     clear h0
     go_enter Tryd.func87,Tryd.ntmps87
     go_wp2
     go_ret
     exact⟨rfl,Below.refl _ _⟩
 · have e:at0 al i=0:=by unfold at0;rw[List.getElem?_eq_none (by omega)];rfl
   rw[e,if_pos rfl]
   have hn':(n:Int)≤(i:Int):=by omega
   clear hr hl e
   go_enter Tryd.func87,Tryd.ntmps87
   go_wp2
   go_ret
   exact⟨rfl,Below.refl _ _⟩
theorem below_setCells{B b:Nat}{a:World}:∀ (vs:List Value) (o:Nat) (w:World),Below B a w→B≤b→Below B a (w.setCells b o vs)
 | [],o,w,h,_=>h
 | v::r,o,w,h,hb=>below_setCells r (o+1) (w.setCell ⟨b,o,none⟩ v) (h.setCell (p:=⟨b,o,none⟩) hb v) hb
theorem setCells_other{b k:Nat}(hk:k≠b):∀ (vs:List Value) (o:Nat) (w:World),(w.setCells b o vs).heap[k]?=w.heap[k]?
 | [],o,w=>rfl
 | v::r,o,w=>(setCells_other hk r (o+1) (w.setCell ⟨b,o,none⟩ v)).trans (box_other v hk)
def GAns(w0 w':World)(e:Ending)(D:GrD):Prop:=
 ∃ a n c F,e=.returned (.agg #[I O D.1,I O D.2.1,Sz a n c,I O D.2.2.2.1,I O D.2.2.2.2.1,.bool D.2.2.2.2.2.1])∧Own (.sl .int) w' w0.heap.size [Sz a n c] D.2.2.1 F∧Below w0.heap.size w0 w'
theorem gans_of{w0 w':World}{e:Ending}{D:GrD}{o:List Value}{F:List Nat}(he:e=.returned (.agg o.toArray))(ho:Own shGrid w' w0.heap.size o D F)(hb:Below w0.heap.size w0 w'):GAns w0 w' e D:=by
 obtain⟨a2,n2,c2,F2,rfl,_,h2⟩:=openO_Grid ho
 exact⟨a2,n2,c2,F2,he,h2,hb⟩
theorem sgo_any{g:GrD}{a:Option Addr}{n c:Nat}(x y:Int)(w:World)(hg:gokB g=true)(hr:Reads (.sl .int) w [Sz a n c] g.2.2.1):
   Calls Tryd.prog 44 #[.agg #[I O g.1,I O g.2.1,Sz a n c,I O g.2.2.2.1,I O g.2.2.2.2.1,.bool g.2.2.2.2.2.1],I O x,I O y] w fun e w'=>GAns w w' e (goD g x y):=by
 obtain⟨x0,x1,zs,x3,x4,x5,u⟩:=g
 refine(specGridGo_row x0 x1 x3 x4 a n c x5 zs x y (goD (x0,x1,zs,x3,x4,x5,()) x y) (by rw[ansG_yes hg];rfl) w hr).mono ?_
 rintro e w' ⟨o,F,he,ho,_,hb,_⟩
 exact gans_of he ho hb
theorem sclear_any{g:GrD}{a:Option Addr}{n c:Nat}(x y:Int)(w:World)(hg:gokB g=true)(hr:Reads (.sl .int) w [Sz a n c] g.2.2.1):
   Calls Tryd.prog 79 #[.agg #[I O g.1,I O g.2.1,Sz a n c,I O g.2.2.2.1,I O g.2.2.2.2.1,.bool g.2.2.2.2.2.1],I O x,I O y] w fun e w'=>GAns w w' e (g.1,g.2.1,clrM x y g.2.2.1,g.2.2.2.1,g.2.2.2.2.1,g.2.2.2.2.2.1,()):=by
 obtain⟨x0,x1,zs,x3,x4,x5,u⟩:=g
 refine(specGridClear_row x0 x1 x3 x4 a n c x5 zs x y (x0,x1,clrM x y zs,x3,x4,x5,()) (by rw[ansG_yes hg]) w hr).mono ?_
 rintro e w' ⟨o,F,he,ho,_,hb,_⟩
 exact gans_of he ho hb
theorem sscroll_any{g:GrD}{a:Option Addr}{n c:Nat}(w:World)(hg:gokB g=true)(hr:Reads (.sl .int) w [Sz a n c] g.2.2.1):
   Calls Tryd.prog 71 #[.agg #[I O g.1,I O g.2.1,Sz a n c,I O g.2.2.2.1,I O g.2.2.2.2.1,.bool g.2.2.2.2.2.1]] w fun e w'=>GAns w w' e (g.1,g.2.1,scr 32 g.1.toNat g.2.2.1,g.2.2.2.1,g.2.2.2.2.1,g.2.2.2.2.2.1,()):=by
 obtain⟨x0,x1,zs,x3,x4,x5,u⟩:=g
 refine(specGridScroll_row x0 x1 x3 x4 a n c x5 zs (x0,x1,scr 32 x0.toNat zs,x3,x4,x5,()) (by rw[ansG_yes hg]) w hr).mono ?_
 rintro e w' ⟨o,F,he,ho,_,hb,_⟩
 exact gans_of he ho hb
end Go.Proofs.YthodinpflcbklaaDoor
