/-
  Parts of the road to VB, joined: TmV, VtI, VtS, VtZ.
-/
import Derived.Test.YthodinpflcbklaaDoorM8VB
import Derived.Test.YthodinpflcbklaaDoorM7VB
import Derived.Deep.RegionHeld3
import Derived.Test.YthodinpflcbklaaDoorM18VB
import Derived.Test.YthodinpflcbklaaDoorM6VB
import Derived.Test.YthodinpflcbklaaDoorM17VB
import Derived.Test.YthodinpflcbklaaDoorM32VB
import Derived.Test.YthodinpflcbklaaDoorM4VB
open Go.Value renaming int → I,slice → Sz
open Go.IntKind renaming i64 → O
open List renaming setIfInBounds_toArray → lA,getElem_toArray → lB,getElem_cons_succ → lC,getElem_cons_zero → lD,set_cons_zero → lE,set_cons_succ → lF
set_option linter.unusedVariables false
set_option linter.unusedSimpArgs false
set_option maxHeartbeats 40000000
namespace Go.Proofs.YthodinpflcbklaaDoor
open Go.RowKit
set_option maxRecDepth 100000
def stVt(u v:Value):Sem Unit:=Instr.storeAt 31 u v
theorem stVt_of(u v:Value):Instr.storeAt 31 u v=stVt u v:=rfl
theorem run_stVt(w:World)(b:Nat)(x0 x1 x3 x4 x6 x9:Int)(x5:Bool)(a2 a7 a8:Option Addr)(n2 c2 n7 c7 n8 c8:Nat)(hg:w.heap[b]?=some (.cells #[I O 0,I O 0,Sz none 0 0,I O 0,I O 0,.bool false,I O 0,Sz none 0 0,Sz none 0 0,I O 0] 31 (0,0))):
   (stVt (.pointer (some ⟨b,0,none⟩)) (.agg #[I O x0,I O x1,Sz a2 n2 c2,I O x3,I O x4,.bool x5,I O x6,Sz a7 n7 c7,Sz a8 n8 c8,I O x9])).run Tryd.prog w=.ok () (w.setRow b #[I O x0,I O x1,Sz a2 n2 c2,I O x3,I O x4,.bool x5,I O x6,Sz a7 n7 c7,Sz a8 n8 c8,I O x9]):=by
 have h:=run_storeVar_row (P:=Tryd.prog) w b 31 31 _ #[I O x0,I O x1,Sz a2 n2 c2,I O x3,I O x4,.bool x5,I O x6,Sz a7 n7 c7,Sz a8 n8 c8,I O x9] hg (by kernel_rfl) rfl (by simp[Value.oneCell'])
 simp only[stVt,Instr.storeAt,Instr.sureAddr,Sem.run_bind,Sem.run_pure,Result.andThen_ok]
 exact h
attribute [local go_sem ↓] stVt_of
attribute [local go_sem] run_stVt
theorem cell_offR{w:World}{b t j:Nat}{cs:Array Value}{u:Value}(hne:t≠b)(h:w.cell? ⟨t,j,none⟩=some u):(w.setRow b cs).cell? ⟨t,j,none⟩=some u:=
 (cell_setRow_other w b cs ⟨t,j,none⟩ hne).trans h
theorem vt_any(B t p g n:Nat)(W H X Y:Int)(wr:Bool)(zs:List Int)(st:Int)(av:Value)(al:List Int)(pv:Value)(pl:List Int)(be:Int)(fv:Value)(w:World)(h:TermAt w B t p g n W H X Y wr zs st av al pv pl be fv)(hn:n≤1048576)(hz:∀ i,i < n→-1000000000≤at0 zs i∧at0 zs i≤1000000000):
   Calls Tryd.prog 39 #[.pointer (some ⟨t,0,none⟩)] w fun e w'=>∃ k,e=.returned (.agg #[I O W,I O H,Sz (some ⟨k,0,none⟩) n n,I O X,I O Y,.bool wr,I O st,av,pv,I O be])∧w'.ownsRow w.heap.size 3 1 (Sz (some ⟨k,0,none⟩) n n) n ((up 32 zs).map (Value.int .i64))∧Below w.heap.size w w':=by
 obtain⟨a2,c2,hv2⟩:=own_formV h.args
 obtain⟨a3,c3,hv3⟩:=own_formV h.part
 subst hv2;subst hv3
 obtain⟨n2,hn2⟩:∃ m,m=al.length:=⟨_,rfl⟩
 obtain⟨n3,hn3⟩:∃ m,m=pl.length:=⟨_,rfl⟩
 rw[← hn2,← hn3] at h
 rw[← hn2,← hn3]
 obtain⟨W1,hW1⟩:∃ V,V=w.alloc (.cells #[I O 0,I O 0,Sz none 0 0,I O 0,I O 0,.bool false,I O 0,Sz none 0 0,Sz none 0 0,I O 0] 31):=⟨_,rfl⟩
 have bW1:Below w.heap.size w W1:=by rw[hW1];exact(Below.refl _ _).alloc (Nat.le_refl _) _
 have zW1:W1.heap.size=w.heap.size+1:=by rw[hW1];simp
 have hbox:W1.heap[w.heap.size]?=some (.cells #[I O 0,I O 0,Sz none 0 0,I O 0,I O 0,.bool false,I O 0,Sz none 0 0,Sz none 0 0,I O 0] 31 (0,0)):=by rw[hW1];exact heap_alloc_new w _
 have ht:=box_lt h.box
 have hT1:W1.heap[t]?=_:=(bW1.block _ ht).trans h.box
 have hs1:SheetAt W1 B p g n W H X Y wr zs:=h.sheet.later bW1
 have qg:Hid (∀ w',w'=W1.drewN 1→Calls Tryd.prog 58 #[.pointer (some ⟨p,0,none⟩)] w' fun e w''=>∃ k,e=.returned (.agg #[I O W,I O H,Sz (some ⟨k,0,none⟩) n n,I O X,I O Y,.bool wr])∧w''.ownsRow w'.heap.size 3 1 (Sz (some ⟨k,0,none⟩) n n) n ((up 32 zs).map (Value.int .i64))∧Below w'.heap.size w' w''):=fun w' hw=>by subst hw;exact grid_any p g n B W H X Y wr zs _ (hs1.drewN 1) hn hz
 have y0:W1.cell? ⟨t,0,none⟩=some (.pointer (some ⟨p,0,none⟩)):=bxc hT1 rfl
 have y1:W1.cell? ⟨t,1,none⟩=some (I O st):=bxc hT1 rfl
 have y2:W1.cell? ⟨t,2,none⟩=some (Sz a2 n2 c2):=bxc hT1 rfl
 have y3:W1.cell? ⟨t,3,none⟩=some (Sz a3 n3 c3):=bxc hT1 rfl
 have y4:W1.cell? ⟨t,4,none⟩=some (I O be):=bxc hT1 rfl
 have hbT:∀ w',Below W1.heap.size W1 w'→∀ j u,W1.cell? ⟨t,j,none⟩=some u→w'.cell? ⟨t,j,none⟩=some u:=fun w' hb j u hu=>(hb.cell (p:=⟨t,j,none⟩) (by rw[zW1];exact Nat.lt_succ_of_lt ht)).trans hu
 have HW:Hid (W1=_):=hW1
 have HB:Hid (W1.heap[w.heap.size]?=_∧W1.heap.size=w.heap.size+1∧Below w.heap.size w W1):=⟨hbox,zW1,bW1⟩
 have hne:t≠w.heap.size:=Nat.ne_of_lt ht
 clear h hW1 hbox hs1 hz hT1 hn2 hn3 zW1 bW1
 go_enter Tryd.func39,Tryd.ntmps39
 go_wp2_with fail
 rw[← HW.out]
 go_region_held3 (fun w'=>w'.cell? ⟨t,0,none⟩=some (.pointer (some ⟨p,0,none⟩))∧w'.cell? ⟨t,1,none⟩=some (I O st)∧w'.cell? ⟨t,2,none⟩=some (Sz a2 n2 c2)∧w'.cell? ⟨t,3,none⟩=some (Sz a3 n3 c3)∧w'.cell? ⟨t,4,none⟩=some (I O be))
   (first | (refine⟨?_,?_,?_,?_,?_⟩ <;> first | assumption | (refine hbT _ ?_ _ _ ?_ <;> assumption) | (refine cell_offR hne ?_;assumption) | (refine cell_offR hne ?_;refine hbT _ ?_ _ _ ?_ <;> assumption)) | go_keep)
   (first | (go_at_call 58;refine(qg.out _ (by rfl)).mono ?_;rintro e w9 ⟨k,rfl,ho,hb9⟩;have hb9':Below W1.heap.size W1 w9:=(Below.refl _ W1).drew.trans hb9;have i9:w9.heap[w.heap.size]?=_:=(hb9'.block _ (by rw[HB.out.2.1];exact Nat.lt_succ_self _)).trans HB.out.1))
 all_goals (
   have hk:=(ho.lt k rfl).1
   have hk2:w.heap.size≠k:=by have:=HB.out.2.1;have h9:W1.drew.heap.size=W1.heap.size:=rfl;omega
   have HLD:(loadVar 31 ⟨w.heap.size,0,none⟩).run Tryd.prog (w9.setRow w.heap.size #[I O W,I O H,Sz (some ⟨k,0,none⟩) n n,I O X,I O Y,.bool wr,I O st,Sz a2 n2 c2,Sz a3 n3 c3,I O be])=.ok (.agg #[I O W,I O H,Sz (some ⟨k,0,none⟩) n n,I O X,I O Y,.bool wr,I O st,Sz a2 n2 c2,Sz a3 n3 c3,I O be]) (w9.setRow w.heap.size #[I O W,I O H,Sz (some ⟨k,0,none⟩) n n,I O X,I O Y,.bool wr,I O st,Sz a2 n2 c2,Sz a3 n3 c3,I O be]):=run_loadVar_row _ _ _ _ _ _ _ (setRow_heap _ _ _ _ _ _ i9) Tryd.underlying31 rfl (by kernel_rfl)
   have o0:=own_low ho (show w.heap.size≤_ by have:=HB.out.2.1;have h9:W1.drew.heap.size=W1.heap.size:=rfl;omega)
   have HO:Hid (_∧_):=⟨own_offR o0 w.heap.size #[I O W,I O H,Sz (some ⟨k,0,none⟩) n n,I O X,I O Y,.bool wr,I O st,Sz a2 n2 c2,Sz a3 n3 c3,I O be] hk2,below_setRow (HB.out.2.2.trans (hb9'.mono HB.out.2.2.size)) (Nat.le_refl _) #[I O W,I O H,Sz (some ⟨k,0,none⟩) n n,I O X,I O Y,.bool wr,I O st,Sz a2 n2 c2,Sz a3 n3 c3,I O be]⟩
   clear o0 ho hb9 hb9' hk hk2 hbT
   go_wp2
   (try simp only[Exit.inBlock,Exit.then])
   refine bodyPost_ret (by simp[results,Tryd.results39,asAddr,Act.put,HLD];try rfl) rfl ?_
   exact⟨k,rfl,HO.out⟩)
end Go.Proofs.YthodinpflcbklaaDoor
namespace Go.Proofs.YthodinpflcbklaaDoor
open Go.RowKit
theorem bel_dr{B:Nat}{x w:World}(h:Below B x w)(q:Nat):Below B x (w.drewN q):=⟨h.os,h.tape,h.output,h.size,h.block⟩
theorem stateOk_any(s:Int)(w:World):
   Calls Tryd.prog 48 #[I O s] w fun e w'=>e=.returned (.bool (statB s))∧w'=w:=by
 by_cases h0:s=0
 · subst h0
   go_enter Tryd.func48,Tryd.ntmps48
   go_wp2
   go_ret
   exact⟨rfl,rfl⟩
 · have d0:(s==0)=false:=by simpa using h0
   by_cases h1:s=1
   · subst h1
     go_enter Tryd.func48,Tryd.ntmps48
     go_wp2
     go_ret
     exact⟨rfl,rfl⟩
   · have d1:(s==1)=false:=by simpa using h1
     by_cases h2:s=2
     · subst h2
       go_enter Tryd.func48,Tryd.ntmps48
       go_wp2
       go_ret
       exact⟨rfl,rfl⟩
     · have d2:(s==2)=false:=by simpa using h2
       have E:Hid (statB s=false):=stat_no (by omega)
       clear h0 h1 h2
       go_enter Tryd.func48,Tryd.ntmps48
       go_wp2
       go_ret
       exact⟨by rw[E.out];rfl,rfl⟩
set_option maxRecDepth 100000 in
theorem argsOk_any (x0 x1 x3 x4 st be:Int) (x5:Bool) (a2 a7 a8:Option Addr) (n2 c2 n7 c7 n8 c8:Nat) (ag:List Int) (w:World) (hr:Reads (.sl .int) w [Sz a7 n7 c7] ag) :
   Calls Tryd.prog 49 #[.agg #[I O x0,I O x1,Sz a2 n2 c2,I O x3,I O x4,.bool x5,I O st,Sz a7 n7 c7,Sz a8 n8 c8,I O be]] w fun e w'=>e=.returned (.bool (argsB ag st))∧Below w.heap.size w w':=by
 obtain⟨hl,hrd,hc,hm⟩:=reads_ints hr
 unfold maxLen at hm
 have HR:Hid (RdI w a7 ag∧ag.length=n7):=⟨hrd,hl⟩
 clear hr hl hrd
 obtain⟨W0,hW0⟩:∃ W0,W0=w.alloc (.cells #[I O x0,I O x1,Sz a2 n2 c2,I O x3,I O x4,.bool x5,I O st,Sz a7 n7 c7,Sz a8 n8 c8,I O be] 31):=⟨_,rfl⟩
 have bW0:Below w.heap.size w W0:=by rw[hW0];exact(Below.refl _ _).alloc (Nat.le_refl _) _
 have hbox:W0.heap[w.heap.size]?=some (.cells #[I O x0,I O x1,Sz a2 n2 c2,I O x3,I O x4,.bool x5,I O st,Sz a7 n7 c7,Sz a8 n8 c8,I O be] 31 (0,0)):=by rw[hW0];exact heap_alloc_new w _
 have zW0:W0.heap.size=w.heap.size+1:=by rw[hW0];simp
 have HW0:Hid (W0=_):=hW0
 have HBX:Hid (∀ w',Below W0.heap.size W0 w'→w'.heap[w.heap.size]?=some (.cells #[I O x0,I O x1,Sz a2 n2 c2,I O x3,I O x4,.bool x5,I O st,Sz a7 n7 c7,Sz a8 n8 c8,I O be] 31 (0,0))):=fun w' h=>(h.block _ (by omega)).trans hbox
 clear hW0 hbox
 have HB0:Hid (Below w.heap.size w W0):=bW0
 go_enter Tryd.func49,Tryd.ntmps49
 go_wp2
 rw[← HW0.out]
 go_loopw [8] (fun i wr=>∃ k:Nat,k≤n7∧i=I O k∧(∀ j,j < k→argB (ag[j]?.getD 0)=true)∧∃ q,wr=W0.drewN q) (fun i _=>n7 - (intOf i).toNat)
 case atStart=>exact⟨0,Nat.zero_le _,rfl,fun j hj=>by omega,0,rfl⟩
 case round =>
   obtain⟨k,hk,rfl,hall,q,rfl⟩:=hrel
   have HA:Hid (∀ j,j < k→argB (ag[j]?.getD 0)=true):=hall
   clear hall
   by_cases hlt:k < n7
   · have hne:ag≠[]:=by intro h;have:=HR.out.2;subst h;simp at this;omega
     obtain⟨b,off,rfl,hb,hcell⟩:=HR.out.1.resolve_left hne
     obtain⟨v,hv⟩:∃ v,v=ag[k]?.getD 0:=⟨_,rfl⟩
     have g1:(W0.drewN q).cell? ⟨b,off+k,none⟩=some (I O v):=by rw[hv];exact(HB0.out.cell (p:=⟨b,off+k,none⟩) hb).trans (hcell k (by have:=HR.out.2;omega))
     have hlt':(k:Int) < (n7:Int):=by omega
     have HV:Hid (v=ag[k]?.getD 0):=hv
     clear hcell hne hv
     by_cases v1:v < 0
     · have E:Hid (argsB ag st=false):=argsB_some (i:=k) (by rw[HR.out.2];exact hlt) (by rw[← HV.out];unfold argB;rw[decide_eq_false (by omega)];rfl)
       go_wp2
       go_ret
       exact⟨by rw[E.out];rfl,bel_dr HB0.out _⟩
     · by_cases v2:9999 < v
       · have E:Hid (argsB ag st=false):=argsB_some (i:=k) (by rw[HR.out.2];exact hlt) (by rw[← HV.out];unfold argB;rw[decide_eq_false (p:=v≤9999) (by omega),Bool.and_false])
         go_wp2
         go_ret
         exact⟨by rw[E.out];rfl,bel_dr HB0.out _⟩
       · have HA2:Hid (∀ j,j < k+1→argB (ag[j]?.getD 0)=true):=fun j hj=>by
           by_cases e:j=k
           · subst e;rw[← HV.out];unfold argB;rw[decide_eq_true (by omega),decide_eq_true (by omega)];rfl
           · exact HA.out j (by omega)
         go_wp2
         go_roundw
         case rel=>exact⟨k+1,by omega,by go_num,HA2.out,_,rfl⟩
         case measure=>simp[intOf];omega
   · have e:k=n7:=by omega
     subst e
     have EE:Hid (argsB ag st=(decide (ag.length=0)||(decide (st=2)&&decide (ag.length≤4)))):=argsB_all (fun i hi=>HA.out i (by rw[← HR.out.2];exact hi))
     have i1:=HBX.out (W0.drewN q) (bel_dr (Below.refl _ _) q)
     have y6:(W0.drewN q).cell? ⟨w.heap.size,6,none⟩=some (I O st):=bxc i1 rfl
     have y7:(W0.drewN q).cell? ⟨w.heap.size,7,none⟩=some (Sz a7 k c7):=bxc i1 rfl
     by_cases h0:k=0
     · subst h0
       have E:Hid (argsB ag st=true):=by show _=_;rw[EE.out,HR.out.2];rfl
       go_wp2
       go_ret
       exact⟨by rw[E.out];rfl,bel_dr HB0.out _⟩
     · have d0:((k:Int)==0)=false:=by simp;omega
       by_cases hs:st=2
       · subst hs
         have E:Hid (argsB ag 2=decide ((k:Int)≤4)):=by
           show _=_
           rw[EE.out,HR.out.2,decide_eq_false h0,show decide ((k:Int)≤4)=decide (k≤4) from decide_eq_decide.2 (by omega)]
           simp
         clear h0
         go_wp2
         go_ret
         exact⟨by rw[E.out];rfl,bel_dr HB0.out _⟩
       · have d1:(st==2)=false:=by simpa using hs
         have E:Hid (argsB ag st=false):=by show _=_;rw[EE.out,HR.out.2,decide_eq_false h0,decide_eq_false hs];rfl
         clear h0 hs
         go_wp2
         go_ret
         exact⟨by rw[E.out];rfl,bel_dr HB0.out _⟩
set_option maxRecDepth 100000 in
theorem partOk_any (x0 x1 x3 x4 st be:Int) (x5:Bool) (a2 a7 a8:Option Addr) (n2 c2 n7 c7 n8 c8:Nat) (ps:List Int) (w:World) (hT:Tabs w) (hr:Reads (.sl .u8) w [Sz a8 n8 c8] ps) (hn:n8≤2097152) :
   Calls Tryd.prog 50 #[.agg #[I O x0,I O x1,Sz a2 n2 c2,I O x3,I O x4,.bool x5,I O st,Sz a7 n7 c7,Sz a8 n8 c8,I O be]] w fun e w'=>e=.returned (.bool (partB ps st))∧Below w.heap.size w w':=by
 obtain⟨hl,hrd,hc,hm⟩:=reads_bytes hr
 obtain⟨W0,hW0⟩:∃ W0,W0=w.alloc (.cells #[I O x0,I O x1,Sz a2 n2 c2,I O x3,I O x4,.bool x5,I O st,Sz a7 n7 c7,Sz a8 n8 c8,I O be] 31):=⟨_,rfl⟩
 have bW0:Below w.heap.size w W0:=by rw[hW0];exact(Below.refl _ _).alloc (Nat.le_refl _) _
 have hbox:W0.heap[w.heap.size]?=some (.cells #[I O x0,I O x1,Sz a2 n2 c2,I O x3,I O x4,.bool x5,I O st,Sz a7 n7 c7,Sz a8 n8 c8,I O be] 31 (0,0)):=by rw[hW0];exact heap_alloc_new w _
 have zW0:W0.heap.size=w.heap.size+1:=by rw[hW0];simp
 have HW0:Hid (W0=_):=hW0
 have HBX:Hid (∀ w',Below W0.heap.size W0 w'→w'.heap[w.heap.size]?=some (.cells #[I O x0,I O x1,Sz a2 n2 c2,I O x3,I O x4,.bool x5,I O st,Sz a7 n7 c7,Sz a8 n8 c8,I O be] 31 (0,0))):=fun w' h=>(h.block _ (by omega)).trans hbox
 clear hW0 hbox
 have q:Hid (Calls Tryd.prog 68 #[Sz a8 n8 c8] W0 fun e w''=>e=.returned (.bool (rbgB ps))∧Below W0.heap.size W0 w''):=implRbg_any a8 n8 c8 ps W0 (hT.later bW0) hl (hrd.later bW0) hn hc hm
 have HB0:Hid (Below w.heap.size w W0):=bW0
 unfold maxLen at hm
 have HL:Hid (ps.length=n8):=hl
 clear hr hl hrd hT
 by_cases h0:n8=0
 · subst h0
   have E:Hid (partB ps st=true):=by show _=_;unfold partB;rw[HL.out];rfl
   go_enter Tryd.func50,Tryd.ntmps50
   go_wp2
   go_ret
   exact⟨by rw[E.out];rfl,(Below.refl _ _).alloc (Nat.le_refl _) _⟩
 · have d0:((n8:Int)==0)=false:=by simp;omega
   by_cases hs:st=0
   · subst hs
     have E:Hid (partB ps 0=rbgB ps):=by show _=_;unfold partB;rw[HL.out,decide_eq_false h0];rfl
     obtain⟨r,hr⟩:∃ r,r=rbgB ps:=⟨_,rfl⟩
     rw[← hr] at q E
     clear h0 hr
     go_enter Tryd.func50,Tryd.ntmps50
     go_wp2_with fail
     rw[← HW0.out]
     refine q.out.mono ?_
     rintro e w2 ⟨rfl,hb2⟩
     go_wp2
     go_ret
     exact⟨by rw[E.out];rfl,HB0.out.trans (hb2.mono HB0.out.size)⟩
   · have d1:(st==0)=false:=by simpa using hs
     have E:Hid (partB ps st=false):=by show _=_;unfold partB;rw[HL.out,decide_eq_false h0,decide_eq_false hs];rfl
     clear h0 hs
     go_enter Tryd.func50,Tryd.ntmps50
     go_wp2
     go_ret
     exact⟨by rw[E.out];rfl,(Below.refl _ _).alloc (Nat.le_refl _) _⟩
set_option maxRecDepth 100000 in
theorem vtok_any (x0 x1 x3 x4 st be:Int) (x5:Bool) (a2 a7 a8:Option Addr) (n2 c2 n7 c7 n8 c8:Nat) (zs ag ps:List Int) (w:World) (hT:Tabs w) (hg:Reads (.sl .int) w [Sz a2 n2 c2] zs) (ha:Reads (.sl .int) w [Sz a7 n7 c7] ag) (hp:Reads (.sl .u8) w [Sz a8 n8 c8] ps) (hn:n8≤2097152) :
   Calls Tryd.prog 20 #[.agg #[I O x0,I O x1,Sz a2 n2 c2,I O x3,I O x4,.bool x5,I O st,Sz a7 n7 c7,Sz a8 n8 c8,I O be]] w fun e w'=>e=.returned (.bool (vtB ((x0,x1,zs,x3,x4,x5,()),st,ag,ps,be,())))∧Below w.heap.size w w':=by
 obtain⟨W0,hW0⟩:∃ W0,W0=w.alloc (.cells #[I O x0,I O x1,Sz a2 n2 c2,I O x3,I O x4,.bool x5,I O st,Sz a7 n7 c7,Sz a8 n8 c8,I O be] 31):=⟨_,rfl⟩
 have bW0:Below w.heap.size w W0:=by rw[hW0];exact(Below.refl _ _).alloc (Nat.le_refl _) _
 have hbox:W0.heap[w.heap.size]?=some (.cells #[I O x0,I O x1,Sz a2 n2 c2,I O x3,I O x4,.bool x5,I O st,Sz a7 n7 c7,Sz a8 n8 c8,I O be] 31 (0,0)):=by rw[hW0];exact heap_alloc_new w _
 have zW0:W0.heap.size=w.heap.size+1:=by rw[hW0];simp
 have HW0:Hid (W0=_):=hW0
 have HBX:Hid (∀ w',Below W0.heap.size W0 w'→w'.heap[w.heap.size]?=some (.cells #[I O x0,I O x1,Sz a2 n2 c2,I O x3,I O x4,.bool x5,I O st,Sz a7 n7 c7,Sz a8 n8 c8,I O be] 31 (0,0))):=fun w' h=>(h.block _ (by omega)).trans hbox
 clear hW0 hbox
 have HB0:Hid (Below w.heap.size w W0):=bW0
 have hz0:=bW0.size
 have qg:Hid (∀ b,gokB (x0,x1,zs,x3,x4,x5,())=b→Calls Tryd.prog 47 #[.agg #[I O x0,I O x1,Sz a2 n2 c2,I O x3,I O x4,.bool x5]] W0 fun e w''=>e=.returned (.bool b)∧Below W0.heap.size W0 w''):=fun b hb=>by rw[← hb];exact gok_any x0 x1 x3 x4 a2 n2 c2 x5 zs W0 (hg.later bW0)
 have qs:Hid (∀ w' b,statB st=b→Calls Tryd.prog 48 #[I O st] w' fun e w''=>e=.returned (.bool b)∧w''=w'):=fun w' b hb=>by rw[← hb];exact stateOk_any st w'
 have qa:Hid (∀ w' b,argsB ag st=b→Below w.heap.size w w'→Calls Tryd.prog 49 #[.agg #[I O x0,I O x1,Sz a2 n2 c2,I O x3,I O x4,.bool x5,I O st,Sz a7 n7 c7,Sz a8 n8 c8,I O be]] w' fun e w''=>e=.returned (.bool b)∧Below w'.heap.size w' w''):=fun w' b hb hw=>by rw[← hb];exact argsOk_any x0 x1 x3 x4 st be x5 a2 a7 a8 n2 c2 n7 c7 n8 c8 ag w' (ha.later hw)
 have qp:Hid (∀ w' b,partB ps st=b→Below w.heap.size w w'→Calls Tryd.prog 50 #[.agg #[I O x0,I O x1,Sz a2 n2 c2,I O x3,I O x4,.bool x5,I O st,Sz a7 n7 c7,Sz a8 n8 c8,I O be]] w' fun e w''=>e=.returned (.bool b)∧Below w'.heap.size w' w''):=fun w' b hb hw=>by rw[← hb];exact partOk_any x0 x1 x3 x4 st be x5 a2 a7 a8 n2 c2 n7 c7 n8 c8 ps w' (hT.later hw) (hp.later hw) hn
 clear hg ha hp hT bW0
 by_cases h0:gokB (x0,x1,zs,x3,x4,x5,())=true
 rotate_left
 · have h0':gokB (x0,x1,zs,x3,x4,x5,())=false:=by simpa using h0
   have hG:Hid (gokB (x0,x1,zs,x3,x4,x5,())=false):=h0'
   have E:Hid (vtB ((x0,x1,zs,x3,x4,x5,()),st,ag,ps,be,())=false):=vt_no (.inl h0')
   clear h0 h0'
   go_enter Tryd.func20,Tryd.ntmps20
   go_wp2_with fail
   rw[← HW0.out]
   refine(qg.out false hG.out).mono ?_
   rintro e w1 ⟨rfl,hb1⟩
   have s1:Hid (Below W0.heap.size W0 w1):=hb1
   clear hb1
   go_wp2
   go_ret
   exact⟨by rw[E.out];rfl,HB0.out.trans (s1.out.mono HB0.out.size)⟩
 have hG:Hid (gokB (x0,x1,zs,x3,x4,x5,())=true):=h0
 clear h0
 by_cases h1:statB st=true
 rotate_left
 · have h1':statB st=false:=by simpa using h1
   have hS:Hid (statB st=false):=h1'
   have E:Hid (vtB ((x0,x1,zs,x3,x4,x5,()),st,ag,ps,be,())=false):=vt_no (.inr (.inl h1'))
   clear h1 h1'
   go_enter Tryd.func20,Tryd.ntmps20
   go_wp2_with fail
   rw[← HW0.out]
   refine(qg.out true hG.out).mono ?_
   rintro e w1 ⟨rfl,hb1⟩
   have s1:Hid (Below W0.heap.size W0 w1):=hb1
   clear hb1
   have i1:=HBX.out w1 s1.out
   have y6:w1.cell? ⟨w.heap.size,6,none⟩=some (I O st):=bxc i1 rfl
   go_wp2_with fail
   refine(qs.out _ false hS.out).mono ?_
   rintro e w2 ⟨rfl,rfl⟩
   go_wp2
   go_ret
   exact⟨by rw[E.out];rfl,HB0.out.trans (s1.out.mono HB0.out.size)⟩
 have hS:Hid (statB st=true):=h1
 clear h1
 by_cases h2:argsB ag st=true
 rotate_left
 · have h2':argsB ag st=false:=by simpa using h2
   have hA:Hid (argsB ag st=false):=h2'
   have E:Hid (vtB ((x0,x1,zs,x3,x4,x5,()),st,ag,ps,be,())=false):=vt_no (.inr (.inr (.inl h2')))
   clear h2 h2'
   go_enter Tryd.func20,Tryd.ntmps20
   go_wp2_with fail
   rw[← HW0.out]
   refine(qg.out true hG.out).mono ?_
   rintro e w1 ⟨rfl,hb1⟩
   have s1:Hid (Below W0.heap.size W0 w1):=hb1
   clear hb1
   have i1:=HBX.out w1 s1.out
   have y6:w1.cell? ⟨w.heap.size,6,none⟩=some (I O st):=bxc i1 rfl
   go_wp2_with fail
   refine(qs.out _ true hS.out).mono ?_
   rintro e w2 ⟨rfl,rfl⟩
   have i2:=HBX.out w2 s1.out
   clear y6
   have y0:w2.cell? ⟨w.heap.size,0,none⟩=some (I O x0):=bxc i2 rfl
   have y1:w2.cell? ⟨w.heap.size,1,none⟩=some (I O x1):=bxc i2 rfl
   have y2:w2.cell? ⟨w.heap.size,2,none⟩=some (Sz a2 n2 c2):=bxc i2 rfl
   have y3:w2.cell? ⟨w.heap.size,3,none⟩=some (I O x3):=bxc i2 rfl
   have y4:w2.cell? ⟨w.heap.size,4,none⟩=some (I O x4):=bxc i2 rfl
   have y5:w2.cell? ⟨w.heap.size,5,none⟩=some (.bool x5):=bxc i2 rfl
   have y6:w2.cell? ⟨w.heap.size,6,none⟩=some (I O st):=bxc i2 rfl
   have y7:w2.cell? ⟨w.heap.size,7,none⟩=some (Sz a7 n7 c7):=bxc i2 rfl
   have y8:w2.cell? ⟨w.heap.size,8,none⟩=some (Sz a8 n8 c8):=bxc i2 rfl
   have y9:w2.cell? ⟨w.heap.size,9,none⟩=some (I O be):=bxc i2 rfl
   go_wp2_with fail
   refine(qa.out _ false hA.out (HB0.out.trans (s1.out.mono HB0.out.size))).mono ?_
   rintro e w3 ⟨rfl,hb3⟩
   have s3:Hid (Below W0.heap.size W0 w3):=s1.out.trans (hb3.mono s1.out.size)
   clear hb3
   go_wp2
   go_ret
   exact⟨by rw[E.out];rfl,HB0.out.trans (s3.out.mono HB0.out.size)⟩
 have hA:Hid (argsB ag st=true):=h2
 clear h2
 by_cases h3:partB ps st=true
 rotate_left
 · have h3':partB ps st=false:=by simpa using h3
   have hP:Hid (partB ps st=false):=h3'
   have E:Hid (vtB ((x0,x1,zs,x3,x4,x5,()),st,ag,ps,be,())=false):=vt_no (.inr (.inr (.inr (.inl h3'))))
   clear h3 h3'
   go_enter Tryd.func20,Tryd.ntmps20
   go_wp2_with fail
   rw[← HW0.out]
   refine(qg.out true hG.out).mono ?_
   rintro e w1 ⟨rfl,hb1⟩
   have s1:Hid (Below W0.heap.size W0 w1):=hb1
   clear hb1
   have i1:=HBX.out w1 s1.out
   have y6:w1.cell? ⟨w.heap.size,6,none⟩=some (I O st):=bxc i1 rfl
   go_wp2_with fail
   refine(qs.out _ true hS.out).mono ?_
   rintro e w2 ⟨rfl,rfl⟩
   have i2:=HBX.out w2 s1.out
   clear y6
   have y0:w2.cell? ⟨w.heap.size,0,none⟩=some (I O x0):=bxc i2 rfl
   have y1:w2.cell? ⟨w.heap.size,1,none⟩=some (I O x1):=bxc i2 rfl
   have y2:w2.cell? ⟨w.heap.size,2,none⟩=some (Sz a2 n2 c2):=bxc i2 rfl
   have y3:w2.cell? ⟨w.heap.size,3,none⟩=some (I O x3):=bxc i2 rfl
   have y4:w2.cell? ⟨w.heap.size,4,none⟩=some (I O x4):=bxc i2 rfl
   have y5:w2.cell? ⟨w.heap.size,5,none⟩=some (.bool x5):=bxc i2 rfl
   have y6:w2.cell? ⟨w.heap.size,6,none⟩=some (I O st):=bxc i2 rfl
   have y7:w2.cell? ⟨w.heap.size,7,none⟩=some (Sz a7 n7 c7):=bxc i2 rfl
   have y8:w2.cell? ⟨w.heap.size,8,none⟩=some (Sz a8 n8 c8):=bxc i2 rfl
   have y9:w2.cell? ⟨w.heap.size,9,none⟩=some (I O be):=bxc i2 rfl
   go_wp2_with fail
   refine(qa.out _ true hA.out (HB0.out.trans (s1.out.mono HB0.out.size))).mono ?_
   rintro e w3 ⟨rfl,hb3⟩
   have s3:Hid (Below W0.heap.size W0 w3):=s1.out.trans (hb3.mono s1.out.size)
   clear hb3
   have i3:=HBX.out w3 s3.out
   clear y0 y1 y2 y3 y4 y5 y6 y7 y8 y9
   have y0:w3.cell? ⟨w.heap.size,0,none⟩=some (I O x0):=bxc i3 rfl
   have y1:w3.cell? ⟨w.heap.size,1,none⟩=some (I O x1):=bxc i3 rfl
   have y2:w3.cell? ⟨w.heap.size,2,none⟩=some (Sz a2 n2 c2):=bxc i3 rfl
   have y3:w3.cell? ⟨w.heap.size,3,none⟩=some (I O x3):=bxc i3 rfl
   have y4:w3.cell? ⟨w.heap.size,4,none⟩=some (I O x4):=bxc i3 rfl
   have y5:w3.cell? ⟨w.heap.size,5,none⟩=some (.bool x5):=bxc i3 rfl
   have y6:w3.cell? ⟨w.heap.size,6,none⟩=some (I O st):=bxc i3 rfl
   have y7:w3.cell? ⟨w.heap.size,7,none⟩=some (Sz a7 n7 c7):=bxc i3 rfl
   have y8:w3.cell? ⟨w.heap.size,8,none⟩=some (Sz a8 n8 c8):=bxc i3 rfl
   have y9:w3.cell? ⟨w.heap.size,9,none⟩=some (I O be):=bxc i3 rfl
   go_wp2_with fail
   refine(qp.out _ false hP.out (HB0.out.trans (s3.out.mono HB0.out.size))).mono ?_
   rintro e w4 ⟨rfl,hb4⟩
   have s4:Hid (Below W0.heap.size W0 w4):=s3.out.trans (hb4.mono s3.out.size)
   clear hb4
   go_wp2
   go_ret
   exact⟨by rw[E.out];rfl,HB0.out.trans (s4.out.mono HB0.out.size)⟩
 have hP:Hid (partB ps st=true):=h3
 clear h3
 by_cases hb1:0≤be
 rotate_left
 · have E:Hid (vtB ((x0,x1,zs,x3,x4,x5,()),st,ag,ps,be,())=false):=vt_no (.inr (.inr (.inr (.inr (by show bellB be=false;unfold bellB;rw[decide_eq_false hb1];rfl)))))
   have d1:decide (0≤be)=false:=decide_eq_false hb1
   go_enter Tryd.func20,Tryd.ntmps20
   go_wp2_with fail
   rw[← HW0.out]
   refine(qg.out true hG.out).mono ?_
   rintro e w1 ⟨rfl,hb1⟩
   have s1:Hid (Below W0.heap.size W0 w1):=hb1
   clear hb1
   have i1:=HBX.out w1 s1.out
   have y6:w1.cell? ⟨w.heap.size,6,none⟩=some (I O st):=bxc i1 rfl
   go_wp2_with fail
   refine(qs.out _ true hS.out).mono ?_
   rintro e w2 ⟨rfl,rfl⟩
   have i2:=HBX.out w2 s1.out
   clear y6
   have y0:w2.cell? ⟨w.heap.size,0,none⟩=some (I O x0):=bxc i2 rfl
   have y1:w2.cell? ⟨w.heap.size,1,none⟩=some (I O x1):=bxc i2 rfl
   have y2:w2.cell? ⟨w.heap.size,2,none⟩=some (Sz a2 n2 c2):=bxc i2 rfl
   have y3:w2.cell? ⟨w.heap.size,3,none⟩=some (I O x3):=bxc i2 rfl
   have y4:w2.cell? ⟨w.heap.size,4,none⟩=some (I O x4):=bxc i2 rfl
   have y5:w2.cell? ⟨w.heap.size,5,none⟩=some (.bool x5):=bxc i2 rfl
   have y6:w2.cell? ⟨w.heap.size,6,none⟩=some (I O st):=bxc i2 rfl
   have y7:w2.cell? ⟨w.heap.size,7,none⟩=some (Sz a7 n7 c7):=bxc i2 rfl
   have y8:w2.cell? ⟨w.heap.size,8,none⟩=some (Sz a8 n8 c8):=bxc i2 rfl
   have y9:w2.cell? ⟨w.heap.size,9,none⟩=some (I O be):=bxc i2 rfl
   go_wp2_with fail
   refine(qa.out _ true hA.out (HB0.out.trans (s1.out.mono HB0.out.size))).mono ?_
   rintro e w3 ⟨rfl,hb3⟩
   have s3:Hid (Below W0.heap.size W0 w3):=s1.out.trans (hb3.mono s1.out.size)
   clear hb3
   have i3:=HBX.out w3 s3.out
   clear y0 y1 y2 y3 y4 y5 y6 y7 y8 y9
   have y0:w3.cell? ⟨w.heap.size,0,none⟩=some (I O x0):=bxc i3 rfl
   have y1:w3.cell? ⟨w.heap.size,1,none⟩=some (I O x1):=bxc i3 rfl
   have y2:w3.cell? ⟨w.heap.size,2,none⟩=some (Sz a2 n2 c2):=bxc i3 rfl
   have y3:w3.cell? ⟨w.heap.size,3,none⟩=some (I O x3):=bxc i3 rfl
   have y4:w3.cell? ⟨w.heap.size,4,none⟩=some (I O x4):=bxc i3 rfl
   have y5:w3.cell? ⟨w.heap.size,5,none⟩=some (.bool x5):=bxc i3 rfl
   have y6:w3.cell? ⟨w.heap.size,6,none⟩=some (I O st):=bxc i3 rfl
   have y7:w3.cell? ⟨w.heap.size,7,none⟩=some (Sz a7 n7 c7):=bxc i3 rfl
   have y8:w3.cell? ⟨w.heap.size,8,none⟩=some (Sz a8 n8 c8):=bxc i3 rfl
   have y9:w3.cell? ⟨w.heap.size,9,none⟩=some (I O be):=bxc i3 rfl
   go_wp2_with fail
   refine(qp.out _ true hP.out (HB0.out.trans (s3.out.mono HB0.out.size))).mono ?_
   rintro e w4 ⟨rfl,hb4⟩
   have s4:Hid (Below W0.heap.size W0 w4):=s3.out.trans (hb4.mono s3.out.size)
   clear hb4
   have i4:=HBX.out w4 s4.out
   clear y0 y1 y2 y3 y4 y5 y6 y7 y8 y9
   have y9:w4.cell? ⟨w.heap.size,9,none⟩=some (I O be):=bxc i4 rfl
   go_wp2
   go_ret
   exact⟨by rw[E.out];rfl,HB0.out.trans (s4.out.mono HB0.out.size)⟩
 by_cases hb2:be≤1000000
 rotate_left
 · have E:Hid (vtB ((x0,x1,zs,x3,x4,x5,()),st,ag,ps,be,())=false):=vt_no (.inr (.inr (.inr (.inr (by show bellB be=false;unfold bellB;rw[decide_eq_false hb2,Bool.and_false])))))
   have d2:decide (be≤1000000)=false:=decide_eq_false hb2
   have d1:decide (0≤be)=true:=decide_eq_true hb1
   go_enter Tryd.func20,Tryd.ntmps20
   go_wp2_with fail
   rw[← HW0.out]
   refine(qg.out true hG.out).mono ?_
   rintro e w1 ⟨rfl,hb1⟩
   have s1:Hid (Below W0.heap.size W0 w1):=hb1
   clear hb1
   have i1:=HBX.out w1 s1.out
   have y6:w1.cell? ⟨w.heap.size,6,none⟩=some (I O st):=bxc i1 rfl
   go_wp2_with fail
   refine(qs.out _ true hS.out).mono ?_
   rintro e w2 ⟨rfl,rfl⟩
   have i2:=HBX.out w2 s1.out
   clear y6
   have y0:w2.cell? ⟨w.heap.size,0,none⟩=some (I O x0):=bxc i2 rfl
   have y1:w2.cell? ⟨w.heap.size,1,none⟩=some (I O x1):=bxc i2 rfl
   have y2:w2.cell? ⟨w.heap.size,2,none⟩=some (Sz a2 n2 c2):=bxc i2 rfl
   have y3:w2.cell? ⟨w.heap.size,3,none⟩=some (I O x3):=bxc i2 rfl
   have y4:w2.cell? ⟨w.heap.size,4,none⟩=some (I O x4):=bxc i2 rfl
   have y5:w2.cell? ⟨w.heap.size,5,none⟩=some (.bool x5):=bxc i2 rfl
   have y6:w2.cell? ⟨w.heap.size,6,none⟩=some (I O st):=bxc i2 rfl
   have y7:w2.cell? ⟨w.heap.size,7,none⟩=some (Sz a7 n7 c7):=bxc i2 rfl
   have y8:w2.cell? ⟨w.heap.size,8,none⟩=some (Sz a8 n8 c8):=bxc i2 rfl
   have y9:w2.cell? ⟨w.heap.size,9,none⟩=some (I O be):=bxc i2 rfl
   go_wp2_with fail
   refine(qa.out _ true hA.out (HB0.out.trans (s1.out.mono HB0.out.size))).mono ?_
   rintro e w3 ⟨rfl,hb3⟩
   have s3:Hid (Below W0.heap.size W0 w3):=s1.out.trans (hb3.mono s1.out.size)
   clear hb3
   have i3:=HBX.out w3 s3.out
   clear y0 y1 y2 y3 y4 y5 y6 y7 y8 y9
   have y0:w3.cell? ⟨w.heap.size,0,none⟩=some (I O x0):=bxc i3 rfl
   have y1:w3.cell? ⟨w.heap.size,1,none⟩=some (I O x1):=bxc i3 rfl
   have y2:w3.cell? ⟨w.heap.size,2,none⟩=some (Sz a2 n2 c2):=bxc i3 rfl
   have y3:w3.cell? ⟨w.heap.size,3,none⟩=some (I O x3):=bxc i3 rfl
   have y4:w3.cell? ⟨w.heap.size,4,none⟩=some (I O x4):=bxc i3 rfl
   have y5:w3.cell? ⟨w.heap.size,5,none⟩=some (.bool x5):=bxc i3 rfl
   have y6:w3.cell? ⟨w.heap.size,6,none⟩=some (I O st):=bxc i3 rfl
   have y7:w3.cell? ⟨w.heap.size,7,none⟩=some (Sz a7 n7 c7):=bxc i3 rfl
   have y8:w3.cell? ⟨w.heap.size,8,none⟩=some (Sz a8 n8 c8):=bxc i3 rfl
   have y9:w3.cell? ⟨w.heap.size,9,none⟩=some (I O be):=bxc i3 rfl
   go_wp2_with fail
   refine(qp.out _ true hP.out (HB0.out.trans (s3.out.mono HB0.out.size))).mono ?_
   rintro e w4 ⟨rfl,hb4⟩
   have s4:Hid (Below W0.heap.size W0 w4):=s3.out.trans (hb4.mono s3.out.size)
   clear hb4
   have i4:=HBX.out w4 s4.out
   clear y0 y1 y2 y3 y4 y5 y6 y7 y8 y9
   have y9:w4.cell? ⟨w.heap.size,9,none⟩=some (I O be):=bxc i4 rfl
   go_wp2
   go_ret
   exact⟨by rw[E.out];rfl,HB0.out.trans (s4.out.mono HB0.out.size)⟩
 · have E:Hid (vtB ((x0,x1,zs,x3,x4,x5,()),st,ag,ps,be,())=true):=vt_yes hG.out hS.out hA.out hP.out (by show bellB be=true;unfold bellB;rw[decide_eq_true hb1,decide_eq_true hb2];rfl)
   have d2:decide (be≤1000000)=true:=decide_eq_true hb2
   have d1:decide (0≤be)=true:=decide_eq_true hb1
   go_enter Tryd.func20,Tryd.ntmps20
   go_wp2_with fail
   rw[← HW0.out]
   refine(qg.out true hG.out).mono ?_
   rintro e w1 ⟨rfl,hb1⟩
   have s1:Hid (Below W0.heap.size W0 w1):=hb1
   clear hb1
   have i1:=HBX.out w1 s1.out
   have y6:w1.cell? ⟨w.heap.size,6,none⟩=some (I O st):=bxc i1 rfl
   go_wp2_with fail
   refine(qs.out _ true hS.out).mono ?_
   rintro e w2 ⟨rfl,rfl⟩
   have i2:=HBX.out w2 s1.out
   clear y6
   have y0:w2.cell? ⟨w.heap.size,0,none⟩=some (I O x0):=bxc i2 rfl
   have y1:w2.cell? ⟨w.heap.size,1,none⟩=some (I O x1):=bxc i2 rfl
   have y2:w2.cell? ⟨w.heap.size,2,none⟩=some (Sz a2 n2 c2):=bxc i2 rfl
   have y3:w2.cell? ⟨w.heap.size,3,none⟩=some (I O x3):=bxc i2 rfl
   have y4:w2.cell? ⟨w.heap.size,4,none⟩=some (I O x4):=bxc i2 rfl
   have y5:w2.cell? ⟨w.heap.size,5,none⟩=some (.bool x5):=bxc i2 rfl
   have y6:w2.cell? ⟨w.heap.size,6,none⟩=some (I O st):=bxc i2 rfl
   have y7:w2.cell? ⟨w.heap.size,7,none⟩=some (Sz a7 n7 c7):=bxc i2 rfl
   have y8:w2.cell? ⟨w.heap.size,8,none⟩=some (Sz a8 n8 c8):=bxc i2 rfl
   have y9:w2.cell? ⟨w.heap.size,9,none⟩=some (I O be):=bxc i2 rfl
   go_wp2_with fail
   refine(qa.out _ true hA.out (HB0.out.trans (s1.out.mono HB0.out.size))).mono ?_
   rintro e w3 ⟨rfl,hb3⟩
   have s3:Hid (Below W0.heap.size W0 w3):=s1.out.trans (hb3.mono s1.out.size)
   clear hb3
   have i3:=HBX.out w3 s3.out
   clear y0 y1 y2 y3 y4 y5 y6 y7 y8 y9
   have y0:w3.cell? ⟨w.heap.size,0,none⟩=some (I O x0):=bxc i3 rfl
   have y1:w3.cell? ⟨w.heap.size,1,none⟩=some (I O x1):=bxc i3 rfl
   have y2:w3.cell? ⟨w.heap.size,2,none⟩=some (Sz a2 n2 c2):=bxc i3 rfl
   have y3:w3.cell? ⟨w.heap.size,3,none⟩=some (I O x3):=bxc i3 rfl
   have y4:w3.cell? ⟨w.heap.size,4,none⟩=some (I O x4):=bxc i3 rfl
   have y5:w3.cell? ⟨w.heap.size,5,none⟩=some (.bool x5):=bxc i3 rfl
   have y6:w3.cell? ⟨w.heap.size,6,none⟩=some (I O st):=bxc i3 rfl
   have y7:w3.cell? ⟨w.heap.size,7,none⟩=some (Sz a7 n7 c7):=bxc i3 rfl
   have y8:w3.cell? ⟨w.heap.size,8,none⟩=some (Sz a8 n8 c8):=bxc i3 rfl
   have y9:w3.cell? ⟨w.heap.size,9,none⟩=some (I O be):=bxc i3 rfl
   go_wp2_with fail
   refine(qp.out _ true hP.out (HB0.out.trans (s3.out.mono HB0.out.size))).mono ?_
   rintro e w4 ⟨rfl,hb4⟩
   have s4:Hid (Below W0.heap.size W0 w4):=s3.out.trans (hb4.mono s3.out.size)
   clear hb4
   have i4:=HBX.out w4 s4.out
   clear y0 y1 y2 y3 y4 y5 y6 y7 y8 y9
   have y9:w4.cell? ⟨w.heap.size,9,none⟩=some (I O be):=bxc i4 rfl
   go_wp2
   go_ret
   exact⟨by rw[E.out];rfl,HB0.out.trans (s4.out.mono HB0.out.size)⟩
end Go.Proofs.YthodinpflcbklaaDoor
namespace Go.Proofs.YthodinpflcbklaaDoor
open Go.RowKit
theorem bel_drS{B:Nat}{x w:World}(h:Below B x w)(q:Nat):Below B x (w.drewN q):=⟨h.os,h.tape,h.output,h.size,h.block⟩
set_option maxRecDepth 100000 in
theorem specVtok_any (x0 x1 x3 x4 st be:Int) (x5:Bool) (a2 a7 a8:Option Addr) (n2 c2 n7 c7 n8 c8:Nat) (zs ag ps:List Int) (w:World) (hg:Reads (.sl .int) w [Sz a2 n2 c2] zs) (ha:Reads (.sl .int) w [Sz a7 n7 c7] ag) (hp:Reads (.sl .u8) w [Sz a8 n8 c8] ps) (hn:n8≤2097152) :
   Calls Tryd.prog 26 #[.agg #[I O x0,I O x1,Sz a2 n2 c2,I O x3,I O x4,.bool x5,I O st,Sz a7 n7 c7,Sz a8 n8 c8,I O be]] w fun e w'=>e=.returned (.bool (vtB ((x0,x1,zs,x3,x4,x5,()),st,ag,ps,be,())))∧Below w.heap.size w w':=by
 obtain⟨W0,hW0⟩:∃ W0,W0=w.alloc (.cells #[I O x0,I O x1,Sz a2 n2 c2,I O x3,I O x4,.bool x5,I O st,Sz a7 n7 c7,Sz a8 n8 c8,I O be] 31):=⟨_,rfl⟩
 have bW0:Below w.heap.size w W0:=by rw[hW0];exact(Below.refl _ _).alloc (Nat.le_refl _) _
 have hbox:W0.heap[w.heap.size]?=some (.cells #[I O x0,I O x1,Sz a2 n2 c2,I O x3,I O x4,.bool x5,I O st,Sz a7 n7 c7,Sz a8 n8 c8,I O be] 31 (0,0)):=by rw[hW0];exact heap_alloc_new w _
 have zW0:W0.heap.size=w.heap.size+1:=by rw[hW0];simp
 have HW0:Hid (W0=_):=hW0
 have HBX:Hid (∀ w',Below W0.heap.size W0 w'→w'.heap[w.heap.size]?=some (.cells #[I O x0,I O x1,Sz a2 n2 c2,I O x3,I O x4,.bool x5,I O st,Sz a7 n7 c7,Sz a8 n8 c8,I O be] 31 (0,0))):=fun w' h=>(h.block _ (by omega)).trans hbox
 clear hW0 hbox
 have HB0:Hid (Below w.heap.size w W0):=bW0
 have qg:Hid (∀ b,gokB (x0,x1,zs,x3,x4,x5,())=b→Calls Tryd.prog 52 #[.agg #[I O x0,I O x1,Sz a2 n2 c2,I O x3,I O x4,.bool x5]] W0 fun e w''=>e=.returned (.bool b)∧Below W0.heap.size W0 w''):=fun b hb=>by rw[← hb];exact specGok_any x0 x1 x3 x4 a2 n2 c2 x5 zs W0 (hg.later bW0)
 obtain⟨hl7,hr7,hc7,hm7⟩:=reads_ints ha
 obtain⟨hl8,hr8,hc8,hm8⟩:=reads_bytes hp
 have qr:Hid (∀ w' b,rbgB ps=b→Below w.heap.size w w'→Calls Tryd.prog 53 #[Sz a8 n8 c8] w' fun e w''=>e=.returned (.bool b)∧Below w'.heap.size w' w''):=fun w' b hb hw=>by rw[← hb];exact specRbg_any a8 n8 c8 ps w' hl8 (hr8.later hw) hn hc8 hm8
 unfold maxLen at hm7 hm8
 have HR:Hid (RdI w a7 ag∧ag.length=n7∧ps.length=n8):=⟨hr7,hl7,hl8⟩
 clear hg ha hp bW0 hl7 hr7 hl8 hr8
 by_cases h0:gokB (x0,x1,zs,x3,x4,x5,())=true
 rotate_left
 · have h0':gokB (x0,x1,zs,x3,x4,x5,())=false:=by simpa using h0
   have hG:Hid (gokB (x0,x1,zs,x3,x4,x5,())=false):=h0'
   have E:Hid (vtB ((x0,x1,zs,x3,x4,x5,()),st,ag,ps,be,())=false):=vt_no (.inl h0')
   clear h0 h0'
   go_enter Tryd.func26,Tryd.ntmps26
   go_wp2_with fail
   rw[← HW0.out]
   refine(qg.out false hG.out).mono ?_
   rintro e w1 ⟨rfl,hb1⟩
   have s1:Hid (Below w.heap.size w w1):=HB0.out.trans (hb1.mono HB0.out.size)
   have i1:=HBX.out w1 hb1
   clear hb1
   go_wp2
   go_ret
   exact⟨by rw[E.out];rfl,s1.out⟩
 have hG:Hid (gokB (x0,x1,zs,x3,x4,x5,())=true):=h0
 clear h0
 by_cases k0:st < 0
 · have E:Hid (vtB ((x0,x1,zs,x3,x4,x5,()),st,ag,ps,be,())=false):=by
     have h:=k0
     exact vt_no (.inr (.inl (stat_no (.inl h))))
   have d0:decide (st < 0)=true:=decide_eq_true k0
   go_enter Tryd.func26,Tryd.ntmps26
   go_wp2_with fail
   rw[← HW0.out]
   refine(qg.out true hG.out).mono ?_
   rintro e w1 ⟨rfl,hb1⟩
   have s1:Hid (Below w.heap.size w w1):=HB0.out.trans (hb1.mono HB0.out.size)
   have i1:=HBX.out w1 hb1
   clear hb1
   have y6:w1.cell? ⟨w.heap.size,6,none⟩=some (I O st):=bxc i1 rfl
   have y7:w1.cell? ⟨w.heap.size,7,none⟩=some (Sz a7 n7 c7):=bxc i1 rfl
   have y9:w1.cell? ⟨w.heap.size,9,none⟩=some (I O be):=bxc i1 rfl
   go_wp2
   go_ret
   exact⟨by rw[E.out];rfl,s1.out⟩
 have d0:decide (st < 0)=false:=decide_eq_false k0
 by_cases k1:2 < st
 · have E:Hid (vtB ((x0,x1,zs,x3,x4,x5,()),st,ag,ps,be,())=false):=by
     have h:=k1
     exact vt_no (.inr (.inl (stat_no (.inr h))))
   have d1:decide ((2:Int) < st)=true:=decide_eq_true k1
   go_enter Tryd.func26,Tryd.ntmps26
   go_wp2_with fail
   rw[← HW0.out]
   refine(qg.out true hG.out).mono ?_
   rintro e w1 ⟨rfl,hb1⟩
   have s1:Hid (Below w.heap.size w w1):=HB0.out.trans (hb1.mono HB0.out.size)
   have i1:=HBX.out w1 hb1
   clear hb1
   have y6:w1.cell? ⟨w.heap.size,6,none⟩=some (I O st):=bxc i1 rfl
   have y7:w1.cell? ⟨w.heap.size,7,none⟩=some (Sz a7 n7 c7):=bxc i1 rfl
   have y9:w1.cell? ⟨w.heap.size,9,none⟩=some (I O be):=bxc i1 rfl
   go_wp2
   go_ret
   exact⟨by rw[E.out];rfl,s1.out⟩
 have d1:decide ((2:Int) < st)=false:=decide_eq_false k1
 by_cases k2:(4:Int) < (n7:Int)
 · have E:Hid (vtB ((x0,x1,zs,x3,x4,x5,()),st,ag,ps,be,())=false):=by
     have h:=k2
     exact vt_no (.inr (.inr (.inl (args_long (by rw[HR.out.2.1];omega)))))
   have d2:decide ((4:Int) < (n7:Int))=true:=decide_eq_true k2
   go_enter Tryd.func26,Tryd.ntmps26
   go_wp2_with fail
   rw[← HW0.out]
   refine(qg.out true hG.out).mono ?_
   rintro e w1 ⟨rfl,hb1⟩
   have s1:Hid (Below w.heap.size w w1):=HB0.out.trans (hb1.mono HB0.out.size)
   have i1:=HBX.out w1 hb1
   clear hb1
   have y6:w1.cell? ⟨w.heap.size,6,none⟩=some (I O st):=bxc i1 rfl
   have y7:w1.cell? ⟨w.heap.size,7,none⟩=some (Sz a7 n7 c7):=bxc i1 rfl
   have y9:w1.cell? ⟨w.heap.size,9,none⟩=some (I O be):=bxc i1 rfl
   go_wp2
   go_ret
   exact⟨by rw[E.out];rfl,s1.out⟩
 have d2:decide ((4:Int) < (n7:Int))=false:=decide_eq_false k2
 by_cases k3:be < 0
 · have E:Hid (vtB ((x0,x1,zs,x3,x4,x5,()),st,ag,ps,be,())=false):=by
     have h:=k3
     exact vt_no (.inr (.inr (.inr (.inr (by show bellB be=false;unfold bellB;rw[decide_eq_false (by omega)];rfl)))))
   have d3:decide (be < 0)=true:=decide_eq_true k3
   go_enter Tryd.func26,Tryd.ntmps26
   go_wp2_with fail
   rw[← HW0.out]
   refine(qg.out true hG.out).mono ?_
   rintro e w1 ⟨rfl,hb1⟩
   have s1:Hid (Below w.heap.size w w1):=HB0.out.trans (hb1.mono HB0.out.size)
   have i1:=HBX.out w1 hb1
   clear hb1
   have y6:w1.cell? ⟨w.heap.size,6,none⟩=some (I O st):=bxc i1 rfl
   have y7:w1.cell? ⟨w.heap.size,7,none⟩=some (Sz a7 n7 c7):=bxc i1 rfl
   have y9:w1.cell? ⟨w.heap.size,9,none⟩=some (I O be):=bxc i1 rfl
   go_wp2
   go_ret
   exact⟨by rw[E.out];rfl,s1.out⟩
 have d3:decide (be < 0)=false:=decide_eq_false k3
 by_cases k4:1000000 < be
 · have E:Hid (vtB ((x0,x1,zs,x3,x4,x5,()),st,ag,ps,be,())=false):=by
     have h:=k4
     exact vt_no (.inr (.inr (.inr (.inr (by show bellB be=false;unfold bellB;rw[decide_eq_false (p:=be≤1000000) (by omega),Bool.and_false])))))
   have d4:decide ((1000000:Int) < be)=true:=decide_eq_true k4
   go_enter Tryd.func26,Tryd.ntmps26
   go_wp2_with fail
   rw[← HW0.out]
   refine(qg.out true hG.out).mono ?_
   rintro e w1 ⟨rfl,hb1⟩
   have s1:Hid (Below w.heap.size w w1):=HB0.out.trans (hb1.mono HB0.out.size)
   have i1:=HBX.out w1 hb1
   clear hb1
   have y6:w1.cell? ⟨w.heap.size,6,none⟩=some (I O st):=bxc i1 rfl
   have y7:w1.cell? ⟨w.heap.size,7,none⟩=some (Sz a7 n7 c7):=bxc i1 rfl
   have y9:w1.cell? ⟨w.heap.size,9,none⟩=some (I O be):=bxc i1 rfl
   go_wp2
   go_ret
   exact⟨by rw[E.out];rfl,s1.out⟩
 have d4:decide ((1000000:Int) < be)=false:=decide_eq_false k4
 have HK:Hid (statB st=true∧bellB be=true∧n7≤4):=⟨stat_yes (by omega),by unfold bellB;rw[decide_eq_true (by omega),decide_eq_true (by omega)];rfl,by omega⟩
 clear k0 k1 k2 k3 k4
 go_enter Tryd.func26,Tryd.ntmps26
 go_wp2_with fail
 rw[← HW0.out]
 refine(qg.out true hG.out).mono ?_
 rintro e w1 ⟨rfl,hb1⟩
 have s1:Hid (Below w.heap.size w w1):=HB0.out.trans (hb1.mono HB0.out.size)
 have i1:=HBX.out w1 hb1
 clear hb1
 have y6:w1.cell? ⟨w.heap.size,6,none⟩=some (I O st):=bxc i1 rfl
 have y7:w1.cell? ⟨w.heap.size,7,none⟩=some (Sz a7 n7 c7):=bxc i1 rfl
 have y9:w1.cell? ⟨w.heap.size,9,none⟩=some (I O be):=bxc i1 rfl
 go_wp2
 go_loopw [38] (fun i wr=>∃ k:Nat,k≤n7∧i=I O k∧(∀ j,j < k→argB (ag[j]?.getD 0)=true)∧∃ q,wr=w1.drewN q) (fun i _=>n7 - (intOf i).toNat)
 case atStart=>exact⟨0,Nat.zero_le _,rfl,fun j hj=>by omega,0,rfl⟩
 case round =>
   obtain⟨k,hk,rfl,hall,q,rfl⟩:=hrel
   have HA:Hid (∀ j,j < k→argB (ag[j]?.getD 0)=true):=hall
   clear hall
   by_cases hlt:k < n7
   · have hne:ag≠[]:=by intro h;have:=HR.out.2.1;subst h;simp at this;omega
     obtain⟨b,off,rfl,hb,hcell⟩:=HR.out.1.resolve_left hne
     obtain⟨v,hv⟩:∃ v,v=ag[k]?.getD 0:=⟨_,rfl⟩
     have g1:(w1.drewN q).cell? ⟨b,off+k,none⟩=some (I O v):=by rw[hv];exact(s1.out.cell (p:=⟨b,off+k,none⟩) hb).trans (hcell k (by have:=HR.out.2.1;omega))
     have hlt':(k:Int) < (n7:Int):=by omega
     have HV:Hid (v=ag[k]?.getD 0):=hv
     clear hcell hne hv
     by_cases v1:v < 0
     · have E:Hid (vtB ((x0,x1,zs,x3,x4,x5,()),st,ag,ps,be,())=false):=vt_no (.inr (.inr (.inl (argsB_some (i:=k) (by rw[HR.out.2.1];exact hlt) (by rw[← HV.out];unfold argB;rw[decide_eq_false (by omega)];rfl)))))
       go_wp2
       go_ret
       exact⟨by rw[E.out];rfl,bel_drS s1.out _⟩
     · by_cases v2:9999 < v
       · have E:Hid (vtB ((x0,x1,zs,x3,x4,x5,()),st,ag,ps,be,())=false):=vt_no (.inr (.inr (.inl (argsB_some (i:=k) (by rw[HR.out.2.1];exact hlt) (by rw[← HV.out];unfold argB;rw[decide_eq_false (p:=v≤9999) (by omega),Bool.and_false])))))
         go_wp2
         go_ret
         exact⟨by rw[E.out];rfl,bel_drS s1.out _⟩
       · have HA2:Hid (∀ j,j < k+1→argB (ag[j]?.getD 0)=true):=fun j hj=>by
           by_cases e:j=k
           · subst e;rw[← HV.out];unfold argB;rw[decide_eq_true (by omega),decide_eq_true (by omega)];rfl
           · exact HA.out j (by omega)
         go_wp2
         go_roundw
         case rel=>exact⟨k+1,by omega,by go_num,HA2.out,_,rfl⟩
         case measure=>simp[intOf];omega
   · have e:k=n7:=by omega
     subst e
     have EE:argsB ag st=(decide (ag.length=0)||(decide (st=2)&&decide (ag.length≤4))):=argsB_all (fun i hi=>HA.out i (by rw[← HR.out.2.1];exact hi))
     rw[HR.out.2.1,decide_eq_true HK.out.2.2] at EE
     have S2:Hid (Below w.heap.size w (w1.drewN q)):=bel_drS s1.out q
     have HI:Hid (w1.heap[w.heap.size]?=some (.cells #[I O x0,I O x1,Sz a2 n2 c2,I O x3,I O x4,.bool x5,I O st,Sz a7 k c7,Sz a8 n8 c8,I O be] 31 (0,0))):=i1
     clear y6 y7 y9 i1 d0 d1 d2 d3 d4
     have i2:(w1.drewN q).heap[w.heap.size]?=some (.cells #[I O x0,I O x1,Sz a2 n2 c2,I O x3,I O x4,.bool x5,I O st,Sz a7 k c7,Sz a8 n8 c8,I O be] 31 (0,0)):=HI.out
     obtain⟨w2,hw2⟩:∃ w2,w2=w1.drewN q:=⟨_,rfl⟩
     rw[← hw2] at i2 S2 ⊢
     clear hw2 HI
     have y6:w2.cell? ⟨w.heap.size,6,none⟩=some (I O st):=bxc i2 rfl
     have y7:w2.cell? ⟨w.heap.size,7,none⟩=some (Sz a7 k c7):=bxc i2 rfl
     have y8:w2.cell? ⟨w.heap.size,8,none⟩=some (Sz a8 n8 c8):=bxc i2 rfl
     by_cases hn7:k=0
     · subst hn7
       have hA:argsB ag st=true:=by rw[EE];rfl
       by_cases h8:n8=0
       · subst h8
         have E:Hid (vtB ((x0,x1,zs,x3,x4,x5,()),st,ag,ps,be,())=true):=vt_yes hG.out HK.out.1 hA (by unfold partB;show (decide (ps.length=0)||_)=true;rw[HR.out.2.2];rfl) HK.out.2.1
         clear hA EE
         go_wp2
         go_ret
         exact⟨by rw[E.out];rfl,S2.out⟩
       · have f8:((n8:Int)==0)=false:=by simp;omega
         by_cases hs:st=0
         · subst hs
           have E:Hid (vtB ((x0,x1,zs,x3,x4,x5,()),(0:Int),ag,ps,be,())=rbgB ps):=by
             show _=_
             unfold vtB
             show (gokB (x0,x1,zs,x3,x4,x5,())&&(statB 0&&(argsB ag 0&&(partB ps 0&&bellB be))))=_
             rw[hG.out,HK.out.1,hA,HK.out.2.1]
             unfold partB
             rw[HR.out.2.2,decide_eq_false h8]
             cases rbgB ps <;> rfl
           obtain⟨r,hr⟩:∃ r,r=rbgB ps:=⟨_,rfl⟩
           have HRB:Hid (rbgB ps=r):=hr.symm
           rw[← hr] at E
           clear hr hA EE h8
           go_wp2_with fail
           refine(qr.out _ r HRB.out S2.out).mono ?_
           rintro e w3 ⟨rfl,hb3⟩
           go_wp2
           go_ret
           exact⟨by rw[E.out];rfl,S2.out.trans (hb3.mono S2.out.size)⟩
         · have f0:(st==0)=false:=by simpa using hs
           have E:Hid (vtB ((x0,x1,zs,x3,x4,x5,()),st,ag,ps,be,())=false):=vt_no (.inr (.inr (.inr (.inl (by show partB ps st=false;unfold partB;rw[HR.out.2.2,decide_eq_false h8,decide_eq_false hs];rfl)))))
           clear hA EE h8 hs
           go_wp2
           go_ret
           exact⟨by rw[E.out];rfl,S2.out⟩
     · have f1:(0:Int) < (k:Int):=by omega
       by_cases hs:st=2
       · subst hs
         have hA:argsB ag 2=true:=by rw[EE,decide_eq_true rfl];simp
         by_cases h8:n8=0
         · subst h8
           have E:Hid (vtB ((x0,x1,zs,x3,x4,x5,()),(2:Int),ag,ps,be,())=true):=vt_yes hG.out HK.out.1 hA (by unfold partB;show (decide (ps.length=0)||_)=true;rw[HR.out.2.2];rfl) HK.out.2.1
           clear hA EE
           go_wp2
           go_ret
           exact⟨by rw[E.out];rfl,S2.out⟩
         · have f8:((n8:Int)==0)=false:=by simp;omega
           have E:Hid (vtB ((x0,x1,zs,x3,x4,x5,()),(2:Int),ag,ps,be,())=false):=vt_no (.inr (.inr (.inr (.inl (by unfold partB;show (decide (ps.length=0)||_)=false;rw[HR.out.2.2,decide_eq_false h8];rfl)))))
           clear hA EE h8
           go_wp2
           go_ret
           exact⟨by rw[E.out];rfl,S2.out⟩
       · have f2:(st != 2)=true:=by simp[hs]
         have E:Hid (vtB ((x0,x1,zs,x3,x4,x5,()),st,ag,ps,be,())=false):=vt_no (.inr (.inr (.inl (by show argsB ag st=false;rw[EE,decide_eq_false hn7,decide_eq_false hs];rfl))))
         clear EE hs hn7
         go_wp2
         go_ret
         exact⟨by rw[E.out];rfl,S2.out⟩
end Go.Proofs.YthodinpflcbklaaDoor
namespace Go.Proofs.YthodinpflcbklaaDoor
open Go.RowKit
def zeroT:VtD:=(zeroG,(0:Int),[],[],(0:Int),())
theorem own_zeroT(w:World)(B:Nat):Own shVt w B [I O 0,I O 0,Sz none 0 0,I O 0,I O 0,.bool false,I O 0,Sz none 0 0,Sz none 0 0,I O 0] zeroT []:=
 own_Vt (d:=zeroT) (F0:=[]) (F2:=[]) (F3:=[]) (own_zeroG w B) (.inl ⟨rfl,rfl,rfl⟩) (.inl ⟨rfl,rfl,rfl⟩)
end Go.Proofs.YthodinpflcbklaaDoor
