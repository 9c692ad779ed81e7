/-
  Parts of the road to VB, joined: GrQ, GrPq, GrV, GrPn.
-/
import Derived.Test.YthodinpflcbklaaDoorM12VB
import Derived.Test.YthodinpflcbklaaDoorM9VB
import Derived.Test.YthodinpflcbklaaDoorM7VB
open Go.Value renaming int → I,slice → Sz
open Go.IntKind renaming i64 → O
open List renaming setIfInBounds_toArray → lA,getElem_toArray → lB,getElem_cons_succ → lC,getElem_cons_zero → lD,set_cons_zero → lE,set_cons_succ → lF
set_option linter.unusedVariables false
set_option linter.unusedSimpArgs false
set_option maxHeartbeats 40000000
namespace Go.Proofs.YthodinpflcbklaaDoor
open Go.RowKit
def Paired(zs:List Int):Prop:=∀ i,i < zs.length→(wd (at0 zs i)=2→i+1 < zs.length∧at0 zs (i+1)=-1)∧(at0 zs i=-1→1≤i∧wd (at0 zs (i - 1))=2)
theorem paired_of{zs:List Int}{W H:Nat}(hW:1≤W)(hl:zs.length=W*H)(h:cellsB zs W (W*H)=true):Paired zs:=by
 intro i hi
 have hc:=cellsB_lt h (show i < W*H by omega)
 constructor
 · intro h2
   have hne:at0 zs i≠-1:=by intro e;rw[e,wd_half] at h2;omega
   rw[cellB_two hne h2] at hc
   simp at hc
   refine⟨?_,hc.2⟩
   rw[hl]
   exact not_last hW (by omega) hc.1
 · intro h1
   by_cases hm:i % W=0
   · rw[cellB_half0 h1 hm] at hc;cases hc
   · rw[cellB_half h1 hm] at hc
     refine⟨?_,by simpa using hc⟩
     rcases Nat.eq_zero_or_pos i with h0 | h0
     · subst h0;simp at hm
     · exact h0
theorem clrR_at{f t:Nat}{b:Int}{zs:List Int}(h1:f≤t)(h2:t≤zs.length)(i:Nat):(clrR f t b zs)[i]?=if f≤i∧i < t then some b else zs[i]?:=by
 unfold clrR
 have hl:(zs.take f).length=f:=by rw[List.length_take];omega
 by_cases h:i < f
 · rw[if_neg (by omega),List.getElem?_append_left (by omega),List.getElem?_take_of_lt h]
 · by_cases h':i < t
   · rw[if_pos ⟨by omega,h'⟩,List.getElem?_append_right (by omega),hl,List.getElem?_append_left (by simp;omega),List.getElem?_replicate,if_pos (by omega)]
   · rw[if_neg (by omega),List.getElem?_append_right (by omega),hl,List.getElem?_append_right (by simp;omega),List.length_replicate,List.getElem?_drop]
     congr 1;omega
theorem other_in{zs:List Int}(hp:Paired zs){i:Nat}(hi:i < zs.length):∃ o:Nat,otherM zs i=o∧o < zs.length∧((o=i+1∧at0 zs o=-1)∨(i=o+1∧at0 zs i=-1)∨o=i):=by
 unfold otherM
 obtain⟨h1,h2⟩:=hp i hi
 by_cases hw:wd (at0 zs i)=2
 · rw[if_pos hw];exact⟨i+1,rfl,(h1 hw).1,.inl ⟨rfl,(h1 hw).2⟩⟩
 · rw[if_neg hw]
   by_cases hh:at0 zs i=-1
   · rw[if_pos hh];have:=(h2 hh).1;exact⟨i - 1,by omega,by omega,.inr (.inl ⟨by omega,hh⟩)⟩
   · rw[if_neg hh];exact⟨i,rfl,hi,.inr (.inr rfl)⟩
theorem goes_iff{x y:Int}{zs:List Int}{i:Nat}:goesM x y zs i=true↔(x≤(i:Int)∧(i:Int) < y)∨(x≤otherM zs i∧otherM zs i < y):=by
 unfold goesM;simp
theorem clr_same{x y:Int}{zs:List Int}(hp:Paired zs):clrZ (-1) 32 x y zs=clrM x y zs:=by
 apply List.ext_getElem?
 intro i
 by_cases hi:i < zs.length
 rotate_left
 · rw[show (clrM x y zs)[i]?=none from List.getElem?_eq_none (by rw[clrM_len];omega)]
   unfold clrZ
   split
   · rename_i h
     have hT:(min y (zs.length:Int)).toNat≤zs.length:=by omega
     have hU:clrT (-1) zs (min y (zs.length:Int)).toNat≤zs.length:=by unfold clrT;split <;> omega
     have hF:clrF (-1) zs (max x 0).toNat≤(max x 0).toNat:=by unfold clrF;split <;> omega
     have hT2:(min y (zs.length:Int)).toNat≤clrT (-1) zs (min y (zs.length:Int)).toNat:=by unfold clrT;split <;> omega
     rw[List.getElem?_eq_none (by rw[clrR_len (by omega) hU];omega)]
   · rw[List.getElem?_eq_none (by omega)]
 obtain⟨o,ho1,ho2,ho3⟩:=other_in hp hi
 have hM:(clrM x y zs)[i]?=if goesM x y zs i=true then some 32 else zs[i]?:=by
   unfold clrM
   rw[List.getElem?_map,List.getElem?_range hi]
   show some (if goesM x y zs i=true then (32:Int) else at0 zs i)=_
   by_cases hg:goesM x y zs i=true
   · rw[if_pos hg,if_pos hg]
   · rw[if_neg hg,if_neg hg];unfold at0;rw[List.getElem?_eq_getElem hi];rfl
 rw[hM]
 obtain⟨a,ha⟩:∃ a:Nat,max x 0=(a:Int):=⟨(max x 0).toNat,by omega⟩
 unfold clrZ
 rw[ha]
 by_cases hlt:(a:Int) < min y (zs.length:Int)
 · obtain⟨t,ht⟩:∃ t:Nat,min y (zs.length:Int)=(t:Int):=⟨(min y (zs.length:Int)).toNat,by omega⟩
   rw[ht] at hlt ⊢
   rw[if_pos hlt,Int.toNat_natCast,Int.toNat_natCast]
   have htn:t≤zs.length:=by omega
   have hFd:(at0 zs a=-1∧1≤a∧wd (at0 zs (a - 1))=2∧clrF (-1) zs a=a - 1)∨(at0 zs a≠-1∧clrF (-1) zs a=a):=by
     unfold clrF
     by_cases h:at0 zs a=-1
     · have:=(hp a (by omega)).2 h
       exact .inl ⟨h,this.1,this.2,if_pos h⟩
     · exact .inr ⟨h,if_neg h⟩
   have hTd:(t < zs.length∧at0 zs t=-1∧clrT (-1) zs t=t+1)∨(¬ (t < zs.length∧at0 zs t=-1)∧clrT (-1) zs t=t):=by
     unfold clrT
     by_cases h:t < zs.length∧at0 zs t=-1
     · exact .inl ⟨h.1,h.2,if_pos h⟩
     · exact .inr ⟨h,if_neg h⟩
   obtain⟨F,hF⟩:∃ F,F=clrF (-1) zs a:=⟨_,rfl⟩
   obtain⟨U,hU⟩:∃ U,U=clrT (-1) zs t:=⟨_,rfl⟩
   rw[← hF] at hFd ⊢
   rw[← hU] at hTd ⊢
   rw[clrR_at (by rcases hFd with h | h <;> rcases hTd with h' | h' <;> omega) (by rcases hTd with h' | h' <;> omega)]
   have key:(F≤i∧i < U)↔goesM x y zs i=true:=by
     rw[goes_iff,ho1]
     constructor
     · rintro⟨h1,h2⟩
       by_cases hr:a≤i∧i < t
       · left;omega
       · right
         by_cases hia:i < a
         · -- the rune whose half is the first cell that goes
           rcases hFd with ⟨f1,f2,f3,f4⟩ | ⟨f1,f4⟩
           · have ei:i=a - 1:=by omega
             have hw:wd (at0 zs i)=2:=by rw[ei];exact f3
             have hoi:otherM zs i=(i:Int)+1:=by unfold otherM;rw[if_pos hw]
             omega
           · omega
         · rcases hTd with ⟨t1,t2,t3⟩ | ⟨t1,t3⟩
           · have ei:i=t:=by omega
             have hh:at0 zs i=-1:=by rw[ei];exact t2
             have hoi:otherM zs i=(i:Int) - 1:=by
               unfold otherM
               rw[if_neg (by rw[hh,wd_half];omega),if_pos hh]
             omega
           · omega
     · intro h
       rcases h with h | h
       · rcases hFd with f | f <;> rcases hTd with t' | t' <;> omega
       · rcases ho3 with ⟨e1,e2⟩ | ⟨e1,e2⟩ | e1
         · by_cases hia:i < a
           · have ea:o=a:=by omega
             rw[ea] at e2
             rcases hFd with ⟨f1,f2,f3,f4⟩ | ⟨f1,f4⟩
             · rcases hTd with t' | t' <;> omega
             · exact absurd e2 f1
           · rcases hFd with f | f <;> rcases hTd with t' | t' <;> omega
         · by_cases hit:i < t
           · rcases hFd with f | f <;> rcases hTd with t' | t' <;> omega
           · have ei:i=t:=by omega
             rw[ei] at e2
             rcases hTd with ⟨t1,t2,t3⟩ | ⟨t1,t3⟩
             · rcases hFd with f | f <;> omega
             · exact absurd ⟨by omega,e2⟩ t1
         · rcases hFd with f | f <;> rcases hTd with t' | t' <;> omega
   by_cases hg:goesM x y zs i=true
   · rw[if_pos (key.2 hg),if_pos hg]
   · rw[if_neg (fun h=>hg (key.1 h)),if_neg hg]
 · rw[if_neg hlt,if_neg]
   rw[goes_iff,ho1]
   omega
theorem up_clr{x y:Int}{zs:List Int}(h0:0 < zs.length):up (-32) (clrZ (-1) 32 x y zs)=clrZ (-33) 0 x y (up (-32) zs):=by
 unfold clrZ
 rw[up_len]
 split
 · rename_i h
   obtain⟨a,ha⟩:∃ a:Nat,max x 0=(a:Int):=⟨(max x 0).toNat,by omega⟩
   obtain⟨t,ht⟩:∃ t:Nat,min y (zs.length:Int)=(t:Int):=⟨(min y (zs.length:Int)).toNat,by omega⟩
   rw[ha,ht,Int.toNat_natCast,Int.toNat_natCast]
   have han:a < zs.length:=by omega
   have e1:clrF (-33) (up (-32) zs) a=clrF (-1) zs a:=by
     unfold clrF
     rw[up_at han]
     by_cases h:at0 zs a=-1
     · rw[if_pos h,if_pos (by omega)]
     · rw[if_neg h,if_neg (by omega)]
   have e2:clrT (-33) (up (-32) zs) t=clrT (-1) zs t:=by
     unfold clrT
     rw[up_len]
     by_cases h:t < zs.length
     · rw[up_at h]
       by_cases h':at0 zs t=-1
       · rw[if_pos ⟨h,by omega⟩,if_pos ⟨h,h'⟩]
       · rw[if_neg (fun q=>h' (by have:=q.2;omega)),if_neg (fun q=>h' q.2)]
     · rw[if_neg (fun q=>h q.1),if_neg (fun q=>h q.1)]
   rw[e1,e2]
   unfold clrR up
   rw[List.map_append,List.map_append,List.map_take,List.map_drop,List.map_replicate]
   rfl
 · rfl
end Go.Proofs.YthodinpflcbklaaDoor
namespace Go.Proofs.YthodinpflcbklaaDoor
open Go.RowKit
theorem cellsB_all{c:List Int}{W:Nat}:∀ {n:Nat},(∀ i,i < n→cellB c W i=true)→cellsB c W n=true
 | 0,_=>rfl
 | n+1,h=>by
   rw[cellsB,cellsB_all (fun i hi=>h i (by omega)),h n (by omega)];rfl
theorem wd_blank:wd 32=1:=by decide +kernel
theorem scr_cells{W H:Nat}{zs:List Int}(hW:1≤W)(hH:1≤H)(hl:zs.length=W*H)(h:cellsB zs W (W*H)=true):cellsB (scr 32 W zs) W (W*H)=true:=by
 have hWn:W≤zs.length:=by rw[hl];exact Nat.le_mul_of_pos_right _ (by omega)
 refine cellsB_all fun i hi=>?_
 by_cases hs:i+W < zs.length
 · have hc:=cellsB_lt h (show i+W < W*H by omega)
   have e0:at0 (scr 32 W zs) i=at0 zs (i+W):=scr_at1 hs
   have em:(i+W) % W=i % W:=Nat.add_mod_right _ _
   by_cases hh:at0 zs (i+W)=-1
   · by_cases hm:i % W=0
     · rw[cellB_half0 hh (by rw[em];exact hm)] at hc;cases hc
     · rw[cellB_half hh (by rw[em];exact hm)] at hc
       have hi1:1≤i:=by
         rcases Nat.eq_zero_or_pos i with h0 | h0
         · subst h0;simp at hm
         · exact h0
       rw[cellB_half (by rw[e0];exact hh) hm,scr_at1 (by omega),show i - 1+W=i+W - 1 by omega]
       exact hc
   · have hd:=wd_bd (at0 zs (i+W))
     have h3:wd (at0 zs (i+W))=0∨wd (at0 zs (i+W))=1∨wd (at0 zs (i+W))=2:=by omega
     rcases h3 with h3 | h3 | h3
     · rw[cellB_none hh h3] at hc;cases hc
     · exact cellB_one (by rw[e0];exact hh) (by rw[e0];exact h3)
     · rw[cellB_two hh h3,em] at hc
       rw[cellB_two (by rw[e0];exact hh) (by rw[e0];exact h3)]
       simp at hc ⊢
       have hnl:=not_last hW (show i+W < W*H by omega) (by rw[em];exact hc.1)
       refine⟨hc.1,?_⟩
       rw[scr_at1 (by omega),show i+1+W=i+W+1 by omega]
       exact hc.2
 · have e0:at0 (scr 32 W zs) i=32:=scr_at2 hs (by omega) hWn
   exact cellB_one (by rw[e0];omega) (by rw[e0];exact wd_blank)
theorem up_put{a d:Nat}{r:Int}{zs:List Int}:up (-32) (putZ a d r (-1) zs)=putZ a d (r - 32) (-33) (up (-32) zs):=by
 unfold putZ up
 rw[List.map_append,List.map_append,List.map_take,List.map_take,List.map_drop]
 congr 1
theorem put_set1{a:Nat}{v h:Int}{zs:List Int}(ha:a+1≤zs.length):zs.set a v=putZ a 1 v h zs:=by
 unfold putZ
 rw[List.set_eq_take_append_cons_drop,if_pos (by omega)]
 rfl
theorem put_set2{a:Nat}{v h:Int}{zs:List Int}(ha:a+2≤zs.length):(zs.set a v).set (a+1) h=putZ a 2 v h zs:=by
 apply List.ext_getElem?
 intro i
 unfold putZ
 have hl:(zs.take a).length=a:=by rw[List.length_take];omega
 rw[List.getElem?_set,List.length_set,List.getElem?_set]
 by_cases h1:i < a
 · rw[if_neg (by omega),if_neg (by omega),List.getElem?_append_left (by omega),List.getElem?_take_of_lt h1]
 · rw[List.getElem?_append_right (by omega),hl]
   by_cases h2:i=a
   · subst h2;rw[if_neg (by omega),if_pos rfl,if_pos (by omega),Nat.sub_self];rfl
   · by_cases h3:i=a+1
     · subst h3;rw[if_pos rfl,if_pos (by omega),show a+1 - a=1 by omega];rfl
     · rw[if_neg (by omega),if_neg (by omega),List.getElem?_append_right (by simp;omega),List.getElem?_drop]
       congr 1;simp;omega
end Go.Proofs.YthodinpflcbklaaDoor
namespace Go.Proofs.YthodinpflcbklaaDoor
open Go.RowKit
def zeroG:GrD:=((0:Int),(0:Int),[],(0:Int),(0:Int),false,())
def ansG(d N:GrD):GrD:=if gokB d=true then N else zeroG
theorem ansG_no{d N:GrD}(h:gokB d=false):ansG d N=zeroG:=by unfold ansG;rw[h];rfl
theorem ansG_yes{d N:GrD}(h:gokB d=true):ansG d N=N:=by unfold ansG;rw[h];rfl
theorem own_zeroG(w:World)(B:Nat):Own shGrid w B [I O 0,I O 0,Sz none 0 0,I O 0,I O 0,.bool false] zeroG []:=
 own_Grid (d:=zeroG) (F2:=[]) (.inl ⟨rfl,rfl,rfl⟩)
theorem gok_sides{x0 x1 x3 x4:Int}{x5:Bool}{zs:List Int}(h:gokB (x0,x1,zs,x3,x4,x5,())=true):sidesB x0 x1=true:=by
 cases hs:sidesB x0 x1 with
 | true=>rfl
 | false=>rw[gok_no1 hs] at h;cases h
theorem gok_cells{W H:Nat}{x3 x4:Int}{x5:Bool}{zs:List Int}(h:gokB ((W:Int),(H:Int),zs,x3,x4,x5,())=true):cellsB zs W (W*H)=true:=by
 obtain⟨W',H',e1,e2,_,_,_,_,_,_,hc,_⟩:=gok_parts h
 obtain rfl:W=W':=by exact_mod_cast e1
 obtain rfl:H=H':=by exact_mod_cast e2
 exact hc
end Go.Proofs.YthodinpflcbklaaDoor
namespace Go.Proofs.YthodinpflcbklaaDoor
open Go.RowKit
set_option maxRecDepth 100000
theorem up_scr'(W:Nat)(zs:List Int):up (-32) (scr 32 W zs)=scr 0 W (up (-32) zs):=by
 unfold up scr
 rw[List.map_append,List.map_drop,List.map_replicate]
 rfl
def brkG(X W d:Int)(wr:Bool):Bool:=wr||decide (W < X+d)
def putX(X W d:Int)(wr:Bool):Int:=if brkG X W d wr=true then 0 else X
def putY(X Y W H d:Int)(wr:Bool):Int:=if brkG X W d wr=true then clampG (Y+1) H else Y
def putC(X Y W H d:Int)(wr:Bool)(zs:List Int):List Int:=if brkG X W d wr=true then (if Y=H - 1 then scr 32 W.toNat zs else zs) else zs
def putN(d:GrD)(r:Int):GrD:=
 if wd r=0 then d else
   let X1:=putX d.2.2.2.1 d.1 (wd r) d.2.2.2.2.2.1
   let Y1:=putY d.2.2.2.1 d.2.2.2.2.1 d.1 d.2.1 (wd r) d.2.2.2.2.2.1
   let z1:=putC d.2.2.2.1 d.2.2.2.2.1 d.1 d.2.1 (wd r) d.2.2.2.2.2.1 d.2.2.1
   (d.1,d.2.1,putZ (Y1*d.1+X1).toNat (wd r).toNat r (-1) (clrM (Y1*d.1+X1) (Y1*d.1+X1+wd r) z1),(if X1+wd r=d.1 then X1+wd r - 1 else X1+wd r),Y1,decide (X1+wd r=d.1),())
def putD(d:GrD)(r:Int):GrD:=ansG d (putN d r)
theorem wd_rune{r:Int}(h:wd r≠0):32≤r∧r≤1114111:=by
 refine⟨?_,(wd_in h).2⟩
 unfold wd at h
 split at h
 · rename_i hp
   unfold prn at hp
   simp only[Bool.and_eq_true,decide_eq_true_eq] at hp
   exact hp.2.1
 · exact absurd rfl h
theorem put_facts{W H n:Nat}{X Y:Int}{wr:Bool}{zs:List Int}(d:Nat)(hd:d=1∨d=2)(hg:gokB ((W:Int),(H:Int),zs,X,Y,wr,())=true)(hl:zs.length=n):
   ∃ (X1 Y1:Nat) (z1:List Int),putX X W d wr=X1∧putY X Y W H d wr=Y1∧putC X Y W H d wr zs=z1∧z1.length=n∧cellsB z1 W (W*H)=true∧X1+d≤W∧Y1 < H∧(X1:Int)=putX X W d wr ∧
     ((brkG X W d wr=true∧X1=0∧clampG (Y+1) H=(Y1:Int)∧z1=(if Y=(H:Int) - 1 then scr 32 W zs else zs))∨(brkG X W d wr=false∧X=(X1:Int)∧Y=(Y1:Int)∧z1=zs)):=by
 obtain⟨W',H',e1,e2,g1,g2,g3,g4,g5,hlen,hcl,hcu⟩:=gok_parts hg
 obtain rfl:W=W':=by exact_mod_cast e1
 obtain rfl:H=H':=by exact_mod_cast e2
 obtain⟨c1,c2,c3,c4,c5⟩:=cursB_iff.1 hcu
 have hWn:W≤zs.length:=by rw[hlen];exact Nat.le_mul_of_pos_right _ (by omega)
 cases hb:brkG X W d wr with
 | true =>
   have hc:0≤clampG (Y+1) (H:Int)∧clampG (Y+1) (H:Int) < H:=by unfold clampG;omega
   refine⟨0,(clampG (Y+1) (H:Int)).toNat,_,?_,?_,rfl,?_,?_,by omega,by omega,?_,.inl ⟨rfl,rfl,by omega,?_⟩⟩
   · unfold putX;rw[if_pos hb];rfl
   · unfold putY;rw[if_pos hb];omega
   · unfold putC;rw[if_pos hb];split
     · rw[Int.toNat_natCast,scr_len hWn];exact hl
     · exact hl
   · unfold putC;rw[if_pos hb];split
     · rw[Int.toNat_natCast];exact scr_cells (by omega) g3 hlen hcl
     · exact hcl
   · unfold putX;rw[if_pos hb];rfl
   · unfold putC;rw[if_pos hb,Int.toNat_natCast]
 | false =>
   have hf:wr=false∧X+d≤W:=by
     unfold brkG at hb
     simp at hb
     exact⟨hb.1,by omega⟩
   refine⟨X.toNat,Y.toNat,zs,?_,?_,?_,hl,hcl,by omega,by omega,?_,.inr ⟨rfl,by omega,by omega,rfl⟩⟩
   · unfold putX;rw[if_neg (by rw[hb];simp)];omega
   · unfold putY;rw[if_neg (by rw[hb];simp)];omega
   · unfold putC;rw[if_neg (by rw[hb];simp)]
   · unfold putX;rw[if_neg (by rw[hb];simp)];omega
theorem putN_zero{d:GrD}{r:Int}(h:wd r=0):putN d r=d:=by unfold putN;rw[if_pos h]
theorem putN_yes{W H:Nat}{X Y:Int}{wr:Bool}{zs z1:List Int}{r:Int}{d X1 Y1:Nat}(h:wd r=d)(hd:d=1∨d=2)(e1:putX X W d wr=X1)(e2:putY X Y W H d wr=Y1)(e3:putC X Y W H d wr zs=z1):
   putN ((W:Int),(H:Int),zs,X,Y,wr,()) r=((W:Int),(H:Int),putZ (Y1*W+X1) d r (-1) (clrM ((Y1*W+X1:Nat):Int) ((Y1*W+X1+d:Nat):Int) z1),(if (X1:Int)+d=W then (X1:Int)+d - 1 else (X1:Int)+d),(Y1:Int),decide ((X1:Int)+d=W),()):=by
 unfold putN
 rw[if_neg (by rw[h];omega),h]
 simp only
 rw[e1,e2,e3]
 have ea:(Y1:Int)*(W:Int)+(X1:Int)=((Y1*W+X1:Nat):Int):=by simp
 rw[ea,Int.toNat_natCast,Int.toNat_natCast]
 congr 1
theorem putN_1(d:GrD)(r:Int):(putN d r).1=d.1∧(putN d r).2.1=d.2.1:=by
 unfold putN;split <;> exact⟨rfl,rfl⟩
theorem put_sheet{W H n a d:Nat}{r:Int}{z1:List Int}(hW:1≤W)(hl:z1.length=W*H)(hc:cellsB z1 W (W*H)=true)(h0:0 < z1.length):
   up (-32) (putZ a d r (-1) (clrM (a:Int) ((a+d:Nat):Int) z1))=putZ a d (r - 32) (-33) (clrZ (-33) 0 (a:Int) ((a+d:Nat):Int) (up (-32) z1)):=by
 rw[up_put,← clr_same (paired_of hW hl hc),up_clr h0]
theorem half0{W H:Nat}{z1:List Int}(hW:1≤W)(hl:z1.length=W*H)(hc:cellsB z1 W (W*H)=true)(h0:0 < z1.length):at0 (up (-32) z1) 0≠-33:=by
 rw[up_at h0]
 intro h
 have:=((paired_of hW hl hc 0 h0).2 (by omega)).1
 omega
set_option maxRecDepth 100000 in
theorem sheetPut_any (x0 x1 x3 x4:Int) (n:Nat) (x5:Bool) (zs:List Int) (r:Int) (hl:zs.length=n) (hg:gokB (x0,x1,zs,x3,x4,x5,())=true) (w':World) (B p g:Nat) (hs:SheetAt w' B p g n x0 x1 x3 x4 x5 (up (-32) zs)) :
   Calls Tryd.prog 95 #[.pointer (some ⟨p,0,none⟩),I O r] w' fun e w''=>e=.returned (.tuple #[])∧SheetAt w'' B p g n x0 x1 (putN (x0,x1,zs,x3,x4,x5,()) r).2.2.2.1 (putN (x0,x1,zs,x3,x4,x5,()) r).2.2.2.2.1 (putN (x0,x1,zs,x3,x4,x5,()) r).2.2.2.2.2.1 (up (-32) (putN (x0,x1,zs,x3,x4,x5,()) r).2.2.1)∧Touch w' w'' [p,g]:=by
 obtain⟨W,H,rfl,rfl,g1,g2,g3,g4,g5,hlen,hcl,hcu⟩:=gok_parts hg
 obtain⟨c1,c2,c3,c4,c5⟩:=cursB_iff.1 hcu
 have hWn:W≤n:=by rw[← hl,hlen];exact Nat.le_mul_of_pos_right _ (by omega)
 have hd:=wd_bd r
 by_cases h0:wd r=0
 · rw[putN_zero h0]
   exact put_zero p g n B W H x3 x4 r x5 (up (-32) zs) w' hs (by omega) (by omega) hWn (by omega) (by omega) (by omega) c1 c2 c3 c4 h0
 · obtain⟨d,hdd⟩:∃ d:Nat,wd r=d:=⟨(wd r).toNat,by omega⟩
   have hd2:d=1∨d=2:=by omega
   obtain⟨X1,Y1,z1,e1,e2,e3,hl1,hc1,f1,f2,_,hb⟩:=put_facts d hd2 hg hl
   rw[putN_yes hdd hd2 e1 e2 e3]
   have hr32:=wd_rune h0
   have hl1':z1.length=W*H:=by rw[hl1,← hl,hlen]
   have hpos:0 < z1.length:=by rw[hl1];omega
   have hfit:Y1*W+X1+d≤n:=by
     have h1:(Y1+1)*W≤H*W:=Nat.mul_le_mul_right _ (by omega)
     rw[Nat.add_mul,Nat.one_mul] at h1
     rw[← hl,hlen,Nat.mul_comm W H];omega
   have hb':((x5=true∨(x5=false∧(W:Int) < x3+d))∧X1=0∧clampG (x4+1) H=(Y1:Int)∧up (-32) z1=(if x4=(H:Int) - 1 then scr 0 W (up (-32) zs) else up (-32) zs))∨(x5=false∧x3+d≤(W:Int)∧x3=(X1:Int)∧x4=(Y1:Int)∧up (-32) z1=up (-32) zs):=by
     rcases hb with ⟨q1,q2,q3,q4⟩ | ⟨q1,q2,q3,q4⟩
     · left
       refine⟨?_,q2,q3,?_⟩
       · unfold brkG at q1
         cases x5 with
         | true=>exact .inl rfl
         | false=>right;simpa using q1
       · rw[q4];split
         · exact up_scr' W zs
         · rfl
     · right
       unfold brkG at q1
       simp at q1
       exact⟨q1.1,by omega,q2,q3,by rw[q4]⟩
   show Calls _ _ _ _ _
   rw[put_sheet (n:=n) (by omega) hl1' hc1 hpos]
   rcases hd2 with rfl | rfl
   · exact put_1 p g n B W H x3 x4 r x5 (up (-32) zs) w' hs (by omega) (by omega) hWn (by omega) (by omega) (by omega) c1 c2 c3 c4 hdd ⟨by omega,by omega⟩ X1 Y1 (up (-32) z1) _ _ rfl (by split <;> simp_all) (half0 (by omega) hl1' hc1 hpos) hfit ⟨by omega,by omega⟩ hb'
   · exact put_2 p g n B W H x3 x4 r x5 (up (-32) zs) w' hs (by omega) (by omega) hWn (by omega) (by omega) (by omega) c1 c2 c3 c4 hdd ⟨by omega,by omega⟩ X1 Y1 (up (-32) z1) _ _ rfl (by split <;> simp_all) (half0 (by omega) hl1' hc1 hpos) hfit ⟨by omega,by omega⟩ hb'
end Go.Proofs.YthodinpflcbklaaDoor
