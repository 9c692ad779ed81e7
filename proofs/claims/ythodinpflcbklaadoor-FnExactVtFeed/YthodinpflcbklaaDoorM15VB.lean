/-
  Parts of the road to VB, joined: TmH, GrK, TmW, Rb, Rmath, Conv, Rrd.
-/
import Derived.Test.YthodinpflcbklaaDoorM14VB
import Derived.Test.YthodinpflcbklaaDoorM13VB
import Derived.Test.YthodinpflcbklaaDoorM12VB
import Derived.Test.YthodinpflcbklaaDoorM6VB
import Derived.Test.YthodinpflcbklaaDoorM0VB
import Derived.Lib.RuneBytes
import Derived.Lib.DecodeN
import Derived.Laws.BytesArg
open Go.Value renaming int → I,slice → Sz
open Go.IntKind renaming i64 → O
open List renaming setIfInBounds_toArray → lA,getElem_toArray → lB,getElem_cons_succ → lC,getElem_cons_zero → lD,set_cons_zero → lE,set_cons_succ → lF
set_option linter.unusedVariables false
set_option linter.unusedSimpArgs false
set_option maxHeartbeats 40000000
namespace Go.Proofs.YthodinpflcbklaaDoor
open Go.RowKit
set_option maxRecDepth 100000
theorem plain_down(B t p g n W:Nat)(H X Y:Int)(wr:Bool)(zs:List Int)(st:Int)(av:Value)(al:List Int)(pv:Value)(pl:List Int)(be:Int)(fv:Value)(w:World)(h:TermAt w B t p g n W H X Y wr zs st av al pv pl be fv)(hb:0≤Y∧Y < H∧2≤W∧W≤200∧1≤H∧H≤200)(hWn:W≤n)(hn:n≤8000):
   Calls Tryd.prog 76 #[.pointer (some ⟨t,0,none⟩),I .u8 10] w fun e w'=>e=.returned (.tuple #[])∧TermAt w' B t p g n W H (clampG X (W:Int)) (clampG (Y+1) H) false (if Y=H - 1 then scr 0 W zs else zs) st av al (Sz none 0 0) [] be fv∧Kp B w w':=by
 have qm:Hid (∀ w' x pv pl,TermAt w' B t p g n W H X Y wr zs st av al pv pl be fv→Calls Tryd.prog 94 #[.pointer (some ⟨p,0,none⟩),I O x] w' fun e w''=>e=.returned (.tuple #[])∧TermAt w'' B t p g n W H (clampG x (W:Int)) (clampG (Y+1) H) false (if Y=H - 1 then scr 0 W zs else zs) st av al pv pl be fv∧Kp B w' w''):=fun w' x pv pl h =>
   (goDown_any p g n B W H X Y x wr zs w' h.sheet (by omega) (by omega) hWn hn (by omega) (by omega) (by omega) (by omega)).mono fun e w'' ⟨he,hs,ht⟩=>⟨he,h.sheet' ht (fun k hk=>by simpa using hk) hs⟩
 have y3:w.cell? ⟨t,3,none⟩=some pv:=bxc h.box rfl
 have f3:w.frozen? ⟨t,3,none⟩=false:=box_frozen h.box
 have H1:Hid (∀ q,TermAt ((w.setCell ⟨t,3,none⟩ (Sz none 0 0)).drewN q) B t p g n W H X Y wr zs st av al (Sz none 0 0) [] be fv∧Kp B w ((w.setCell ⟨t,3,none⟩ (Sz none 0 0)).drewN q)):=fun q=>⟨h.no_part.drewN q,(kp_set B w 3 _ h.lo).trans (kp_drewN B _ q)⟩
 have z0:(w.setCell ⟨t,3,none⟩ (Sz none 0 0)).cell? ⟨t,0,none⟩=some (.pointer (some ⟨p,0,none⟩)):=bxc (H1.out 0).1.box rfl
 have y0:w.cell? ⟨t,0,none⟩=some (.pointer (some ⟨p,0,none⟩)):=bxc h.box rfl
 have s3:w.cell? ⟨p,3,none⟩=some (I O X):=bxc h.sheet.box rfl
 have s4:w.cell? ⟨p,4,none⟩=some (I O Y):=bxc h.sheet.box rfl
 have z3:(w.setCell ⟨t,3,none⟩ (Sz none 0 0)).cell? ⟨p,3,none⟩=some (I O X):=bxc (H1.out 0).1.sheet.box rfl
 have z4:(w.setCell ⟨t,3,none⟩ (Sz none 0 0)).cell? ⟨p,4,none⟩=some (I O Y):=bxc (H1.out 0).1.sheet.box rfl
 have hne:¬ t=p:=h.tp
 obtain⟨Z,hZ⟩:∃ Z,Z=(if Y=H - 1 then scr 0 W zs else zs):=⟨_,rfl⟩
 rw[← hZ] at qm ⊢
 clear h hZ
 go_enter Tryd.func76,Tryd.ntmps76
 go_wp2
 go_region_with ((go_at_call 94;refine(qm.out _ _ _ _ (by first | exact(H1.out 0).1 | exact(H1.out 1).1 | exact(H1.out _).1)).mono ?_;rintro e w9 ⟨rfl,h9,k9⟩))
 all_goals (
   have HH:Hid (_∧_):=⟨h9,(by first | exact(H1.out 0).2.trans k9 | exact(H1.out 1).2.trans k9 | exact(H1.out _).2.trans k9:Kp B w w9)⟩
   clear h9 k9
   (try simp only[Exit.inBlock,Exit.then])
   refine bodyPost_end (v:=.tuple #[]) (by simp[results,Tryd.results76,go_sem]) rfl ⟨rfl,HH.out⟩)
end Go.Proofs.YthodinpflcbklaaDoor
namespace Go.Proofs.YthodinpflcbklaaDoor
open Go.RowKit
theorem cellB_iff{c:List Int}{W i:Nat}:cellB c W i=true↔(at0 c i=-1∧i % W≠0∧wd (at0 c (i - 1))=2)∨(at0 c i≠-1∧(wd (at0 c i)=1∨(wd (at0 c i)=2∧i % W≠W - 1∧at0 c (i+1)=-1))):=by
 unfold cellB
 by_cases h:at0 c i=-1
 · rw[if_pos h];simp[h]
 · rw[if_neg h];simp[h,and_assoc]
theorem wd_neg{r:Int}(h:wd r≠0):r≠-1:=fun e=>h (by rw[e];exact wd_half)
theorem clr_cells{W H:Nat}{x y:Int}{zs:List Int}(hW:1≤W)(hl:zs.length=W*H)(h:cellsB zs W (W*H)=true):cellsB (clrM x y zs) W (W*H)=true:=by
 refine cellsB_all fun i hi=>?_
 have hi':i < zs.length:=by omega
 have hp:=paired_of hW hl h
 have hc:=cellB_iff.1 (cellsB_lt h hi)
 have sym:∀ j,j+1 < zs.length→wd (at0 zs j)=2→at0 zs (j+1)=-1→goesM x y zs j=goesM x y zs (j+1):=by
   intro j hj h1 h2
   have o1:otherM zs j=(j:Int)+1:=by unfold otherM;rw[if_pos h1]
   have o2:otherM zs (j+1)=(j:Int):=by
     unfold otherM
     rw[if_neg (by rw[h2,wd_half];decide),if_pos h2];omega
   have e:∀ b c:Bool,(b=true↔c=true)→b=c:=by intro b c h;cases b <;> cases c <;> simp_all
   apply e
   rw[goes_iff,goes_iff,o1,o2]
   constructor <;> intro h <;> omega
 rw[cellB_iff,clrM_at hi']
 by_cases hg:goesM x y zs i=true
 · rw[if_pos hg]
   right
   exact⟨by decide,.inl wd_blank⟩
 · rw[if_neg hg]
   rcases hc with ⟨h1,h2,h3⟩ | ⟨h1,h2⟩
   · left
     obtain⟨p1,p2⟩:=(hp i hi').2 h1
     have s:=sym (i - 1) (by omega) h3 (by rw[show i - 1+1=i by omega];exact h1)
     rw[show i - 1+1=i by omega] at s
     refine⟨h1,h2,?_⟩
     rw[clrM_at (by omega),if_neg (by rw[s];exact hg)]
     exact h3
   · right
     refine⟨h1,?_⟩
     rcases h2 with h2 | ⟨h2,h3,h4⟩
     · exact .inl h2
     · right
       obtain⟨p1,p2⟩:=(hp i hi').1 h2
       have s:=sym i p1 h2 h4
       refine⟨h2,h3,?_⟩
       rw[clrM_at p1,if_neg (by rw[← s];exact hg)]
       exact h4
theorem at0_set{zs:List Int}{a i:Nat}{v:Int}(ha:a < zs.length):at0 (zs.set a v) i=if i=a then v else at0 zs i:=by
 unfold at0
 rw[List.getElem?_set]
 by_cases h:i=a
 · subst h;simp[ha]
 · rw[if_neg (fun e=>h e.symm),if_neg h]
theorem putZ_at{a d i:Nat}{v h:Int}{zs:List Int}(hd:d=1∨d=2)(ha:a+d≤zs.length):at0 (putZ a d v h zs) i=if i=a then v else if d=2∧i=a+1 then h else at0 zs i:=by
 rcases hd with rfl | rfl
 · rw[← put_set1 (h:=h) ha,at0_set (by omega)]
   simp
 · rw[← put_set2 ha,at0_set (by rw[List.length_set];omega)]
   by_cases h1:i=a+1
   · rw[if_pos h1,if_neg (by omega),if_pos ⟨rfl,h1⟩]
   · rw[if_neg h1,at0_set (by omega)]
     by_cases h2:i=a
     · rw[if_pos h2,if_pos h2]
     · rw[if_neg h2,if_neg h2,if_neg (fun e=>h1 e.2)]
theorem put_cells{W H a d X Y:Nat}{r:Int}{c:List Int}(hd:d=1∨d=2)(hr:wd r=d)(hW:1≤W)(hl:c.length=W*H)(h:cellsB c W (W*H)=true)(ha:a=Y*W+X)(hX:X+d≤W)(hY:Y < H)(hb:∀ i,a≤i→i < a+d→at0 c i=32):
   cellsB (putZ a d r (-1) c) W (W*H)=true:=by
 have hfit:a+d≤c.length:=by
   have h1:(Y+1)*W≤H*W:=Nat.mul_le_mul_right _ hY
   rw[Nat.add_mul,Nat.one_mul] at h1
   rw[hl,Nat.mul_comm W H];omega
 have hm:∀ k,k < d→(a+k) % W=X+k:=by
   intro k hk
   rw[ha,Nat.add_assoc,Nat.add_comm (Y*W),Nat.add_mul_mod_self_right]
   exact Nat.mod_eq_of_lt (by omega)
 refine cellsB_all fun i hi=>?_
 have hc:=cellB_iff.1 (cellsB_lt h hi)
 rw[cellB_iff,putZ_at hd hfit,putZ_at hd hfit,putZ_at hd hfit]
 by_cases h1:i=a
 · subst h1
   rw[if_pos rfl]
   right
   refine⟨wd_neg (by rw[hr];omega),?_⟩
   rcases hd with rfl | rfl
   · exact .inl hr
   · right
     have:=hm 0 (by omega)
     rw[Nat.add_zero] at this
     refine⟨hr,by omega,?_⟩
     rw[if_neg (by omega),if_pos ⟨rfl,rfl⟩]
 · rw[if_neg h1]
   by_cases h2:d=2∧i=a+1
   · obtain⟨rfl,rfl⟩:=h2
     rw[if_pos ⟨rfl,rfl⟩]
     left
     have:=hm 1 (by omega)
     refine⟨rfl,by omega,?_⟩
     rw[show a+1 - 1=a by omega,if_pos rfl]
     exact hr
   · rw[if_neg h2]
     rcases hc with ⟨c1,c2,c3⟩ | ⟨c1,c2⟩
     · left
       have hi0:i≠0:=by intro e;subst e;simp at c2
       refine⟨c1,c2,?_⟩
       have n1:i - 1≠a:=by
         intro e
         have:=hb a (Nat.le_refl _) (by omega)
         rw[e,this,wd_blank] at c3;omega
       have n2:¬ (d=2∧i - 1=a+1):=by
         rintro⟨rfl,e⟩
         have:=hb (a+1) (by omega) (by omega)
         rw[e,this,wd_blank] at c3;omega
       rw[if_neg n1,if_neg n2];exact c3
     · right
       refine⟨c1,?_⟩
       rcases c2 with c2 | ⟨c2,c3,c4⟩
       · exact .inl c2
       · right
         refine⟨c2,c3,?_⟩
         have n1:i+1≠a:=by
           intro e
           have:=hb a (Nat.le_refl _) (by omega)
           rw[e,this] at c4;omega
         have n2:¬ (d=2∧i+1=a+1):=by
           rintro⟨_,e⟩
           omega
         rw[if_neg n1,if_neg n2];exact c4
theorem gok_make{W H:Nat}{X Y:Int}{wr:Bool}{zs:List Int}(hs:sidesB W H=true)(hl:zs.length=W*H)(hc:cellsB zs W (W*H)=true)(hcu:cursB W H X Y wr=true):gokB ((W:Int),(H:Int),zs,X,Y,wr,())=true:=by
 rw[gok_three hs hl,hc,hcu];rfl
theorem clr_goes{x y:Int}{zs:List Int}{i:Nat}(hi:i < zs.length)(h:x≤(i:Int)∧(i:Int) < y):at0 (clrM x y zs) i=32:=by
 rw[clrM_at hi,if_pos (goes_iff.2 (.inl h))]
theorem put_right{d:GrD}{r:Int}(hg:gokB d=true):gokB (putN d r)=true:=by
 obtain⟨x0,x1,zs,x3,x4,x5,_⟩:=d
 obtain⟨W,H,rfl,rfl,g1,g2,g3,g4,g5,hlen,hcl,hcu⟩:=gok_parts hg
 have hbd:=wd_bd r
 by_cases h0:wd r=0
 · rw[putN_zero h0];exact hg
 · obtain⟨k,hk⟩:∃ k:Nat,wd r=k:=⟨(wd r).toNat,by omega⟩
   have hk2:k=1∨k=2:=by omega
   obtain⟨X1,Y1,z1,e1,e2,e3,hl1,hc1,f1,f2,_,_⟩:=put_facts k hk2 hg rfl
   rw[putN_yes hk hk2 e1 e2 e3]
   have hl1':z1.length=W*H:=by rw[hl1];exact hlen
   have hfit:Y1*W+X1+k≤z1.length:=by
     have h1:(Y1+1)*W≤H*W:=Nat.mul_le_mul_right _ f2
     rw[Nat.add_mul,Nat.one_mul] at h1
     rw[hl1',Nat.mul_comm W H];omega
   refine gok_make (gok_sides hg) ?_ ?_ ?_
   · rw[putZ_len (by omega) (by rw[clrM_len];exact hfit),clrM_len];exact hl1'
   · refine put_cells (X:=X1) (Y:=Y1) hk2 hk (by omega) (by rw[clrM_len];exact hl1') (clr_cells (by omega) hl1' hc1) rfl f1 f2 ?_
     intro i i1 i2
     have e9:(((Y1*W+X1:Nat):Int))=(Y1:Int)*(W:Int)+(X1:Int):=by simp
     exact clr_goes (by omega) (by omega)
   · refine cursB_iff.2 ?_
     by_cases h9:(X1:Int)+k=W
     · rw[if_pos h9,decide_eq_true h9];exact⟨by omega,by omega,by omega,by omega,fun _=>by omega⟩
     · rw[if_neg h9,decide_eq_false h9];exact⟨by omega,by omega,by omega,by omega,fun h=>by cases h⟩
theorem scroll_right{x0 x1 x3 x4:Int}{x5:Bool}{zs:List Int}(hg:gokB (x0,x1,zs,x3,x4,x5,())=true):gokB (x0,x1,scr 32 x0.toNat zs,x3,x4,x5,())=true:=by
 obtain⟨W,H,rfl,rfl,g1,g2,g3,g4,g5,hlen,hcl,hcu⟩:=gok_parts hg
 rw[Int.toNat_natCast]
 have hWn:W≤zs.length:=by rw[hlen];exact Nat.le_mul_of_pos_right _ (by omega)
 exact gok_make (gok_sides hg) (by rw[scr_len hWn];exact hlen) (scr_cells (by omega) g3 hlen hcl) hcu
theorem clear_right{x0 x1 x3 x4 x y:Int}{x5:Bool}{zs:List Int}(hg:gokB (x0,x1,zs,x3,x4,x5,())=true):gokB (x0,x1,clrM x y zs,x3,x4,x5,())=true:=by
 obtain⟨W,H,rfl,rfl,g1,g2,g3,g4,g5,hlen,hcl,hcu⟩:=gok_parts hg
 exact gok_make (gok_sides hg) (by rw[clrM_len];exact hlen) (clr_cells (by omega) hlen hcl) hcu
theorem go_right{x0 x1 x3 x4 x y:Int}{x5:Bool}{zs:List Int}(hg:gokB (x0,x1,zs,x3,x4,x5,())=true):gokB (x0,x1,zs,clampG x x0,clampG y x1,false,())=true:=by
 obtain⟨W,H,rfl,rfl,g1,g2,g3,g4,g5,hlen,hcl,hcu⟩:=gok_parts hg
 refine gok_make (gok_sides hg) hlen hcl (cursB_iff.2 ?_)
 unfold clampG
 refine⟨?_,?_,?_,?_,fun h=>by cases h⟩
 all_goals (repeat' split)
 all_goals omega
end Go.Proofs.YthodinpflcbklaaDoor
namespace Go.Proofs.YthodinpflcbklaaDoor
open Go.RowKit
def ersM(m x a y:Int)(zs:List Int):List Int:=if m=0 then clrM a y zs else if m=1 then clrM x (a+1) zs else if m=2 then clrM x y zs else zs
theorem ers_up{m x a y:Int}{zs:List Int}(hp:Paired zs)(h0:0 < zs.length):ersC m x a y (up (-32) zs)=up (-32) (ersM m x a y zs):=by
 have e:∀ x y,clrZ (-33) 0 x y (up (-32) zs)=up (-32) (clrM x y zs):=fun x y=>by rw[← clr_same hp,up_clr h0]
 unfold ersC ersM
 rw[e,e,e]
 by_cases h1:m=0
 · rw[if_pos h1,if_pos h1]
 · rw[if_neg h1,if_neg h1]
   by_cases h2:m=1
   · rw[if_pos h2,if_pos h2]
   · rw[if_neg h2,if_neg h2]
     by_cases h3:m=2
     · rw[if_pos h3,if_pos h3]
     · rw[if_neg h3,if_neg h3]
theorem ers_right{x0 x1 x3 x4 m x a y:Int}{x5:Bool}{zs:List Int}(hg:gokB (x0,x1,zs,x3,x4,x5,())=true):gokB (x0,x1,ersM m x a y zs,x3,x4,x5,())=true:=by
 unfold ersM
 split
 · exact clear_right hg
 · split
   · exact clear_right hg
   · split
     · exact clear_right hg
     · exact hg
def doG(al:List Int)(b W H X Y:Int)(wr:Bool)(zs:List Int):GrD:=
 if b=65 then (W,H,zs,clampG X W,clampG (Y - cntN al 0) H,false,())
 else if b=66 then (W,H,zs,clampG X W,clampG (Y+cntN al 0) H,false,())
 else if b=67 then (W,H,zs,clampG (X+cntN al 0) W,clampG Y H,false,())
 else if b=68 then (W,H,zs,clampG (X - cntN al 0) W,clampG Y H,false,())
 else if b=72 then (W,H,zs,clampG (cntN al 1 - 1) W,clampG (cntN al 0 - 1) H,false,())
 else if b=74 then (W,H,ersM (at0 al 0) 0 (Y*W+X) (zs.length:Int) zs,X,Y,wr,())
 else if b=75 then (W,H,ersM (at0 al 0) (Y*W) (Y*W+X) ((Y+1)*W) zs,X,Y,wr,())
 else (W,H,zs,X,Y,wr,())
theorem do_up{al:List Int}{b W H X Y:Int}{wr:Bool}{zs:List Int}{n:Nat}(hp:Paired zs)(h0:0 < zs.length)(hl:zs.length=n):
   doS al b W H X Y n wr (up (-32) zs)=((doG al b W H X Y wr zs).2.2.2.1,(doG al b W H X Y wr zs).2.2.2.2.1,(doG al b W H X Y wr zs).2.2.2.2.2.1,up (-32) (doG al b W H X Y wr zs).2.2.1):=by
 unfold doS doG
 by_cases e1:b=65
 · rw[if_pos e1,if_pos e1]
 rw[if_neg e1,if_neg e1]
 by_cases e2:b=66
 · rw[if_pos e2,if_pos e2]
 rw[if_neg e2,if_neg e2]
 by_cases e3:b=67
 · rw[if_pos e3,if_pos e3]
 rw[if_neg e3,if_neg e3]
 by_cases e4:b=68
 · rw[if_pos e4,if_pos e4]
 rw[if_neg e4,if_neg e4]
 by_cases e5:b=72
 · rw[if_pos e5,if_pos e5]
 rw[if_neg e5,if_neg e5]
 by_cases e6:b=74
 · rw[if_pos e6,if_pos e6,ers_up hp h0,hl]
 rw[if_neg e6,if_neg e6]
 by_cases e7:b=75
 · rw[if_pos e7,if_pos e7,ers_up hp h0]
 rw[if_neg e7,if_neg e7]
theorem do_right{al:List Int}{b W H X Y:Int}{wr:Bool}{zs:List Int}(hg:gokB (W,H,zs,X,Y,wr,())=true):gokB (doG al b W H X Y wr zs)=true:=by
 unfold doG
 by_cases e1:b=65
 · rw[if_pos e1];exact go_right hg
 rw[if_neg e1]
 by_cases e2:b=66
 · rw[if_pos e2];exact go_right hg
 rw[if_neg e2]
 by_cases e3:b=67
 · rw[if_pos e3];exact go_right hg
 rw[if_neg e3]
 by_cases e4:b=68
 · rw[if_pos e4];exact go_right hg
 rw[if_neg e4]
 by_cases e5:b=72
 · rw[if_pos e5];exact go_right hg
 rw[if_neg e5]
 by_cases e6:b=74
 · rw[if_pos e6];exact ers_right hg
 rw[if_neg e6]
 by_cases e7:b=75
 · rw[if_pos e7];exact ers_right hg
 rw[if_neg e7];exact hg
def downG(W H X Y:Int)(zs:List Int):GrD:=(W,H,if Y=H - 1 then scr 32 W.toNat zs else zs,clampG X W,clampG (Y+1) H,false,())
theorem down_right{W H X Y:Int}{wr:Bool}{zs:List Int}(hg:gokB (W,H,zs,X,Y,wr,())=true):gokB (downG W H X Y zs)=true:=by
 unfold downG
 by_cases h:Y=H - 1
 · rw[if_pos h];exact go_right (scroll_right hg)
 · rw[if_neg h];exact go_right hg
theorem seq_endG(B t p g n:Nat)(W H X Y:Int)(wr:Bool)(zs:List Int)(st:Int)(av:Value)(al:List Int)(pv:Value)(pl:List Int)(be:Int)(fv:Value)(b:Int)(hbb:¬ (48≤b∧b≤57)∧b≠59)(w:World)(h:TermAt w B t p g n W H X Y wr (up (-32) zs) st av al pv pl be fv)(hl:zs.length=n)(hg:gokB (W,H,zs,X,Y,wr,())=true)(ha:∀ i,0≤at0 al i∧at0 al i≤9999):
   Calls Tryd.prog 75 #[.pointer (some ⟨t,0,none⟩),I .u8 b] w fun e w'=>e=.returned (.tuple #[])∧TermAt w' B t p g n W H (doG al b W H X Y wr zs).2.2.2.1 (doG al b W H X Y wr zs).2.2.2.2.1 (doG al b W H X Y wr zs).2.2.2.2.2.1 (up (-32) (doG al b W H X Y wr zs).2.2.1) 0 (Sz none 0 0) [] pv pl be (fvOf t 0)∧Kp B w w':=by
 obtain⟨W',H',rfl,rfl,g1,g2,g3,g4,g5,hlen,hcl,hcu⟩:=gok_parts hg
 obtain⟨c1,c2,c3,c4,c5⟩:=cursB_iff.1 hcu
 have hpos:0 < W'*H':=Nat.mul_pos (by omega) (by omega)
 have hp:=paired_of (by omega) hlen hcl
 have q:=seq_end B t p g n W' H' X Y wr (up (-32) zs) st av al pv pl be fv b hbb w h (by omega) (by omega) (half0 (by omega) hlen hcl (by omega)) (by omega) (by rw[← hl,hlen];push_cast;rfl) ha
 rw[do_up hp (by omega) hl] at q
 exact q
theorem plain_downG(B t p g n:Nat)(W H X Y:Int)(wr:Bool)(zs:List Int)(st:Int)(av:Value)(al:List Int)(pv:Value)(pl:List Int)(be:Int)(fv:Value)(w:World)(h:TermAt w B t p g n W H X Y wr (up (-32) zs) st av al pv pl be fv)(hl:zs.length=n)(hg:gokB (W,H,zs,X,Y,wr,())=true):
   Calls Tryd.prog 76 #[.pointer (some ⟨t,0,none⟩),I .u8 10] w fun e w'=>e=.returned (.tuple #[])∧TermAt w' B t p g n W H (downG W H X Y zs).2.2.2.1 (downG W H X Y zs).2.2.2.2.1 (downG W H X Y zs).2.2.2.2.2.1 (up (-32) (downG W H X Y zs).2.2.1) st av al (Sz none 0 0) [] be fv∧Kp B w w':=by
 obtain⟨W',H',rfl,rfl,g1,g2,g3,g4,g5,hlen,hcl,hcu⟩:=gok_parts hg
 obtain⟨c1,c2,c3,c4,c5⟩:=cursB_iff.1 hcu
 have hW:W'≤n:=by rw[← hl,hlen];exact Nat.le_mul_of_pos_right _ (by omega)
 have q:=plain_down B t p g n W' H' X Y wr (up (-32) zs) st av al pv pl be fv w h (by omega) hW (by omega)
 have e:(if Y=(H':Int) - 1 then scr 0 W' (up (-32) zs) else up (-32) zs)=up (-32) (downG W' H' X Y zs).2.2.1:=by
   unfold downG
   by_cases h1:Y=(H':Int) - 1
   · rw[if_pos h1,if_pos h1,← up_scr'];rfl
   · rw[if_neg h1,if_neg h1]
 rw[e] at q
 exact q
end Go.Proofs.YthodinpflcbklaaDoor
namespace Go.Proofs.YthodinpflcbklaaDoor
open Go.RowKit
def rb(r:Int):List Int:=if rok r then Lib.encodeRuneZ r else []
theorem rok_true{r:Int}(h:rok r=true):0≤r∧r≤1114111∧(r < 55296∨57343 < r):=by simpa [rok] using h
theorem rb_byte(r:Int):∀ x ∈ rb r,0≤x∧x < 256:=by
 intro x hx
 unfold rb at hx
 split at hx
 · exact Lib.encodeRuneZ_byte r x hx
 · cases hx
theorem specRb_any(r:Int)(w:World):
   Calls Tryd.prog 86 #[I O r] w fun e w'=>∃ v,e=.returned v∧w'.ownsRow w.heap.size 5 1 v (rb r).length ((rb r).map (Value.int .u8))∧Below w.heap.size w w':=by
 by_cases hk:rok r=true
 · obtain⟨h0,h1,h2⟩:=rok_true hk
   have HR:Hid (rb r=Lib.encodeRuneZ r):=by show rb r=_;simp[rb,hk]
   by_cases c1:r < 128
   · have own:=World.ownsRow_lit (base:=w.heap.size) (e:=5) (size:=1) w #[I .u8 r] 1 (Nat.le_refl _) (by decide) rfl
     have q:Lib.encodeRuneZ r=[r]:=Lib.encodeRuneZ_one h0 (by omega)
     rw[HR.out,q]
     go_enter Tryd.func86,Tryd.ntmps86
     go_wp2_with fail
     refine(specRuneOk_any r _).mono ?_
     rintro e w1 ⟨rfl,rfl⟩
     rw[hk]
     go_wp2
     go_ret
     exact⟨_,rfl,own,(Below.refl _ _).alloc (Nat.le_refl _) _⟩
   · by_cases c2:r < 2048
     · have own:=World.ownsRow_lit (base:=w.heap.size) (e:=5) (size:=1) w #[I .u8 (192+r / 64),I .u8 (128+r % 64)] 2 (Nat.le_refl _) (by decide) rfl
       have q:Lib.encodeRuneZ r=_:=Lib.encodeRuneZ_two (by omega) (by omega)
       rw[HR.out,q]
       go_enter Tryd.func86,Tryd.ntmps86
       go_wp2_with fail
       refine(specRuneOk_any r _).mono ?_
       rintro e w1 ⟨rfl,rfl⟩
       rw[hk]
       go_wp2
       go_ret
       exact⟨_,rfl,own,(Below.refl _ _).alloc (Nat.le_refl _) _⟩
     · by_cases c3:r < 65536
       · have own:=World.ownsRow_lit (base:=w.heap.size) (e:=5) (size:=1) w #[I .u8 (224+r / 4096),I .u8 (128+r / 64 % 64),I .u8 (128+r % 64)] 3 (Nat.le_refl _) (by decide) rfl
         have q:Lib.encodeRuneZ r=_:=Lib.encodeRuneZ_three (by omega)
         rw[HR.out,q]
         go_enter Tryd.func86,Tryd.ntmps86
         go_wp2_with fail
         refine(specRuneOk_any r _).mono ?_
         rintro e w1 ⟨rfl,rfl⟩
         rw[hk]
         go_wp2
         go_ret
         exact⟨_,rfl,own,(Below.refl _ _).alloc (Nat.le_refl _) _⟩
       · have own:=World.ownsRow_lit (base:=w.heap.size) (e:=5) (size:=1) w #[I .u8 (240+r / 262144),I .u8 (128+r / 4096 % 64),I .u8 (128+r / 64 % 64),I .u8 (128+r % 64)] 4 (Nat.le_refl _) (by decide) rfl
         have q:Lib.encodeRuneZ r=_:=Lib.encodeRuneZ_four (by omega) (by omega)
         rw[HR.out,q]
         go_enter Tryd.func86,Tryd.ntmps86
         go_wp2_with fail
         refine(specRuneOk_any r _).mono ?_
         rintro e w1 ⟨rfl,rfl⟩
         rw[hk]
         go_wp2
         go_ret
         exact⟨_,rfl,own,(Below.refl _ _).alloc (Nat.le_refl _) _⟩
 · have hk':rok r=false:=by simpa using hk
   have q:rb r=[]:=by simp[rb,hk']
   rw[q]
   go_enter Tryd.func86,Tryd.ntmps86
   go_wp2_with fail
   refine(specRuneOk_any r _).mono ?_
   rintro e w1 ⟨rfl,rfl⟩
   rw[hk']
   go_wp2
   go_ret
   exact⟨_,rfl,World.ownsRow_nil _ _ _ _,Below.refl _ _⟩
end Go.Proofs.YthodinpflcbklaaDoor
namespace Go.Proofs.YthodinpflcbklaaDoor
open Go.RowKit
def bt(zs:List Int)(j:Nat):Int:=zs[j]?.getD 0
def base(k:Nat):Int:=if k=2 then 192 else if k=3 then 224 else if k=4 then 240 else 0
def accu(zs:List Int)(A k:Nat):Nat→Int
 | 0=>bt zs A - base k
 | j+1=>accu zs A k j*64+bt zs (A+(j+1)) - 128
def cnd(zs:List Int)(A k:Nat):Int:=accu zs A k (k - 1)
theorem accu_bd(zs:List Int)(A k j:Nat)(hb:∀ i,0≤bt zs i∧bt zs i≤255)(hj:j≤3):-300000000≤accu zs A k j∧accu zs A k j≤300000000:=by
 have h0:=hb A
 have hbase:0≤base k∧base k≤240:=by unfold base;repeat' split
                                    all_goals omega
 have h1:=hb (A+(0+1));have h2:=hb (A+(1+1));have h3:=hb (A+(2+1))
 have:j=0∨j=1∨j=2∨j=3:=by omega
 rcases this with rfl | rfl | rfl | rfl <;> simp only[accu] <;> omega
theorem rb_cases(c:Int):(c < 0∧rb c=[])∨(0≤c∧c≤127∧rb c=[c])∨(128≤c∧c≤2047∧rb c=[192+c / 64,128+c % 64]) ∨
   (((2048≤c∧c < 55296)∨(57343 < c∧c≤65535))∧rb c=[224+c / 4096,128+c / 64 % 64,128+c % 64]) ∨
   (65536≤c∧c≤1114111∧rb c=[240+c / 262144,128+c / 4096 % 64,128+c / 64 % 64,128+c % 64]) ∨
   (((55296≤c∧c≤57343)∨1114111 < c)∧rb c=[]):=by
 have ht:∀ h:(0≤c∧c≤1114111∧(c < 55296∨57343 < c)),rok c=true:=fun h=>by simpa [rok] using h
 have hf:∀ h:¬ (0≤c∧c≤1114111∧(c < 55296∨57343 < c)),rb c=[]:=fun h=>by
   have:rok c=false:=by simp only[rok];exact decide_eq_false h
   simp[rb,this]
 by_cases h1:c < 0
 · exact .inl ⟨h1,hf (by omega)⟩
 by_cases h2:c≤127
 · exact .inr (.inl ⟨by omega,h2,by simp[rb,ht (by omega),Lib.encodeRuneZ_one (show 0≤c by omega) h2]⟩)
 by_cases h3:c≤2047
 · exact .inr (.inr (.inl ⟨by omega,h3,by simp[rb,ht (by omega),Lib.encodeRuneZ_two (show 128≤c by omega) h3]⟩))
 by_cases h4:(2048≤c∧c < 55296)∨(57343 < c∧c≤65535)
 · exact .inr (.inr (.inr (.inl ⟨h4,by simp[rb,ht (by omega),Lib.encodeRuneZ_three h4]⟩)))
 by_cases h5:65536≤c∧c≤1114111
 · exact .inr (.inr (.inr (.inr (.inl ⟨h5.1,h5.2,by simp[rb,ht (by omega),Lib.encodeRuneZ_four h5.1 h5.2]⟩))))
 · exact .inr (.inr (.inr (.inr (.inr ⟨by omega,hf (by omega)⟩))))
theorem m1(b0:Int)(h0:0≤b0∧b0≤255):rb b0=[b0]↔b0 < 128:=by
 rcases rb_cases b0 with ⟨h,e⟩ | ⟨h,h',e⟩ | ⟨h,h',e⟩ | ⟨h,e⟩ | ⟨h,h',e⟩ | ⟨h,e⟩
 all_goals (rw[e];simp;omega)
theorem m2(b0 b1 c:Int)(h0:0≤b0∧b0≤255)(h1:0≤b1∧b1≤255)(hc:c=(b0 - 192)*64+b1 - 128):
   rb c=[b0,b1]↔(b0 / 32=6∧b1 / 64=2∧128≤b0 % 32*64+b1 % 64):=by
 rcases rb_cases c with ⟨h,e⟩ | ⟨h,h',e⟩ | ⟨h,h',e⟩ | ⟨h,e⟩ | ⟨h,h',e⟩ | ⟨h,e⟩
 all_goals (rw[e];simp;omega)
theorem m3(b0 b1 b2 c:Int)(h0:0≤b0∧b0≤255)(h1:0≤b1∧b1≤255)(h2:0≤b2∧b2≤255)(hc:c=((b0 - 224)*64+b1 - 128)*64+b2 - 128):
   rb c=[b0,b1,b2]↔(b0 / 16=14∧b1 / 64=2∧b2 / 64=2∧2048≤b0 % 16*4096+b1 % 64*64+b2 % 64∧(b0 % 16*4096+b1 % 64*64+b2 % 64 < 55296∨57344≤b0 % 16*4096+b1 % 64*64+b2 % 64)):=by
 rcases rb_cases c with ⟨h,e⟩ | ⟨h,h',e⟩ | ⟨h,h',e⟩ | ⟨h,e⟩ | ⟨h,h',e⟩ | ⟨h,e⟩
 all_goals (rw[e];simp;omega)
theorem m4(b0 b1 b2 b3 c:Int)(h0:0≤b0∧b0≤255)(h1:0≤b1∧b1≤255)(h2:0≤b2∧b2≤255)(h3:0≤b3∧b3≤255)(hc:c=(((b0 - 240)*64+b1 - 128)*64+b2 - 128)*64+b3 - 128):
   rb c=[b0,b1,b2,b3]↔(b0 / 8=30∧b1 / 64=2∧b2 / 64=2∧b3 / 64=2∧65536≤b0 % 8*262144+b1 % 64*4096+b2 % 64*64+b3 % 64∧b0 % 8*262144+b1 % 64*4096+b2 % 64*64+b3 % 64≤1114111):=by
 rcases rb_cases c with ⟨h,e⟩ | ⟨h,h',e⟩ | ⟨h,h',e⟩ | ⟨h,e⟩ | ⟨h,h',e⟩ | ⟨h,e⟩
 all_goals (rw[e];simp;omega)
def goAns(p:Nat × Nat):Int × Int:=if p.1=65533∧p.2 < 2 then (0,0) else ((p.1:Int),(p.2:Int))
def rrd(zs:List Int)(A:Nat):Int × Int:=goAns (Lib.decodeN (zs.length - A) (bt zs A).toNat (bt zs (A+1)).toNat (bt zs (A+2)).toNat (bt zs (A+3)).toNat)
def hit(zs:List Int)(A k:Nat):Prop:=rb (cnd zs A k)=(zs.drop A).take k
theorem bt_drop(zs:List Int)(A j:Nat)(h:A+j < zs.length):(zs.drop A)[j]?=some (bt zs (A+j)):=by
 simp[bt,h]
theorem take_bytes(zs:List Int)(A:Nat):
   (A < zs.length→(zs.drop A).take 1=[bt zs A])∧(A+1 < zs.length→(zs.drop A).take 2=[bt zs A,bt zs (A+1)]) ∧
   (A+2 < zs.length→(zs.drop A).take 3=[bt zs A,bt zs (A+1),bt zs (A+2)]) ∧
   (A+3 < zs.length→(zs.drop A).take 4=[bt zs A,bt zs (A+1),bt zs (A+2),bt zs (A+3)]):=by
 have key:∀ k:Nat,A+k≤zs.length→(zs.drop A).take k=(List.range k).map fun j=>bt zs (A+j):=by
   intro k hk
   apply List.ext_getElem?
   intro i
   by_cases h:i < k
   · rw[List.getElem?_take_of_lt h,bt_drop zs A i (by omega)]
     simp[h]
   · rw[List.getElem?_eq_none (by simp;omega),List.getElem?_eq_none (by simp;omega)]
 refine⟨fun h=>key 1 (by omega),fun h=>key 2 (by omega),fun h=>key 3 (by omega),fun h=>key 4 (by omega)⟩
theorem hit1(zs:List Int)(A:Nat)(hb:∀ i,0≤bt zs i∧bt zs i≤255)(h:A < zs.length):hit zs A 1↔bt zs A < 128:=by
 unfold hit
 rw[(take_bytes zs A).1 h,← m1 _ (hb A)]
 simp[cnd,accu,base]
theorem hit2(zs:List Int)(A:Nat)(hb:∀ i,0≤bt zs i∧bt zs i≤255)(h:A+1 < zs.length):hit zs A 2↔(bt zs A / 32=6∧bt zs (A+1) / 64=2∧128≤bt zs A % 32*64+bt zs (A+1) % 64):=by
 unfold hit
 rw[(take_bytes zs A).2.1 h]
 exact m2 _ _ _ (hb A) (hb _) (by simp[cnd,accu,base])
theorem hit3(zs:List Int)(A:Nat)(hb:∀ i,0≤bt zs i∧bt zs i≤255)(h:A+2 < zs.length):hit zs A 3↔(bt zs A / 16=14∧bt zs (A+1) / 64=2∧bt zs (A+2) / 64=2∧2048≤bt zs A % 16*4096+bt zs (A+1) % 64*64+bt zs (A+2) % 64∧(bt zs A % 16*4096+bt zs (A+1) % 64*64+bt zs (A+2) % 64 < 55296∨57344≤bt zs A % 16*4096+bt zs (A+1) % 64*64+bt zs (A+2) % 64)):=by
 unfold hit
 rw[(take_bytes zs A).2.2.1 h]
 exact m3 _ _ _ _ (hb A) (hb _) (hb _) (by simp[cnd,accu,base])
theorem hit4(zs:List Int)(A:Nat)(hb:∀ i,0≤bt zs i∧bt zs i≤255)(h:A+3 < zs.length):hit zs A 4↔(bt zs A / 8=30∧bt zs (A+1) / 64=2∧bt zs (A+2) / 64=2∧bt zs (A+3) / 64=2∧65536≤bt zs A % 8*262144+bt zs (A+1) % 64*4096+bt zs (A+2) % 64*64+bt zs (A+3) % 64∧bt zs A % 8*262144+bt zs (A+1) % 64*4096+bt zs (A+2) % 64*64+bt zs (A+3) % 64≤1114111):=by
 unfold hit
 rw[(take_bytes zs A).2.2.2 h]
 exact m4 _ _ _ _ _ (hb A) (hb _) (hb _) (hb _) (by simp[cnd,accu,base])
theorem rrd_hit(zs:List Int)(A k:Nat)(hb:∀ i,0≤bt zs i∧bt zs i≤255)(hk1:1≤k)(hk4:k≤4)(hkl:A+k≤zs.length)(h:hit zs A k):rrd zs A=(cnd zs A k,(k:Int)):=by
 obtain⟨n0,e0⟩:=Int.eq_ofNat_of_zero_le (hb A).1
 obtain⟨n1,e1⟩:=Int.eq_ofNat_of_zero_le (hb (A+1)).1
 obtain⟨n2,e2⟩:=Int.eq_ofNat_of_zero_le (hb (A+2)).1
 obtain⟨n3,e3⟩:=Int.eq_ofNat_of_zero_le (hb (A+3)).1
 have l0:=(hb A).2;have l1:=(hb (A+1)).2;have l2:=(hb (A+2)).2;have l3:=(hb (A+3)).2
 have:k=1∨k=2∨k=3∨k=4:=by omega
 rcases this with rfl | rfl | rfl | rfl
 · rw[hit1 zs A hb (by omega)] at h
   simp only[e0,e1,e2,e3] at h l0 l1 l2 l3
   have hd:Lib.decodeN (zs.length - A) n0 n1 n2 n3=(n0,1):=by
     unfold Lib.decodeN
     rw[if_pos (by omega)]
   have hg:¬ ((n0)=65533∧1 < 2):=by omega
   simp only[rrd,e0,e1,e2,e3,Int.toNat_natCast,hd,goAns,if_neg hg,cnd]
   simp[e0,e1,e2,e3,accu,base]
   try omega
 · rw[hit2 zs A hb (by omega)] at h
   simp only[e0,e1,e2,e3] at h l0 l1 l2 l3
   have hd:Lib.decodeN (zs.length - A) n0 n1 n2 n3=(n0 % 32*64+n1 % 64,2):=by
     unfold Lib.decodeN
     rw[if_neg (by omega),if_pos (by omega),if_pos (by omega)]
   have hg:¬ ((n0 % 32*64+n1 % 64)=65533∧2 < 2):=by omega
   simp only[rrd,e0,e1,e2,e3,Int.toNat_natCast,hd,goAns,if_neg hg,cnd]
   simp[e0,e1,e2,e3,accu,base]
   try omega
 · rw[hit3 zs A hb (by omega)] at h
   simp only[e0,e1,e2,e3] at h l0 l1 l2 l3
   have hd:Lib.decodeN (zs.length - A) n0 n1 n2 n3=(n0 % 16*4096+n1 % 64*64+n2 % 64,3):=by
     unfold Lib.decodeN
     rw[if_neg (by omega),if_neg (by omega),if_pos (by omega),if_pos (by omega)]
   have hg:¬ ((n0 % 16*4096+n1 % 64*64+n2 % 64)=65533∧3 < 2):=by omega
   simp only[rrd,e0,e1,e2,e3,Int.toNat_natCast,hd,goAns,if_neg hg,cnd]
   simp[e0,e1,e2,e3,accu,base]
   try omega
 · rw[hit4 zs A hb (by omega)] at h
   simp only[e0,e1,e2,e3] at h l0 l1 l2 l3
   have hd:Lib.decodeN (zs.length - A) n0 n1 n2 n3=(n0 % 8*262144+n1 % 64*4096+n2 % 64*64+n3 % 64,4):=by
     unfold Lib.decodeN
     rw[if_neg (by omega),if_neg (by omega),if_neg (by omega),if_pos (by omega),if_pos (by omega)]
   have hg:¬ ((n0 % 8*262144+n1 % 64*4096+n2 % 64*64+n3 % 64)=65533∧4 < 2):=by omega
   simp only[rrd,e0,e1,e2,e3,Int.toNat_natCast,hd,goAns,if_neg hg,cnd]
   simp[e0,e1,e2,e3,accu,base]
   try omega
theorem rrd_none(zs:List Int)(A:Nat)(hb:∀ i,0≤bt zs i∧bt zs i≤255)(hA:A < zs.length)(h:∀ k,1≤k→k≤4→A+k≤zs.length→¬ hit zs A k):rrd zs A=(0,0):=by
 have h1:=h 1 (by omega) (by omega) (by omega)
 rw[hit1 zs A hb hA] at h1
 have h2:=h 2 (by omega) (by omega)
 have h3:=h 3 (by omega) (by omega)
 have h4:=h 4 (by omega) (by omega)
 obtain⟨n0,e0⟩:=Int.eq_ofNat_of_zero_le (hb A).1
 obtain⟨n1,e1⟩:=Int.eq_ofNat_of_zero_le (hb (A+1)).1
 obtain⟨n2,e2⟩:=Int.eq_ofNat_of_zero_le (hb (A+2)).1
 obtain⟨n3,e3⟩:=Int.eq_ofNat_of_zero_le (hb (A+3)).1
 have g2:=fun q:A+1 < zs.length=>fun x=>h2 (by omega) ((hit2 zs A hb q).2 x)
 have g3:=fun q:A+2 < zs.length=>fun x=>h3 (by omega) ((hit3 zs A hb q).2 x)
 have g4:=fun q:A+3 < zs.length=>fun x=>h4 (by omega) ((hit4 zs A hb q).2 x)
 clear h h2 h3 h4
 have l0:=(hb A).2;have l1:=(hb (A+1)).2;have l2:=(hb (A+2)).2;have l3:=(hb (A+3)).2
 rw[e0] at h1 l0;rw[e1] at l1;rw[e2] at l2;rw[e3] at l3
 rw[e0,e1] at g2;rw[e0,e1,e2] at g3;rw[e0,e1,e2,e3] at g4
 have hd:Lib.decodeN (zs.length - A) n0 n1 n2 n3=(65533,1):=by
   unfold Lib.decodeN
   rw[if_neg (by omega)]
   by_cases c2:n0 / 32=6∧1 < zs.length - A∧n1 / 64=2
   · have:¬ _:=g2 (by omega)
     rw[if_pos c2,if_neg (by omega)]
   · rw[if_neg c2]
     by_cases c3:n0 / 16=14∧(1 < zs.length - A∧n1 / 64=2)∧2 < zs.length - A∧n2 / 64=2
     · have:¬ _:=g3 (by omega)
       rw[if_pos c3,if_neg (by omega)]
     · rw[if_neg c3]
       by_cases c4:n0 / 8=30∧(1 < zs.length - A∧n1 / 64=2)∧(2 < zs.length - A∧n2 / 64=2)∧3 < zs.length - A∧n3 / 64=2
       · have:¬ _:=g4 (by omega)
         rw[if_pos c4,if_neg (by omega)]
       · rw[if_neg c4]
 simp[rrd,e0,e1,e2,e3,hd,goAns]
end Go.Proofs.YthodinpflcbklaaDoor
namespace Go.Proofs.YthodinpflcbklaaDoor
open Go.RowKit
theorem own_conv{w:World}{base g n cap:Nat}{zs:List Int}(hl:zs.length=n)(h:w.ownsRow base 5 1 (Sz (some ⟨g,0,none⟩) n cap) n (zs.map (Value.int .u8))):
   (convert 25 9 (Sz (some ⟨g,0,none⟩) n cap)).run Tryd.prog w=.ok (.string (strOfNums zs)) w:=by
 refine run_convert_bytes_arg (P:=Tryd.prog) w 25 5 Tryd.underlying25 Tryd.underlying5 g 0 n cap zs hl ?_ 9 Tryd.underlying9
 intro i hi
 rw[Nat.zero_add,h.cellAt i (by omega)]
 have:i < zs.length:=by omega
 simp[this]
end Go.Proofs.YthodinpflcbklaaDoor
namespace Go.Proofs.YthodinpflcbklaaDoor
open Go.RowKit
theorem strOfNums_inj{xs ys:List Int}(hx:∀ x ∈ xs,0≤x∧x < 256)(hy:∀ x ∈ ys,0≤x∧x < 256)(h:strOfNums xs=strOfNums ys):xs=ys:=by
 have h1:xs.map (fun n=>UInt8.ofNat n.toNat)=ys.map (fun n=>UInt8.ofNat n.toNat):=by
   have:=congrArg (fun s:ByteArray=>s.data.toList) h
   simpa [strOfNums_data] using this
 have back:∀ l:List Int,(∀ x ∈ l,0≤x∧x < 256)→(l.map (fun n=>UInt8.ofNat n.toNat)).map (fun u=>(u.toNat:Int))=l:=by
   intro l hl
   rw[List.map_map]
   conv=>rhs;rw[← List.map_id l]
   apply List.map_congr_left
   intro x hx
   have:=hl x hx
   simp[Function.comp]
   omega
 rw[← back xs hx,← back ys hy,h1]
theorem neq_str{a b:ByteArray}(h:¬ a=b):(a.toList==b.toList)=false:=by
 rw[beq_eq_false_iff_ne]
 intro e
 apply h
 rw[ByteArray.toList_eq,ByteArray.toList_eq] at e
 exact ByteArray.ext (Array.toList_inj.1 e)
theorem sub_conv{w:World}{b off A k c:Nat}{zs:List Int}(hk:A+k≤zs.length)(hc:∀ i,i < zs.length→w.cell? ⟨b,off+i,none⟩=some (I .u8 (zs[i]?.getD 0))):
   (convert 25 9 (Sz (some ⟨b,off+A,none⟩) k c)).run Tryd.prog w=.ok (.string (strOfNums ((zs.drop A).take k))) w:=by
 refine run_convert_bytes_arg (P:=Tryd.prog) w 25 5 Tryd.underlying25 Tryd.underlying5 b (off+A) k c ((zs.drop A).take k) (by simp;omega) ?_ 9 Tryd.underlying9
 intro i hi
 have e:off+A+i=off+(A+i):=by omega
 rw[e,hc (A+i) (by omega)]
 have h1:A+i < zs.length:=by omega
 simp[hi,h1]
theorem base_lit(w:World)(k:Nat)(hk:k < 5):(w.alloc (.cells #[I O 0,I O 0,I O 192,I O 224,I O 240] 3)).cell? ⟨w.heap.size,k,none⟩=some (I O (base k)):=by
 have own:=World.ownsRow_lit (base:=w.heap.size) (e:=3) (size:=1) w #[I O 0,I O 0,I O 192,I O 224,I O 240] 5 (Nat.le_refl _) (by decide) rfl
 have hc:=own.cellAt k (by omega)
 rw[hc]
 have:k=0∨k=1∨k=2∨k=3∨k=4:=by omega
 rcases this with rfl | rfl | rfl | rfl | rfl <;> simp[base]
theorem specRb_len(c:Int)(k:Nat)(w:World)(hk:(rb c).length=k)(h0:0 < k):
   Calls Tryd.prog 86 #[I O c] w fun e w'=>∃ g c2,e=.returned (Sz (some ⟨g,0,none⟩) k c2)∧w'.ownsRow w.heap.size 5 1 (Sz (some ⟨g,0,none⟩) k c2) k ((rb c).map (Value.int .u8))∧Below w.heap.size w w':=by
 subst hk
 refine(specRb_any c w).mono ?_
 rintro e w1 ⟨v,rfl,ho,hb⟩
 obtain⟨g,c2,rfl,_⟩:=own_form ho h0
 exact⟨g,c2,rfl,ho,hb⟩
theorem specRb_ne(c:Int)(w:World):
   Calls Tryd.prog 86 #[I O c] w fun e w'=>∃ a c2,e=.returned (Sz a (rb c).length c2)∧Below w.heap.size w w':=by
 refine(specRb_any c w).mono ?_
 rintro e w1 ⟨v,rfl,ho,hb⟩
 rcases ho.2 with ⟨rfl,h0⟩ | ⟨g,cap,cur,rfl,_⟩
 · exact⟨none,0,by rw[h0],hb⟩
 · exact⟨_,_,rfl,hb⟩
set_option maxRecDepth 100000 in
theorem specRrd_in (b off n cap A:Nat) (zs:List Int) (w:World) (hl:Hid (zs.length=n)) (hb:Hid (∀ i,0≤bt zs i∧bt zs i≤255)) (hlt:b < w.heap.size)
   (hc:Hid (∀ i,i < zs.length→w.cell? ⟨b,off+i,none⟩=some (I .u8 (zs[i]?.getD 0)))) (hn:n≤2097152) (hcap:n≤cap) (hcm:cap≤maxLen) (hA:A < n) :
   Calls Tryd.prog 70 #[Sz (some ⟨b,off,none⟩) n cap,I O A] w fun e w'=>e=.returned (.tuple #[I O (rrd zs A).1,I O (rrd zs A).2])∧Below w.heap.size w w':=by
 unfold maxLen at hcm
 have a0:(0:Int)≤(A:Int):=by omega
 have a1:(A:Int) < (n:Int):=by omega
 have d1:decide (n≤A)=false:=by simp;omega
 have d2:decide ((A:Int) < 0)=false:=by simp
 have d3:decide ((n:Int)≤(A:Int))=false:=by simp;omega
 go_enter Tryd.func70,Tryd.ntmps70
 go_wp2
 go_loopw [6] (fun s wr=>∃ k:Nat,1≤k∧k≤5∧A+k≤n+1∧s=I O k∧Hid (∀ j,1≤j→j < k→¬ hit zs A j)∧Below w.heap.size w wr) (fun s _=>5 - (intOf s).toNat)
 case atStart=>exact⟨1,by omega,by omega,by omega,rfl,fun j h1 h2=>by omega,Below.refl _ _⟩
 case round =>
   obtain⟨k,hk1,hk5,hkn,rfl,hno,hbel⟩:=hrel
   by_cases hin:k≤4∧A+k≤n
   · obtain⟨x,hx⟩:∃ x,x=bt zs A:=⟨_,rfl⟩
     have HX:Hid (x=_):=hx
     have hxb:0≤x∧x≤255:=by rw[hx];exact hb.out A
     have hx0:wr.cell? ⟨b,off+A,none⟩=some (I .u8 x):=by rw[hx];exact(hbel.cell (p:=⟨b,off+A,none⟩) hlt).trans (hc.out A (by have:=hl.out;omega))
     clear hx
     have h4':(k:Int)≤4:=by omega
     have h6:(k:Int)≤(n:Int) - (A:Int):=by omega
     by_cases hk:k=1
     · subst hk
       go_wp2
       go_loop [7,8] (fun r i=>∃ j:Nat,1≤j∧j≤1∧i=I O j∧r=I O (accu zs A 1 (j - 1))) (fun _ i=>5 - (intOf i).toNat)
       case atStart=>exact⟨1,by omega,by omega,rfl,by rw[HX.out];simp[accu,base]⟩
       case round =>
         obtain⟨j,hj0,hj,rfl,rfl⟩:=hrel
         obtain⟨r,hrr⟩:∃ r,r=accu zs A 1 (j - 1):=⟨_,rfl⟩
         have HR:Hid (r=_):=hrr
         have hrb:-300000000≤r∧r≤300000000:=by rw[hrr];exact accu_bd zs A _ _ hb.out (by omega)
         rw[← hrr]
         clear hrr
         by_cases hjk:j < 1
         · exfalso;omega
         · have ej:j=1:=by omega
           subst ej
           have HCD:Hid (r=cnd zs A 1):=HR.out
           clear HR
           by_cases hlen:(rb r).length=1
           · have hcall:Hid (∀ w',Calls Tryd.prog 86 #[I O r] w' fun e w1=>∃ g c2,e=.returned (Sz (some ⟨g,0,none⟩) 1 c2)∧w1.ownsRow w'.heap.size 5 1 (Sz (some ⟨g,0,none⟩) 1 c2) 1 ((rb r).map (Value.int .u8))∧Below w'.heap.size w' w1):=fun w'=>specRb_len r _ w' hlen (by omega)
             have HLN:Hid ((rb r).length=_):=hlen
             clear hlen
             go_wp2_with fail
             refine(hcall.out _).mono ?_
             rintro e w2 ⟨g,c2,rfl,ho,hb2⟩
             have hbel2:=hbel.trans (hb2.mono hbel.size)
             obtain⟨S1,hS1⟩:∃ S1,S1=strOfNums (rb r):=⟨_,rfl⟩
             obtain⟨S2,hS2⟩:∃ S2,S2=strOfNums ((zs.drop A).take 1):=⟨_,rfl⟩
             have q1:∀ q,(convert 25 9 (Sz (some ⟨g,0,none⟩) 1 c2)).run Tryd.prog (w2.drewN q)=.ok (.string S1) (w2.drewN q):=by
               intro q
               rw[hS1]
               exact own_conv (w:=w2.drewN q) HLN.out ho
             have q2:∀ q,(convert 25 9 (Sz (some ⟨b,off+A,none⟩) 1 (cap - A))).run Tryd.prog (w2.drewN q)=.ok (.string S2) (w2.drewN q):=by
               intro q
               rw[hS2]
               exact sub_conv (w:=w2.drewN q) (by have:=hl.out;omega) (fun i hi=>(hbel2.cell (p:=⟨b,off+i,none⟩) hlt).trans (hc.out i hi))
             have p1:=q1 0
             have p2:=q2 0
             have HS:Hid (S1=_∧S2=_):=⟨hS1,hS2⟩
             clear hS1 hS2 ho
             have g1:((1:Int)==(1:Int))=true:=by simp
             have i2:(A:Int)+(1:Int)≤(cap:Int):=by omega
             by_cases heq:S1=S2
             · have E:rrd zs A=(r,(1:Int)):=by
                 rw[HCD.out]
                 refine rrd_hit zs A _ hb.out (by omega) (by omega) (by have:=hl.out;omega) ?_
                 unfold hit
                 rw[← HCD.out]
                 refine strOfNums_inj (rb_byte r) ?_ (by rw[← HS.out.1,← HS.out.2];exact heq)
                 intro x hx
                 obtain⟨i,hi,rfl⟩:=List.mem_iff_getElem.1 (List.mem_of_mem_drop (List.mem_of_mem_take hx))
                 have:=hb.out i
                 simp[bt,hi] at this
                 omega
               subst heq
               have g2:(S1.toList==S1.toList)=true:=by simp
               go_wp2
               go_quiet (fail)
               go_wp2
               go_ret2
               exact⟨by first | rfl | (rw[E];done) | (rw[E];rfl),below_drewN hbel2 _⟩
             · have g2:(S1.toList==S2.toList)=false:=neq_str heq
               have HN:Hid (¬ hit zs A 1):=by
                 intro h
                 apply heq
                 rw[HS.out.1,HS.out.2,HCD.out]
                 exact congrArg strOfNums h
               go_wp2
               go_quiet (fail)
               go_wp2
               go_roundw
               case rel =>
                 refine⟨1+1,by omega,by omega,by omega,by go_num,?_,below_drewN hbel2 _⟩
                 intro i h1 h2
                 by_cases h3:i=1
                 · rw[h3];exact HN.out
                 · exact hno.out i h1 (by omega)
               case measure=>first | (simp[intOf];done) | (simp[intOf];omega)
           · have hcall:Hid (∀ w',Calls Tryd.prog 86 #[I O r] w' fun e w1=>∃ a c2,e=.returned (Sz a (rb r).length c2)∧Below w'.heap.size w' w1):=fun w'=>specRb_ne r w'
             have HN:Hid (¬ hit zs A 1):=by
               intro h
               apply hlen
               unfold hit at h
               rw[HCD.out,h]
               have:=hl.out
               simp;omega
             obtain⟨m,hm⟩:∃ m,m=(rb r).length:=⟨_,rfl⟩
             rw[← hm] at hlen hcall
             clear hm
             have g1:((m:Int)==(1:Int))=false:=by simp;omega
             go_wp2_with fail
             refine(hcall.out _).mono ?_
             rintro e w2 ⟨a2,c2,rfl,hb2⟩
             have hbel2:=hbel.trans (hb2.mono hbel.size)
             go_wp2
             go_quiet (fail)
             go_wp2
             go_roundw
             case rel =>
               refine⟨1+1,by omega,by omega,by omega,by go_num,?_,below_drewN hbel2 _⟩
               intro i h1 h2
               by_cases h3:i=1
               · rw[h3];exact HN.out
               · exact hno.out i h1 (by omega)
             case measure=>first | (simp[intOf];done) | (simp[intOf];omega)
     · have hk2:¬ ((k:Int)≤1):=by omega
       have hcb:=base_lit wr k (by omega)
       obtain⟨bs,hbs⟩:∃ bs,bs=base k:=⟨_,rfl⟩
       have HB:Hid (bs=_):=hbs
       have hbsb:0≤bs∧bs≤240:=by rw[hbs];unfold base;repeat' split
                                 all_goals omega
       rw[← hbs] at hcb
       clear hbs
       have hbelA:=hbel.alloc hbel.size (.cells #[I O 0,I O 0,I O 192,I O 224,I O 240] 3)
       go_wp2
       go_loop [7,8] (fun r i=>∃ j:Nat,1≤j∧j≤k∧i=I O j∧r=I O (accu zs A k (j - 1))) (fun _ i=>5 - (intOf i).toNat)
       case atStart=>exact⟨1,by omega,by omega,rfl,by rw[HX.out,HB.out];rfl⟩
       case round =>
         obtain⟨j,hj0,hj,rfl,rfl⟩:=hrel
         obtain⟨r,hrr⟩:∃ r,r=accu zs A k (j - 1):=⟨_,rfl⟩
         have HR:Hid (r=_):=hrr
         have hrb:-300000000≤r∧r≤300000000:=by rw[hrr];exact accu_bd zs A _ _ hb.out (by omega)
         rw[← hrr]
         clear hrr
         by_cases hjk:j < k
         · obtain⟨y,hy⟩:∃ y,y=bt zs (A+j):=⟨_,rfl⟩
           have HY:Hid (y=_):=hy
           have hyb:0≤y∧y≤255:=by rw[hy];exact hb.out _
           have hcy:(wr.alloc (.cells #[I O 0,I O 0,I O 192,I O 224,I O 240] 3)).cell? ⟨b,off+(A+j),none⟩=some (I .u8 y):=by rw[hy];exact(hbelA.cell (p:=⟨b,off+(A+j),none⟩) hlt).trans (hc.out (A+j) (by have:=hl.out;omega))
           clear hy
           have i1:(A:Int)+(j:Int) < (n:Int):=by omega
           go_wp2
           go_round
           case rel =>
             refine⟨j+1,by omega,by omega,by go_num,?_⟩
             have e1:j+1 - 1=(j - 1)+1:=by omega
             have e2:j - 1+1=j:=by omega
             rw[e1,accu,e2,← HR.out,← HY.out]
           case measure=>first | (simp[intOf];done) | (simp[intOf];omega)
         · have ej:j=k:=by omega
           subst ej
           have HCD:Hid (r=cnd zs A _):=HR.out
           clear HR
           by_cases hlen:(rb r).length=j
           · have hcall:Hid (∀ w',Calls Tryd.prog 86 #[I O r] w' fun e w1=>∃ g c2,e=.returned (Sz (some ⟨g,0,none⟩) j c2)∧w1.ownsRow w'.heap.size 5 1 (Sz (some ⟨g,0,none⟩) j c2) j ((rb r).map (Value.int .u8))∧Below w'.heap.size w' w1):=fun w'=>specRb_len r _ w' hlen (by omega)
             have HLN:Hid ((rb r).length=_):=hlen
             clear hlen
             go_wp2_with fail
             refine(hcall.out _).mono ?_
             rintro e w2 ⟨g,c2,rfl,ho,hb2⟩
             have hbel2:=hbelA.trans (hb2.mono hbelA.size)
             obtain⟨S1,hS1⟩:∃ S1,S1=strOfNums (rb r):=⟨_,rfl⟩
             obtain⟨S2,hS2⟩:∃ S2,S2=strOfNums ((zs.drop A).take j):=⟨_,rfl⟩
             have q1:∀ q,(convert 25 9 (Sz (some ⟨g,0,none⟩) j c2)).run Tryd.prog (w2.drewN q)=.ok (.string S1) (w2.drewN q):=by
               intro q
               rw[hS1]
               exact own_conv (w:=w2.drewN q) HLN.out ho
             have q2:∀ q,(convert 25 9 (Sz (some ⟨b,off+A,none⟩) j (cap - A))).run Tryd.prog (w2.drewN q)=.ok (.string S2) (w2.drewN q):=by
               intro q
               rw[hS2]
               exact sub_conv (w:=w2.drewN q) (by have:=hl.out;omega) (fun i hi=>(hbel2.cell (p:=⟨b,off+i,none⟩) hlt).trans (hc.out i hi))
             have p1:=q1 0
             have p2:=q2 0
             have HS:Hid (S1=_∧S2=_):=⟨hS1,hS2⟩
             clear hS1 hS2 ho
             have g1:((j:Int)==(j:Int))=true:=by simp
             have i2:(A:Int)+(j:Int)≤(cap:Int):=by omega
             by_cases heq:S1=S2
             · have E:rrd zs A=(r,(j:Int)):=by
                 rw[HCD.out]
                 refine rrd_hit zs A _ hb.out (by omega) (by omega) (by have:=hl.out;omega) ?_
                 unfold hit
                 rw[← HCD.out]
                 refine strOfNums_inj (rb_byte r) ?_ (by rw[← HS.out.1,← HS.out.2];exact heq)
                 intro x hx
                 obtain⟨i,hi,rfl⟩:=List.mem_iff_getElem.1 (List.mem_of_mem_drop (List.mem_of_mem_take hx))
                 have:=hb.out i
                 simp[bt,hi] at this
                 omega
               subst heq
               have g2:(S1.toList==S1.toList)=true:=by simp
               go_wp2
               go_quiet (fail)
               go_wp2
               go_ret2
               exact⟨by first | rfl | (rw[E];done) | (rw[E];rfl),below_drewN hbel2 _⟩
             · have g2:(S1.toList==S2.toList)=false:=neq_str heq
               have HN:Hid (¬ hit zs A j):=by
                 intro h
                 apply heq
                 rw[HS.out.1,HS.out.2,HCD.out]
                 exact congrArg strOfNums h
               go_wp2
               go_quiet (fail)
               go_wp2
               go_roundw
               case rel =>
                 refine⟨j+1,by omega,by omega,by omega,by go_num,?_,below_drewN hbel2 _⟩
                 intro i h1 h2
                 by_cases h3:i=j
                 · rw[h3];exact HN.out
                 · exact hno.out i h1 (by omega)
               case measure=>first | (simp[intOf];done) | (simp[intOf];omega)
           · have hcall:Hid (∀ w',Calls Tryd.prog 86 #[I O r] w' fun e w1=>∃ a c2,e=.returned (Sz a (rb r).length c2)∧Below w'.heap.size w' w1):=fun w'=>specRb_ne r w'
             have HN:Hid (¬ hit zs A j):=by
               intro h
               apply hlen
               unfold hit at h
               rw[HCD.out,h]
               have:=hl.out
               simp;omega
             obtain⟨m,hm⟩:∃ m,m=(rb r).length:=⟨_,rfl⟩
             rw[← hm] at hlen hcall
             clear hm
             have g1:((m:Int)==(j:Int))=false:=by simp;omega
             go_wp2_with fail
             refine(hcall.out _).mono ?_
             rintro e w2 ⟨a2,c2,rfl,hb2⟩
             have hbel2:=hbelA.trans (hb2.mono hbelA.size)
             go_wp2
             go_quiet (fail)
             go_wp2
             go_roundw
             case rel =>
               refine⟨j+1,by omega,by omega,by omega,by go_num,?_,below_drewN hbel2 _⟩
               intro i h1 h2
               by_cases h3:i=j
               · rw[h3];exact HN.out
               · exact hno.out i h1 (by omega)
             case measure=>first | (simp[intOf];done) | (simp[intOf];omega)
   · have E:rrd zs A=(0,0):=by
       refine rrd_none zs A hb.out (by have:=hl.out;omega) ?_
       intro j h1 h4 h5
       exact hno.out j h1 (by have:=hl.out;omega)
     by_cases h4:k≤4
     · have h6:¬ ((k:Int)≤(n:Int) - (A:Int)):=by omega
       have h4':(k:Int)≤4:=by omega
       go_wp2
       go_ret2
       exact⟨by first | rfl | rw[E],hbel⟩
     · have h4':¬ (k:Int)≤4:=by omega
       go_wp2
       go_ret2
       exact⟨by first | rfl | rw[E],hbel⟩
theorem specRrd_out(a:Option Addr)(n cap:Nat)(at':Int)(w:World)(h:at' < 0∨(n:Int)≤at'):
   Calls Tryd.prog 70 #[Sz a n cap,I O at'] w fun e w'=>e=.returned (.tuple #[I O 0,I O 0])∧w'=w:=by
 by_cases h0:at' < 0
 · go_enter Tryd.func70,Tryd.ntmps70
   go_wp2
   go_ret2
   exact⟨rfl,rfl⟩
 · have h1:(n:Int)≤at':=by omega
   go_enter Tryd.func70,Tryd.ntmps70
   go_wp2
   go_ret2
   exact⟨rfl,rfl⟩
def rra(zs:List Int)(at':Int):Int × Int:=if at' < 0∨(zs.length:Int)≤at' then (0,0) else rrd zs at'.toNat
theorem specRrd_any(a:Option Addr)(n cap:Nat)(zs:List Int)(at':Int)(w:World)(hl:zs.length=n)(hr:Rd w a zs)(hn:n≤2097152)(hcap:n≤cap)(hcm:cap≤maxLen):
   Calls Tryd.prog 70 #[Sz a n cap,I O at'] w fun e w'=>e=.returned (.tuple #[I O (rra zs at').1,I O (rra zs at').2])∧Below w.heap.size w w':=by
 by_cases h:at' < 0∨(n:Int)≤at'
 · have e:rra zs at'=(0,0):=by unfold rra;rw[hl,if_pos h]
   rw[e]
   refine(specRrd_out a n cap at' w h).mono ?_
   rintro e w' ⟨rfl,rfl⟩
   exact⟨rfl,Below.refl _ _⟩
 · have e:rra zs at'=rrd zs at'.toNat:=by unfold rra;rw[hl,if_neg h]
   rw[e]
   obtain⟨A,rfl⟩:=Int.eq_ofNat_of_zero_le (show 0≤at' by omega)
   have hne:zs≠[]:=by intro h';subst h';simp at hl;omega
   obtain⟨b,off,rfl,hb,hc⟩:=hr.2.resolve_left hne
   exact specRrd_in b off n cap A zs w hl hr.1 hb hc hn hcap hcm (by omega)
end Go.Proofs.YthodinpflcbklaaDoor
