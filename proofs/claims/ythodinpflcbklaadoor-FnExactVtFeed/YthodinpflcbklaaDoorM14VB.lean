/-
  Parts of the road to VB, joined: TmG.
-/
import Derived.Test.YthodinpflcbklaaDoorM8VB
import Derived.Test.YthodinpflcbklaaDoorM13VB
open Go.Value renaming int → I,slice → Sz
open Go.IntKind renaming i64 → O
open List renaming setIfInBounds_toArray → lA,getElem_toArray → lB,getElem_cons_succ → lC,getElem_cons_zero → lD,set_cons_zero → lE,set_cons_succ → lF
set_option linter.unusedVariables false
set_option linter.unusedSimpArgs false
set_option maxHeartbeats 40000000
namespace Go.Proofs.YthodinpflcbklaaDoor
open Go.RowKit
set_option maxRecDepth 100000
def ringN(be:Int):Int:=if be+1≤1000000 then be+1 else 1000000
theorem plain_bell(B t p g n:Nat)(W H X Y:Int)(wr:Bool)(zs:List Int)(st:Int)(av:Value)(al:List Int)(pv:Value)(pl:List Int)(be:Int)(fv:Value)(w:World)(h:TermAt w B t p g n W H X Y wr zs st av al pv pl be fv)(hbe:0≤be∧be≤1000000):
   Calls Tryd.prog 76 #[.pointer (some ⟨t,0,none⟩),I .u8 7] w fun e w'=>e=.returned (.tuple #[])∧TermAt w' B t p g n W H X Y wr zs st av al (Sz none 0 0) [] (ringN be) fv∧Kp B w w':=by
 have y3:w.cell? ⟨t,3,none⟩=some pv:=bxc h.box rfl
 have f3:w.frozen? ⟨t,3,none⟩=false:=box_frozen h.box
 have y4:w.cell? ⟨t,4,none⟩=some (I O be):=bxc h.box rfl
 have f4:w.frozen? ⟨t,4,none⟩=false:=box_frozen h.box
 have h1:=h.no_part
 have z4:(w.setCell ⟨t,3,none⟩ (Sz none 0 0)).cell? ⟨t,4,none⟩=some (I O be):=bxc h1.box rfl
 have zf:(w.setCell ⟨t,3,none⟩ (Sz none 0 0)).frozen? ⟨t,4,none⟩=false:=box_frozen h1.box
 have HH:Hid (∀ v,TermAt ((w.setCell ⟨t,3,none⟩ (Sz none 0 0)).setCell ⟨t,4,none⟩ (I O v)) B t p g n W H X Y wr zs st av al (Sz none 0 0) [] v fv∧Kp B w ((w.setCell ⟨t,3,none⟩ (Sz none 0 0)).setCell ⟨t,4,none⟩ (I O v))):=fun v=>⟨h1.set_be v,(kp_set B w 3 _ h.lo).trans (kp_set B _ 4 _ h.lo)⟩
 have wb:IntKind.i64.wrap (be+1)=be+1:=wrap_i64_in _ (by omega) (by omega)
 clear h h1
 unfold ringN
 by_cases hm:be+1≤1000000
 · rw[if_pos hm]
   go_enter Tryd.func76,Tryd.ntmps76
   go_wp2
   (try simp only[Exit.inBlock,Exit.then])
   refine bodyPost_end (v:=.tuple #[]) (by simp[results,Tryd.results76,go_sem]) rfl ⟨rfl,HH.out _⟩
 · rw[if_neg hm]
   go_enter Tryd.func76,Tryd.ntmps76
   go_wp2
   (try simp only[Exit.inBlock,Exit.then])
   refine bodyPost_end (v:=.tuple #[]) (by simp[results,Tryd.results76,go_sem]) rfl ⟨rfl,HH.out _⟩
theorem plain_esc(B t p g n:Nat)(W H X Y:Int)(wr:Bool)(zs:List Int)(st:Int)(av:Value)(al:List Int)(pv:Value)(pl:List Int)(be:Int)(fv:Value)(w:World)(h:TermAt w B t p g n W H X Y wr zs st av al pv pl be fv):
   Calls Tryd.prog 76 #[.pointer (some ⟨t,0,none⟩),I .u8 27] w fun e w'=>e=.returned (.tuple #[])∧TermAt w' B t p g n W H X Y wr zs 1 av al (Sz none 0 0) [] be (fvOf t 1)∧Kp B w w':=by
 have y3:w.cell? ⟨t,3,none⟩=some pv:=bxc h.box rfl
 have f3:w.frozen? ⟨t,3,none⟩=false:=box_frozen h.box
 have H1:Hid (TermAt (w.setCell ⟨t,3,none⟩ (Sz none 0 0)) B t p g n W H X Y wr zs st av al (Sz none 0 0) [] be fv∧Kp B w (w.setCell ⟨t,3,none⟩ (Sz none 0 0))):=⟨h.no_part,kp_set B w 3 _ h.lo⟩
 clear h
 go_enter Tryd.func76,Tryd.ntmps76
 go_wp2_with fail
 refine(enter_any B t p g n W H X Y wr zs st av al (Sz none 0 0) [] be fv 1 _ H1.out.1).mono ?_
 rintro e w2 ⟨rfl,h2,k2⟩
 have HH:Hid (_∧_):=⟨h2,H1.out.2.trans k2⟩
 clear h2 k2
 go_wp2
 (try simp only[Exit.inBlock,Exit.then])
 refine bodyPost_end (v:=.tuple #[]) (by simp[results,Tryd.results76,go_sem]) rfl ⟨rfl,HH.out⟩
theorem plain_put(B t p g n:Nat)(W H X Y:Int)(wr:Bool)(zs:List Int)(st:Int)(av:Value)(al:List Int)(pv:Value)(pl:List Int)(be:Int)(fv:Value)(b:Int)(w:World)(h:TermAt w B t p g n W H X Y wr (up (-32) zs) st av al pv pl be fv)(hl:zs.length=n)(hg:gokB (W,H,zs,X,Y,wr,())=true)(hb:0≤b∧b < 128∧b≠7∧b≠8∧b≠10∧b≠13∧b≠27):
   Calls Tryd.prog 76 #[.pointer (some ⟨t,0,none⟩),I .u8 b] w fun e w'=>e=.returned (.tuple #[])∧TermAt w' B t p g n W H (putN (W,H,zs,X,Y,wr,()) b).2.2.2.1 (putN (W,H,zs,X,Y,wr,()) b).2.2.2.2.1 (putN (W,H,zs,X,Y,wr,()) b).2.2.2.2.2.1 (up (-32) (putN (W,H,zs,X,Y,wr,()) b).2.2.1) st av al (Sz none 0 0) [] be fv∧Kp B w w':=by
 obtain⟨X',hX⟩:∃ x,x=(putN (W,H,zs,X,Y,wr,()) b).2.2.2.1:=⟨_,rfl⟩
 obtain⟨Y',hY⟩:∃ x,x=(putN (W,H,zs,X,Y,wr,()) b).2.2.2.2.1:=⟨_,rfl⟩
 obtain⟨wr',hw⟩:∃ x,x=(putN (W,H,zs,X,Y,wr,()) b).2.2.2.2.2.1:=⟨_,rfl⟩
 obtain⟨zs',hz⟩:∃ x,x=up (-32) (putN (W,H,zs,X,Y,wr,()) b).2.2.1:=⟨_,rfl⟩
 have q:Hid (∀ w' st av al pv pl be fv,TermAt w' B t p g n W H X Y wr (up (-32) zs) st av al pv pl be fv→Calls Tryd.prog 95 #[.pointer (some ⟨p,0,none⟩),I O b] w' fun e w''=>e=.returned (.tuple #[])∧TermAt w'' B t p g n W H X' Y' wr' zs' st av al pv pl be fv∧Kp B w' w''):=fun w' st av al pv pl be fv h=>by
   rw[hX,hY,hw,hz]
   exact(sheetPut_any W H X Y n wr zs b hl hg w' B p g h.sheet).mono fun e w'' ⟨he,hs,ht⟩=>⟨he,h.sheet' ht (fun k hk=>by simpa using hk) hs⟩
 rw[← hX,← hY,← hw,← hz]
 have y3:w.cell? ⟨t,3,none⟩=some pv:=bxc h.box rfl
 have f3:w.frozen? ⟨t,3,none⟩=false:=box_frozen h.box
 have y0:w.cell? ⟨t,0,none⟩=some (.pointer (some ⟨p,0,none⟩)):=bxc h.box rfl
 have H1:Hid (TermAt (w.setCell ⟨t,3,none⟩ (Sz none 0 0)) B t p g n W H X Y wr (up (-32) zs) st av al (Sz none 0 0) [] be fv∧Kp B w (w.setCell ⟨t,3,none⟩ (Sz none 0 0))):=⟨h.no_part,kp_set B w 3 _ h.lo⟩
 have z0:(w.setCell ⟨t,3,none⟩ (Sz none 0 0)).cell? ⟨t,0,none⟩=some (.pointer (some ⟨p,0,none⟩)):=bxc H1.out.1.box rfl
 have d0:decide ((128:Int)≤b)=false:=decide_eq_false (by omega)
 have d1:(b==7)=false:=by simp;omega
 have d2:(b==8)=false:=by simp;omega
 have d3:(b==10)=false:=by simp;omega
 have d4:(b==13)=false:=by simp;omega
 have d5:(b==27)=false:=by simp;omega
 have wb:IntKind.i64.wrap b=b:=wrap_i64_in _ (by omega) (by omega)
 clear h hX hY hw hz hb hg hl
 go_enter Tryd.func76,Tryd.ntmps76
 go_wp2_with fail
 refine(q.out _ _ _ _ _ _ _ _ H1.out.1).mono ?_
 rintro e w2 ⟨rfl,h2,k2⟩
 have HH:Hid (_∧_):=⟨h2,H1.out.2.trans k2⟩
 clear h2 k2
 go_wp2
 (try simp only[Exit.inBlock,Exit.then])
 refine bodyPost_end (v:=.tuple #[]) (by simp[results,Tryd.results76,go_sem]) rfl ⟨rfl,HH.out⟩
theorem plain_back(B t p g n:Nat)(W H X Y:Int)(wr:Bool)(zs:List Int)(st:Int)(av:Value)(al:List Int)(pv:Value)(pl:List Int)(be:Int)(fv:Value)(w:World)(h:TermAt w B t p g n W H X Y wr zs st av al pv pl be fv)(hb:0≤X∧X < W∧0≤Y∧Y < H∧2≤W∧W≤200∧1≤H∧H≤200):
   Calls Tryd.prog 76 #[.pointer (some ⟨t,0,none⟩),I .u8 8] w fun e w'=>e=.returned (.tuple #[])∧TermAt w' B t p g n W H (clampG (X - 1) W) (clampG Y H) false zs st av al (Sz none 0 0) [] be fv∧Kp B w w':=by
 have qm:Hid (∀ w' x y pv pl,TermAt w' B t p g n W H X Y wr zs st av al pv pl be fv→Calls Tryd.prog 93 #[.pointer (some ⟨p,0,none⟩),I O x,I O y] w' fun e w''=>e=.returned (.tuple #[])∧TermAt w'' B t p g n W H (clampG x W) (clampG y H) false zs st av al pv pl be fv∧Kp B w' w''):=fun w' x y pv pl h =>
   (moveTo_any p g n B W H X Y x y wr zs w' h.sheet (by omega) (by omega) (by omega) (by omega)).mono fun e w'' ⟨he,hs,ht⟩=>⟨he,h.sheet' ht (fun k hk=>by left;simpa using hk) hs⟩
 have y3:w.cell? ⟨t,3,none⟩=some pv:=bxc h.box rfl
 have f3:w.frozen? ⟨t,3,none⟩=false:=box_frozen h.box
 have H1:Hid (∀ q,TermAt ((w.setCell ⟨t,3,none⟩ (Sz none 0 0)).drewN q) B t p g n W H X Y wr zs st av al (Sz none 0 0) [] be fv∧Kp B w ((w.setCell ⟨t,3,none⟩ (Sz none 0 0)).drewN q)):=fun q=>⟨h.no_part.drewN q,(kp_set B w 3 _ h.lo).trans (kp_drewN B _ q)⟩
 have z0:(w.setCell ⟨t,3,none⟩ (Sz none 0 0)).cell? ⟨t,0,none⟩=some (.pointer (some ⟨p,0,none⟩)):=bxc (H1.out 0).1.box rfl
 have y0:w.cell? ⟨t,0,none⟩=some (.pointer (some ⟨p,0,none⟩)):=bxc h.box rfl
 have s3:w.cell? ⟨p,3,none⟩=some (I O X):=bxc h.sheet.box rfl
 have s4:w.cell? ⟨p,4,none⟩=some (I O Y):=bxc h.sheet.box rfl
 have z3:(w.setCell ⟨t,3,none⟩ (Sz none 0 0)).cell? ⟨p,3,none⟩=some (I O X):=bxc (H1.out 0).1.sheet.box rfl
 have z4:(w.setCell ⟨t,3,none⟩ (Sz none 0 0)).cell? ⟨p,4,none⟩=some (I O Y):=bxc (H1.out 0).1.sheet.box rfl
 have hne:¬ t=p:=h.tp
 have w1:IntKind.i64.wrap (X - 1)=X - 1:=by simp[IntKind.wrap,IntKind.bits,IntKind.signed];omega
 clear h
 go_enter Tryd.func76,Tryd.ntmps76
 go_wp2
 go_region_with ((go_at_call 93;refine(qm.out _ _ _ _ _ (by first | exact(H1.out 0).1 | exact(H1.out 1).1 | exact(H1.out _).1)).mono ?_;rintro e w9 ⟨rfl,h9,k9⟩))
 all_goals (
   have HH:Hid (_∧_):=⟨h9,(by first | exact(H1.out 0).2.trans k9 | exact(H1.out 1).2.trans k9 | exact(H1.out _).2.trans k9:Kp B w w9)⟩
   clear h9 k9
   (try simp only[Exit.inBlock,Exit.then])
   refine bodyPost_end (v:=.tuple #[]) (by simp[results,Tryd.results76,go_sem]) rfl ⟨rfl,HH.out⟩)
theorem plain_ret(B t p g n:Nat)(W H X Y:Int)(wr:Bool)(zs:List Int)(st:Int)(av:Value)(al:List Int)(pv:Value)(pl:List Int)(be:Int)(fv:Value)(w:World)(h:TermAt w B t p g n W H X Y wr zs st av al pv pl be fv)(hb:0≤X∧X < W∧0≤Y∧Y < H∧2≤W∧W≤200∧1≤H∧H≤200):
   Calls Tryd.prog 76 #[.pointer (some ⟨t,0,none⟩),I .u8 13] w fun e w'=>e=.returned (.tuple #[])∧TermAt w' B t p g n W H (clampG (0) W) (clampG Y H) false zs st av al (Sz none 0 0) [] be fv∧Kp B w w':=by
 have qm:Hid (∀ w' x y pv pl,TermAt w' B t p g n W H X Y wr zs st av al pv pl be fv→Calls Tryd.prog 93 #[.pointer (some ⟨p,0,none⟩),I O x,I O y] w' fun e w''=>e=.returned (.tuple #[])∧TermAt w'' B t p g n W H (clampG x W) (clampG y H) false zs st av al pv pl be fv∧Kp B w' w''):=fun w' x y pv pl h =>
   (moveTo_any p g n B W H X Y x y wr zs w' h.sheet (by omega) (by omega) (by omega) (by omega)).mono fun e w'' ⟨he,hs,ht⟩=>⟨he,h.sheet' ht (fun k hk=>by left;simpa using hk) hs⟩
 have y3:w.cell? ⟨t,3,none⟩=some pv:=bxc h.box rfl
 have f3:w.frozen? ⟨t,3,none⟩=false:=box_frozen h.box
 have H1:Hid (∀ q,TermAt ((w.setCell ⟨t,3,none⟩ (Sz none 0 0)).drewN q) B t p g n W H X Y wr zs st av al (Sz none 0 0) [] be fv∧Kp B w ((w.setCell ⟨t,3,none⟩ (Sz none 0 0)).drewN q)):=fun q=>⟨h.no_part.drewN q,(kp_set B w 3 _ h.lo).trans (kp_drewN B _ q)⟩
 have z0:(w.setCell ⟨t,3,none⟩ (Sz none 0 0)).cell? ⟨t,0,none⟩=some (.pointer (some ⟨p,0,none⟩)):=bxc (H1.out 0).1.box rfl
 have y0:w.cell? ⟨t,0,none⟩=some (.pointer (some ⟨p,0,none⟩)):=bxc h.box rfl
 have s3:w.cell? ⟨p,3,none⟩=some (I O X):=bxc h.sheet.box rfl
 have s4:w.cell? ⟨p,4,none⟩=some (I O Y):=bxc h.sheet.box rfl
 have z3:(w.setCell ⟨t,3,none⟩ (Sz none 0 0)).cell? ⟨p,3,none⟩=some (I O X):=bxc (H1.out 0).1.sheet.box rfl
 have z4:(w.setCell ⟨t,3,none⟩ (Sz none 0 0)).cell? ⟨p,4,none⟩=some (I O Y):=bxc (H1.out 0).1.sheet.box rfl
 have hne:¬ t=p:=h.tp
 have w1:IntKind.i64.wrap (X - 1)=X - 1:=by simp[IntKind.wrap,IntKind.bits,IntKind.signed];omega
 clear h
 go_enter Tryd.func76,Tryd.ntmps76
 go_wp2
 go_region_with ((go_at_call 93;refine(qm.out _ _ _ _ _ (by first | exact(H1.out 0).1 | exact(H1.out 1).1 | exact(H1.out _).1)).mono ?_;rintro e w9 ⟨rfl,h9,k9⟩))
 all_goals (
   have HH:Hid (_∧_):=⟨h9,(by first | exact(H1.out 0).2.trans k9 | exact(H1.out 1).2.trans k9 | exact(H1.out _).2.trans k9:Kp B w w9)⟩
   clear h9 k9
   (try simp only[Exit.inBlock,Exit.then])
   refine bodyPost_end (v:=.tuple #[]) (by simp[results,Tryd.results76,go_sem]) rfl ⟨rfl,HH.out⟩)
end Go.Proofs.YthodinpflcbklaaDoor
