/-
  Parts of the road to VB, joined: TmEb.
-/
import Derived.Test.YthodinpflcbklaaDoorM10VB
open Go.Value renaming int → I,slice → Sz
open Go.IntKind renaming i64 → O
open List renaming setIfInBounds_toArray → lA,getElem_toArray → lB,getElem_cons_succ → lC,getElem_cons_zero → lD,set_cons_zero → lE,set_cons_succ → lF
set_option linter.unusedVariables false
set_option linter.unusedSimpArgs false
set_option maxHeartbeats 40000000
namespace Go.Proofs.YthodinpflcbklaaDoor
open Go.RowKit
set_option maxRecDepth 100000 in
theorem do_J (B t p g n:Nat) (W H X Y:Int) (wr:Bool) (zs:List Int) (st:Int) (av:Value) (al:List Int) (pv:Value) (pl:List Int) (be:Int) (fv:Value) (w:World) (h:TermAt w B t p g n W H X Y wr zs st av al pv pl be fv) (hn:n≤8000) (hn0:0 < n) (h0:at0 zs 0≠-33) (hb:0≤X∧X < W∧0≤Y∧Y < H∧2≤W∧W≤200∧1≤H∧H≤200) (hWH:W*H=n) (ha:∀ i,0≤at0 al i∧at0 al i≤9999) :
   Calls Tryd.prog 91 #[.pointer (some ⟨t,0,none⟩),I .u8 74] w fun e w'=>e=.returned (.tuple #[])∧TermAt w' B t p g n W H X Y wr (ersC (at0 al 0) (0) (Y*W+X) ((n:Int)) zs) st av al pv pl be fv∧Kp B w w':=by
 have HT:Hid (∀ q,TermAt (w.drewN q) B t p g n W H X Y wr zs st av al pv pl be fv):=fun q=>h.drewN q
 have HK:Hid (∀ q,Kp B w (w.drewN q)):=fun q=>kp_drewN B w q
 have hc0:=cntN_bd ha 0
 have hc1:=cntN_bd ha 1
 have qc:Hid (∀ i w',i≤1000→TermAt w' B t p g n W H X Y wr zs st av al pv pl be fv→Calls Tryd.prog 101 #[.pointer (some ⟨t,0,none⟩),I O (i:Nat)] w' fun e w''=>e=.returned (I O (cntN al i))∧w''=w'):=fun i w' hi h=>count_any B t p g n i W H X Y wr zs st av al pv pl be fv w' h hi
 have qm:Hid (∀ w' x y,TermAt w' B t p g n W H X Y wr zs st av al pv pl be fv→Calls Tryd.prog 93 #[.pointer (some ⟨p,0,none⟩),I O x,I O y] w' fun e w''=>e=.returned (.tuple #[])∧TermAt w'' B t p g n W H (clampG x W) (clampG y H) false zs st av al pv pl be fv∧Kp B w' w''):=fun w' x y h =>
   (moveTo_any p g n B W H X Y x y wr zs w' h.sheet (by omega) (by omega) (by omega) (by omega)).mono fun e w'' ⟨he,hs,ht⟩=>⟨he,h.sheet' ht (fun k hk=>by left;simpa using hk) hs⟩
 have y0:w.cell? ⟨t,0,none⟩=some (.pointer (some ⟨p,0,none⟩)):=bxc h.box rfl
 have s0:w.cell? ⟨p,0,none⟩=some (I O W):=bxc h.sheet.box rfl
 have s2:w.cell? ⟨p,2,none⟩=some (Sz (some ⟨g,0,none⟩) n n):=bxc h.sheet.box rfl
 have s3:w.cell? ⟨p,3,none⟩=some (I O X):=bxc h.sheet.box rfl
 have s4:w.cell? ⟨p,4,none⟩=some (I O Y):=bxc h.sheet.box rfl
 obtain⟨c0,hc⟩:∃ c,c=cntN al 0:=⟨_,rfl⟩
 obtain⟨c1,hc'⟩:∃ c,c=cntN al 1:=⟨_,rfl⟩
 have qc0:Hid (∀ w',TermAt w' B t p g n W H X Y wr zs st av al pv pl be fv→Calls Tryd.prog 101 #[.pointer (some ⟨t,0,none⟩),I O 0] w' fun e w''=>e=.returned (I O c0)∧w''=w'):=fun w' h=>by rw[hc];exact qc.out 0 w' (by omega) h
 have qc1:Hid (∀ w',TermAt w' B t p g n W H X Y wr zs st av al pv pl be fv→Calls Tryd.prog 101 #[.pointer (some ⟨t,0,none⟩),I O 1] w' fun e w''=>e=.returned (I O c1)∧w''=w'):=fun w' h=>by rw[hc'];exact qc.out 1 w' (by omega) h
 rw[← hc] at hc0
 rw[← hc'] at hc1
 have hYW:0≤Y*W∧Y*W≤40000:=⟨Int.mul_nonneg (by omega) (by omega),Int.le_trans (Int.mul_le_mul_of_nonneg_right (show Y≤200 by omega) (by omega)) (by omega)⟩
 have hYW1:(Y+1)*W=Y*W+W:=by rw[Int.add_mul,Int.one_mul]
 have qe:Hid (∀ w' x y,(-100000≤x∧x≤100000∧-100000≤y∧y≤100000)→TermAt w' B t p g n W H X Y wr zs st av al pv pl be fv→Calls Tryd.prog 102 #[.pointer (some ⟨t,0,none⟩),I O x,I O y] w' fun e w''=>e=.returned (.tuple #[])∧TermAt w'' B t p g n W H X Y wr (ersC (at0 al 0) x (Y*W+X) y zs) st av al pv pl be fv∧Kp B w' w''):=fun w' x y hxy h =>
   erase_any B t p g n W H X Y x y wr zs st av al pv pl be fv w' h hn hn0 h0 (by omega) hYW hxy
 obtain⟨m,hm⟩:∃ m,Y*W=m:=⟨_,rfl⟩
 rw[hm] at hYW hYW1 qe ⊢
 have w1:IntKind.i64.wrap m=m:=wrap_i64_in _ (by omega) (by omega)
 have w2:IntKind.i64.wrap (m+W)=m+W:=wrap_i64_in _ (by omega) (by omega)
 have w3:IntKind.i64.wrap (Y+1)=Y+1:=wrap_i64_in _ (by omega) (by omega)
 clear h hc hc' qc
 clear hYW1
 go_enter Tryd.func91,Tryd.ntmps91
 go_wp2
 go_quiet ((go_at_call 101;refine Calls.quiet_of_same (qc0.out _ (HT.out _))))
 go_wp2_with fail
 refine(qe.out _ _ _ (by omega) (HT.out _)).mono ?_
 rintro e w9 ⟨rfl,h9,k9⟩
 have HH:Hid (_∧_):=⟨h9,(by first | exact(HK.out _).trans k9 | exact((HK.out _).trans (kp_drewN B _ 1)).trans k9:Kp B w w9)⟩
 clear h9 k9
 go_wp2
 (try simp only[Exit.inBlock,Exit.then])
 refine bodyPost_end (v:=.tuple #[]) (by simp[results,Tryd.results91,go_sem]) rfl ⟨rfl,HH.out⟩
set_option maxRecDepth 100000 in
theorem do_K (B t p g n:Nat) (W H X Y:Int) (wr:Bool) (zs:List Int) (st:Int) (av:Value) (al:List Int) (pv:Value) (pl:List Int) (be:Int) (fv:Value) (w:World) (h:TermAt w B t p g n W H X Y wr zs st av al pv pl be fv) (hn:n≤8000) (hn0:0 < n) (h0:at0 zs 0≠-33) (hb:0≤X∧X < W∧0≤Y∧Y < H∧2≤W∧W≤200∧1≤H∧H≤200) (hWH:W*H=n) (ha:∀ i,0≤at0 al i∧at0 al i≤9999) :
   Calls Tryd.prog 91 #[.pointer (some ⟨t,0,none⟩),I .u8 75] w fun e w'=>e=.returned (.tuple #[])∧TermAt w' B t p g n W H X Y wr (ersC (at0 al 0) (Y*W) (Y*W+X) ((Y+1)*W) zs) st av al pv pl be fv∧Kp B w w':=by
 have HT:Hid (∀ q,TermAt (w.drewN q) B t p g n W H X Y wr zs st av al pv pl be fv):=fun q=>h.drewN q
 have HK:Hid (∀ q,Kp B w (w.drewN q)):=fun q=>kp_drewN B w q
 have hc0:=cntN_bd ha 0
 have hc1:=cntN_bd ha 1
 have qc:Hid (∀ i w',i≤1000→TermAt w' B t p g n W H X Y wr zs st av al pv pl be fv→Calls Tryd.prog 101 #[.pointer (some ⟨t,0,none⟩),I O (i:Nat)] w' fun e w''=>e=.returned (I O (cntN al i))∧w''=w'):=fun i w' hi h=>count_any B t p g n i W H X Y wr zs st av al pv pl be fv w' h hi
 have qm:Hid (∀ w' x y,TermAt w' B t p g n W H X Y wr zs st av al pv pl be fv→Calls Tryd.prog 93 #[.pointer (some ⟨p,0,none⟩),I O x,I O y] w' fun e w''=>e=.returned (.tuple #[])∧TermAt w'' B t p g n W H (clampG x W) (clampG y H) false zs st av al pv pl be fv∧Kp B w' w''):=fun w' x y h =>
   (moveTo_any p g n B W H X Y x y wr zs w' h.sheet (by omega) (by omega) (by omega) (by omega)).mono fun e w'' ⟨he,hs,ht⟩=>⟨he,h.sheet' ht (fun k hk=>by left;simpa using hk) hs⟩
 have y0:w.cell? ⟨t,0,none⟩=some (.pointer (some ⟨p,0,none⟩)):=bxc h.box rfl
 have s0:w.cell? ⟨p,0,none⟩=some (I O W):=bxc h.sheet.box rfl
 have s2:w.cell? ⟨p,2,none⟩=some (Sz (some ⟨g,0,none⟩) n n):=bxc h.sheet.box rfl
 have s3:w.cell? ⟨p,3,none⟩=some (I O X):=bxc h.sheet.box rfl
 have s4:w.cell? ⟨p,4,none⟩=some (I O Y):=bxc h.sheet.box rfl
 obtain⟨c0,hc⟩:∃ c,c=cntN al 0:=⟨_,rfl⟩
 obtain⟨c1,hc'⟩:∃ c,c=cntN al 1:=⟨_,rfl⟩
 have qc0:Hid (∀ w',TermAt w' B t p g n W H X Y wr zs st av al pv pl be fv→Calls Tryd.prog 101 #[.pointer (some ⟨t,0,none⟩),I O 0] w' fun e w''=>e=.returned (I O c0)∧w''=w'):=fun w' h=>by rw[hc];exact qc.out 0 w' (by omega) h
 have qc1:Hid (∀ w',TermAt w' B t p g n W H X Y wr zs st av al pv pl be fv→Calls Tryd.prog 101 #[.pointer (some ⟨t,0,none⟩),I O 1] w' fun e w''=>e=.returned (I O c1)∧w''=w'):=fun w' h=>by rw[hc'];exact qc.out 1 w' (by omega) h
 rw[← hc] at hc0
 rw[← hc'] at hc1
 have hYW:0≤Y*W∧Y*W≤40000:=⟨Int.mul_nonneg (by omega) (by omega),Int.le_trans (Int.mul_le_mul_of_nonneg_right (show Y≤200 by omega) (by omega)) (by omega)⟩
 have hYW1:(Y+1)*W=Y*W+W:=by rw[Int.add_mul,Int.one_mul]
 have qe:Hid (∀ w' x y,(-100000≤x∧x≤100000∧-100000≤y∧y≤100000)→TermAt w' B t p g n W H X Y wr zs st av al pv pl be fv→Calls Tryd.prog 102 #[.pointer (some ⟨t,0,none⟩),I O x,I O y] w' fun e w''=>e=.returned (.tuple #[])∧TermAt w'' B t p g n W H X Y wr (ersC (at0 al 0) x (Y*W+X) y zs) st av al pv pl be fv∧Kp B w' w''):=fun w' x y hxy h =>
   erase_any B t p g n W H X Y x y wr zs st av al pv pl be fv w' h hn hn0 h0 (by omega) hYW hxy
 obtain⟨m,hm⟩:∃ m,Y*W=m:=⟨_,rfl⟩
 rw[hm] at hYW hYW1 qe ⊢
 have w1:IntKind.i64.wrap m=m:=wrap_i64_in _ (by omega) (by omega)
 have w2:IntKind.i64.wrap (m+W)=m+W:=wrap_i64_in _ (by omega) (by omega)
 have w3:IntKind.i64.wrap (Y+1)=Y+1:=wrap_i64_in _ (by omega) (by omega)
 clear h hc hc' qc
 have w4:IntKind.i64.wrap ((Y+1)*W)=m+W:=by rw[hYW1];exact w2
 rw[hYW1]
 clear hYW1
 go_enter Tryd.func91,Tryd.ntmps91
 go_wp2
 go_quiet ((go_at_call 101;refine Calls.quiet_of_same (qc0.out _ (HT.out _))))
 go_wp2
 go_region_with ((go_at_call 102;refine(qe.out _ _ _ (by omega) (by first | exact HT.out _ | exact(HT.out _).drewN 1)).mono ?_;rintro e w9 ⟨rfl,h9,k9⟩))
 all_goals (
   have HH:Hid (_∧_):=⟨h9,(by first | exact(HK.out _).trans k9 | exact((HK.out _).trans (kp_drewN B _ 1)).trans k9:Kp B w w9)⟩
   clear h9 k9
   (try simp only[Exit.inBlock,Exit.then])
   refine bodyPost_end (v:=.tuple #[]) (by simp[results,Tryd.results91,go_sem]) rfl ⟨rfl,HH.out⟩)
set_option maxRecDepth 100000 in
theorem do_no (B t p g n:Nat) (W H X Y:Int) (wr:Bool) (zs:List Int) (st:Int) (av:Value) (al:List Int) (pv:Value) (pl:List Int) (be:Int) (fv:Value) (b:Int) (hbb:b≠65∧b≠66∧b≠67∧b≠68∧b≠72∧b≠74∧b≠75) (w:World) (h:TermAt w B t p g n W H X Y wr zs st av al pv pl be fv) (hn:n≤8000) (hn0:0 < n) (h0:at0 zs 0≠-33) (hb:0≤X∧X < W∧0≤Y∧Y < H∧2≤W∧W≤200∧1≤H∧H≤200) (hWH:W*H=n) (ha:∀ i,0≤at0 al i∧at0 al i≤9999) :
   Calls Tryd.prog 91 #[.pointer (some ⟨t,0,none⟩),I .u8 b] w fun e w'=>e=.returned (.tuple #[])∧TermAt w' B t p g n W H X Y wr zs st av al pv pl be fv∧Kp B w w':=by
 have HT:Hid (∀ q,TermAt (w.drewN q) B t p g n W H X Y wr zs st av al pv pl be fv):=fun q=>h.drewN q
 have HK:Hid (∀ q,Kp B w (w.drewN q)):=fun q=>kp_drewN B w q
 have hc0:=cntN_bd ha 0
 have hc1:=cntN_bd ha 1
 have qc:Hid (∀ i w',i≤1000→TermAt w' B t p g n W H X Y wr zs st av al pv pl be fv→Calls Tryd.prog 101 #[.pointer (some ⟨t,0,none⟩),I O (i:Nat)] w' fun e w''=>e=.returned (I O (cntN al i))∧w''=w'):=fun i w' hi h=>count_any B t p g n i W H X Y wr zs st av al pv pl be fv w' h hi
 have qm:Hid (∀ w' x y,TermAt w' B t p g n W H X Y wr zs st av al pv pl be fv→Calls Tryd.prog 93 #[.pointer (some ⟨p,0,none⟩),I O x,I O y] w' fun e w''=>e=.returned (.tuple #[])∧TermAt w'' B t p g n W H (clampG x W) (clampG y H) false zs st av al pv pl be fv∧Kp B w' w''):=fun w' x y h =>
   (moveTo_any p g n B W H X Y x y wr zs w' h.sheet (by omega) (by omega) (by omega) (by omega)).mono fun e w'' ⟨he,hs,ht⟩=>⟨he,h.sheet' ht (fun k hk=>by left;simpa using hk) hs⟩
 have y0:w.cell? ⟨t,0,none⟩=some (.pointer (some ⟨p,0,none⟩)):=bxc h.box rfl
 have s0:w.cell? ⟨p,0,none⟩=some (I O W):=bxc h.sheet.box rfl
 have s2:w.cell? ⟨p,2,none⟩=some (Sz (some ⟨g,0,none⟩) n n):=bxc h.sheet.box rfl
 have s3:w.cell? ⟨p,3,none⟩=some (I O X):=bxc h.sheet.box rfl
 have s4:w.cell? ⟨p,4,none⟩=some (I O Y):=bxc h.sheet.box rfl
 obtain⟨c0,hc⟩:∃ c,c=cntN al 0:=⟨_,rfl⟩
 obtain⟨c1,hc'⟩:∃ c,c=cntN al 1:=⟨_,rfl⟩
 have qc0:Hid (∀ w',TermAt w' B t p g n W H X Y wr zs st av al pv pl be fv→Calls Tryd.prog 101 #[.pointer (some ⟨t,0,none⟩),I O 0] w' fun e w''=>e=.returned (I O c0)∧w''=w'):=fun w' h=>by rw[hc];exact qc.out 0 w' (by omega) h
 have qc1:Hid (∀ w',TermAt w' B t p g n W H X Y wr zs st av al pv pl be fv→Calls Tryd.prog 101 #[.pointer (some ⟨t,0,none⟩),I O 1] w' fun e w''=>e=.returned (I O c1)∧w''=w'):=fun w' h=>by rw[hc'];exact qc.out 1 w' (by omega) h
 rw[← hc] at hc0
 rw[← hc'] at hc1
 have e65:(b==65)=false:=by simp;omega
 have e66:(b==66)=false:=by simp;omega
 have e67:(b==67)=false:=by simp;omega
 have e68:(b==68)=false:=by simp;omega
 have e72:(b==72)=false:=by simp;omega
 have e74:(b==74)=false:=by simp;omega
 have e75:(b==75)=false:=by simp;omega
 clear h hc hc' qc hbb
 go_enter Tryd.func91,Tryd.ntmps91
 go_wp2
 go_quiet ((go_at_call 101;refine Calls.quiet_of_same (qc0.out _ (HT.out _))))
 go_wp2
 (try simp only[Exit.inBlock,Exit.then])
 refine bodyPost_end (v:=.tuple #[]) (by simp[results,Tryd.results91,go_sem]) rfl ⟨rfl,HT.out _,HK.out _⟩
end Go.Proofs.YthodinpflcbklaaDoor
