/-
  Parts of the road to VB, joined: TmE.
-/
import Derived.Test.YthodinpflcbklaaDoorM9VB
import Derived.Deep.RegionHeld3
open Go.Value renaming int → I,slice → Sz
open Go.IntKind renaming i64 → O
open List renaming setIfInBounds_toArray → lA,getElem_toArray → lB,getElem_cons_succ → lC,getElem_cons_zero → lD,set_cons_zero → lE,set_cons_succ → lF
set_option linter.unusedVariables false
set_option linter.unusedSimpArgs false
set_option maxHeartbeats 40000000
namespace Go.Proofs.YthodinpflcbklaaDoor
open Go.RowKit
def doS(al:List Int)(b W H X Y:Int)(n:Nat)(wr:Bool)(zs:List Int):Int × Int × Bool × List Int:=
 if b=65 then (clampG X W,clampG (Y - cntN al 0) H,false,zs)
 else if b=66 then (clampG X W,clampG (Y+cntN al 0) H,false,zs)
 else if b=67 then (clampG (X+cntN al 0) W,clampG Y H,false,zs)
 else if b=68 then (clampG (X - cntN al 0) W,clampG Y H,false,zs)
 else if b=72 then (clampG (cntN al 1 - 1) W,clampG (cntN al 0 - 1) H,false,zs)
 else if b=74 then (X,Y,wr,ersC (at0 al 0) 0 (Y*W+X) n zs)
 else if b=75 then (X,Y,wr,ersC (at0 al 0) (Y*W) (Y*W+X) ((Y+1)*W) zs)
 else (X,Y,wr,zs)
theorem cntN_bd{al:List Int}(h:∀ i,0≤at0 al i∧at0 al i≤9999)(i:Nat):1≤cntN al i∧cntN al i≤9999:=by
 have:=h i
 unfold cntN;split <;> omega
set_option maxRecDepth 100000 in
theorem do_A (B t p g n:Nat) (W H X Y:Int) (wr:Bool) (zs:List Int) (st:Int) (av:Value) (al:List Int) (pv:Value) (pl:List Int) (be:Int) (fv:Value) (w:World) (h:TermAt w B t p g n W H X Y wr zs st av al pv pl be fv) (hn:n≤8000) (hn0:0 < n) (h0:at0 zs 0≠-33) (hb:0≤X∧X < W∧0≤Y∧Y < H∧2≤W∧W≤200∧1≤H∧H≤200) (hWH:W*H=n) (ha:∀ i,0≤at0 al i∧at0 al i≤9999) :
   Calls Tryd.prog 91 #[.pointer (some ⟨t,0,none⟩),I .u8 65] w fun e w'=>e=.returned (.tuple #[])∧TermAt w' B t p g n W H (clampG X W) (clampG (Y - cntN al 0) H) false zs st av al pv pl be fv∧Kp B w w':=by
 have HT:Hid (∀ q,TermAt (w.drewN q) B t p g n W H X Y wr zs st av al pv pl be fv):=fun q=>h.drewN q
 have HK:Hid (∀ q,Kp B w (w.drewN q)):=fun q=>kp_drewN B w q
 have hc0:=cntN_bd ha 0
 have hc1:=cntN_bd ha 1
 have qc:Hid (∀ i w',i≤1000→TermAt w' B t p g n W H X Y wr zs st av al pv pl be fv→Calls Tryd.prog 101 #[.pointer (some ⟨t,0,none⟩),I O (i:Nat)] w' fun e w''=>e=.returned (I O (cntN al i))∧w''=w'):=fun i w' hi h=>count_any B t p g n i W H X Y wr zs st av al pv pl be fv w' h hi
 have qm:Hid (∀ w' x y,TermAt w' B t p g n W H X Y wr zs st av al pv pl be fv→Calls Tryd.prog 93 #[.pointer (some ⟨p,0,none⟩),I O x,I O y] w' fun e w''=>e=.returned (.tuple #[])∧TermAt w'' B t p g n W H (clampG x W) (clampG y H) false zs st av al pv pl be fv∧Kp B w' w''):=fun w' x y h =>
   (moveTo_any p g n B W H X Y x y wr zs w' h.sheet (by omega) (by omega) (by omega) (by omega)).mono fun e w'' ⟨he,hs,ht⟩=>⟨he,h.sheet' ht (fun k hk=>by left;simpa using hk) hs⟩
 have y0:w.cell? ⟨t,0,none⟩=some (.pointer (some ⟨p,0,none⟩)):=bxc h.box rfl
 have s0:w.cell? ⟨p,0,none⟩=some (I O W):=bxc h.sheet.box rfl
 have s2:w.cell? ⟨p,2,none⟩=some (Sz (some ⟨g,0,none⟩) n n):=bxc h.sheet.box rfl
 have s3:w.cell? ⟨p,3,none⟩=some (I O X):=bxc h.sheet.box rfl
 have s4:w.cell? ⟨p,4,none⟩=some (I O Y):=bxc h.sheet.box rfl
 obtain⟨c0,hc⟩:∃ c,c=cntN al 0:=⟨_,rfl⟩
 obtain⟨c1,hc'⟩:∃ c,c=cntN al 1:=⟨_,rfl⟩
 have qc0:Hid (∀ w',TermAt w' B t p g n W H X Y wr zs st av al pv pl be fv→Calls Tryd.prog 101 #[.pointer (some ⟨t,0,none⟩),I O 0] w' fun e w''=>e=.returned (I O c0)∧w''=w'):=fun w' h=>by rw[hc];exact qc.out 0 w' (by omega) h
 have qc1:Hid (∀ w',TermAt w' B t p g n W H X Y wr zs st av al pv pl be fv→Calls Tryd.prog 101 #[.pointer (some ⟨t,0,none⟩),I O 1] w' fun e w''=>e=.returned (I O c1)∧w''=w'):=fun w' h=>by rw[hc'];exact qc.out 1 w' (by omega) h
 rw[← hc] at hc0
 rw[← hc'] at hc1
 rw[← hc]
 have w1:IntKind.i64.wrap (Y - c0)=Y - c0:=by simp[IntKind.wrap,IntKind.bits,IntKind.signed];omega
 clear h hc hc' qc
 go_enter Tryd.func91,Tryd.ntmps91
 go_wp2
 go_quiet ((go_at_call 101;refine Calls.quiet_of_same (qc0.out _ (HT.out _))))
 go_wp2
 go_region_with ((go_at_call 93;refine(qm.out _ _ _ (by first | exact HT.out _ | exact(HT.out _).drewN 1)).mono ?_;rintro e w9 ⟨rfl,h9,k9⟩))
 all_goals (
   have HH:Hid (_∧_):=⟨h9,(by first | exact(HK.out _).trans k9 | exact((HK.out _).trans (kp_drewN B _ 1)).trans k9:Kp B w w9)⟩
   clear h9 k9
   (try simp only[Exit.inBlock,Exit.then])
   refine bodyPost_end (v:=.tuple #[]) (by simp[results,Tryd.results91,go_sem]) rfl ⟨rfl,HH.out⟩)
set_option maxRecDepth 100000 in
theorem do_B (B t p g n:Nat) (W H X Y:Int) (wr:Bool) (zs:List Int) (st:Int) (av:Value) (al:List Int) (pv:Value) (pl:List Int) (be:Int) (fv:Value) (w:World) (h:TermAt w B t p g n W H X Y wr zs st av al pv pl be fv) (hn:n≤8000) (hn0:0 < n) (h0:at0 zs 0≠-33) (hb:0≤X∧X < W∧0≤Y∧Y < H∧2≤W∧W≤200∧1≤H∧H≤200) (hWH:W*H=n) (ha:∀ i,0≤at0 al i∧at0 al i≤9999) :
   Calls Tryd.prog 91 #[.pointer (some ⟨t,0,none⟩),I .u8 66] w fun e w'=>e=.returned (.tuple #[])∧TermAt w' B t p g n W H (clampG X W) (clampG (Y+cntN al 0) H) false zs st av al pv pl be fv∧Kp B w w':=by
 have HT:Hid (∀ q,TermAt (w.drewN q) B t p g n W H X Y wr zs st av al pv pl be fv):=fun q=>h.drewN q
 have HK:Hid (∀ q,Kp B w (w.drewN q)):=fun q=>kp_drewN B w q
 have hc0:=cntN_bd ha 0
 have hc1:=cntN_bd ha 1
 have qc:Hid (∀ i w',i≤1000→TermAt w' B t p g n W H X Y wr zs st av al pv pl be fv→Calls Tryd.prog 101 #[.pointer (some ⟨t,0,none⟩),I O (i:Nat)] w' fun e w''=>e=.returned (I O (cntN al i))∧w''=w'):=fun i w' hi h=>count_any B t p g n i W H X Y wr zs st av al pv pl be fv w' h hi
 have qm:Hid (∀ w' x y,TermAt w' B t p g n W H X Y wr zs st av al pv pl be fv→Calls Tryd.prog 93 #[.pointer (some ⟨p,0,none⟩),I O x,I O y] w' fun e w''=>e=.returned (.tuple #[])∧TermAt w'' B t p g n W H (clampG x W) (clampG y H) false zs st av al pv pl be fv∧Kp B w' w''):=fun w' x y h =>
   (moveTo_any p g n B W H X Y x y wr zs w' h.sheet (by omega) (by omega) (by omega) (by omega)).mono fun e w'' ⟨he,hs,ht⟩=>⟨he,h.sheet' ht (fun k hk=>by left;simpa using hk) hs⟩
 have y0:w.cell? ⟨t,0,none⟩=some (.pointer (some ⟨p,0,none⟩)):=bxc h.box rfl
 have s0:w.cell? ⟨p,0,none⟩=some (I O W):=bxc h.sheet.box rfl
 have s2:w.cell? ⟨p,2,none⟩=some (Sz (some ⟨g,0,none⟩) n n):=bxc h.sheet.box rfl
 have s3:w.cell? ⟨p,3,none⟩=some (I O X):=bxc h.sheet.box rfl
 have s4:w.cell? ⟨p,4,none⟩=some (I O Y):=bxc h.sheet.box rfl
 obtain⟨c0,hc⟩:∃ c,c=cntN al 0:=⟨_,rfl⟩
 obtain⟨c1,hc'⟩:∃ c,c=cntN al 1:=⟨_,rfl⟩
 have qc0:Hid (∀ w',TermAt w' B t p g n W H X Y wr zs st av al pv pl be fv→Calls Tryd.prog 101 #[.pointer (some ⟨t,0,none⟩),I O 0] w' fun e w''=>e=.returned (I O c0)∧w''=w'):=fun w' h=>by rw[hc];exact qc.out 0 w' (by omega) h
 have qc1:Hid (∀ w',TermAt w' B t p g n W H X Y wr zs st av al pv pl be fv→Calls Tryd.prog 101 #[.pointer (some ⟨t,0,none⟩),I O 1] w' fun e w''=>e=.returned (I O c1)∧w''=w'):=fun w' h=>by rw[hc'];exact qc.out 1 w' (by omega) h
 rw[← hc] at hc0
 rw[← hc'] at hc1
 rw[← hc]
 have w1:IntKind.i64.wrap (Y+c0)=Y+c0:=by simp[IntKind.wrap,IntKind.bits,IntKind.signed];omega
 clear h hc hc' qc
 go_enter Tryd.func91,Tryd.ntmps91
 go_wp2
 go_quiet ((go_at_call 101;refine Calls.quiet_of_same (qc0.out _ (HT.out _))))
 go_wp2
 go_region_with ((go_at_call 93;refine(qm.out _ _ _ (by first | exact HT.out _ | exact(HT.out _).drewN 1)).mono ?_;rintro e w9 ⟨rfl,h9,k9⟩))
 all_goals (
   have HH:Hid (_∧_):=⟨h9,(by first | exact(HK.out _).trans k9 | exact((HK.out _).trans (kp_drewN B _ 1)).trans k9:Kp B w w9)⟩
   clear h9 k9
   (try simp only[Exit.inBlock,Exit.then])
   refine bodyPost_end (v:=.tuple #[]) (by simp[results,Tryd.results91,go_sem]) rfl ⟨rfl,HH.out⟩)
set_option maxRecDepth 100000 in
theorem do_C (B t p g n:Nat) (W H X Y:Int) (wr:Bool) (zs:List Int) (st:Int) (av:Value) (al:List Int) (pv:Value) (pl:List Int) (be:Int) (fv:Value) (w:World) (h:TermAt w B t p g n W H X Y wr zs st av al pv pl be fv) (hn:n≤8000) (hn0:0 < n) (h0:at0 zs 0≠-33) (hb:0≤X∧X < W∧0≤Y∧Y < H∧2≤W∧W≤200∧1≤H∧H≤200) (hWH:W*H=n) (ha:∀ i,0≤at0 al i∧at0 al i≤9999) :
   Calls Tryd.prog 91 #[.pointer (some ⟨t,0,none⟩),I .u8 67] w fun e w'=>e=.returned (.tuple #[])∧TermAt w' B t p g n W H (clampG (X+cntN al 0) W) (clampG Y H) false zs st av al pv pl be fv∧Kp B w w':=by
 have HT:Hid (∀ q,TermAt (w.drewN q) B t p g n W H X Y wr zs st av al pv pl be fv):=fun q=>h.drewN q
 have HK:Hid (∀ q,Kp B w (w.drewN q)):=fun q=>kp_drewN B w q
 have hc0:=cntN_bd ha 0
 have hc1:=cntN_bd ha 1
 have qc:Hid (∀ i w',i≤1000→TermAt w' B t p g n W H X Y wr zs st av al pv pl be fv→Calls Tryd.prog 101 #[.pointer (some ⟨t,0,none⟩),I O (i:Nat)] w' fun e w''=>e=.returned (I O (cntN al i))∧w''=w'):=fun i w' hi h=>count_any B t p g n i W H X Y wr zs st av al pv pl be fv w' h hi
 have qm:Hid (∀ w' x y,TermAt w' B t p g n W H X Y wr zs st av al pv pl be fv→Calls Tryd.prog 93 #[.pointer (some ⟨p,0,none⟩),I O x,I O y] w' fun e w''=>e=.returned (.tuple #[])∧TermAt w'' B t p g n W H (clampG x W) (clampG y H) false zs st av al pv pl be fv∧Kp B w' w''):=fun w' x y h =>
   (moveTo_any p g n B W H X Y x y wr zs w' h.sheet (by omega) (by omega) (by omega) (by omega)).mono fun e w'' ⟨he,hs,ht⟩=>⟨he,h.sheet' ht (fun k hk=>by left;simpa using hk) hs⟩
 have y0:w.cell? ⟨t,0,none⟩=some (.pointer (some ⟨p,0,none⟩)):=bxc h.box rfl
 have s0:w.cell? ⟨p,0,none⟩=some (I O W):=bxc h.sheet.box rfl
 have s2:w.cell? ⟨p,2,none⟩=some (Sz (some ⟨g,0,none⟩) n n):=bxc h.sheet.box rfl
 have s3:w.cell? ⟨p,3,none⟩=some (I O X):=bxc h.sheet.box rfl
 have s4:w.cell? ⟨p,4,none⟩=some (I O Y):=bxc h.sheet.box rfl
 obtain⟨c0,hc⟩:∃ c,c=cntN al 0:=⟨_,rfl⟩
 obtain⟨c1,hc'⟩:∃ c,c=cntN al 1:=⟨_,rfl⟩
 have qc0:Hid (∀ w',TermAt w' B t p g n W H X Y wr zs st av al pv pl be fv→Calls Tryd.prog 101 #[.pointer (some ⟨t,0,none⟩),I O 0] w' fun e w''=>e=.returned (I O c0)∧w''=w'):=fun w' h=>by rw[hc];exact qc.out 0 w' (by omega) h
 have qc1:Hid (∀ w',TermAt w' B t p g n W H X Y wr zs st av al pv pl be fv→Calls Tryd.prog 101 #[.pointer (some ⟨t,0,none⟩),I O 1] w' fun e w''=>e=.returned (I O c1)∧w''=w'):=fun w' h=>by rw[hc'];exact qc.out 1 w' (by omega) h
 rw[← hc] at hc0
 rw[← hc'] at hc1
 rw[← hc]
 have w1:IntKind.i64.wrap (X+c0)=X+c0:=by simp[IntKind.wrap,IntKind.bits,IntKind.signed];omega
 clear h hc hc' qc
 go_enter Tryd.func91,Tryd.ntmps91
 go_wp2
 go_quiet ((go_at_call 101;refine Calls.quiet_of_same (qc0.out _ (HT.out _))))
 go_wp2
 go_region_with ((go_at_call 93;refine(qm.out _ _ _ (by first | exact HT.out _ | exact(HT.out _).drewN 1)).mono ?_;rintro e w9 ⟨rfl,h9,k9⟩))
 all_goals (
   have HH:Hid (_∧_):=⟨h9,(by first | exact(HK.out _).trans k9 | exact((HK.out _).trans (kp_drewN B _ 1)).trans k9:Kp B w w9)⟩
   clear h9 k9
   (try simp only[Exit.inBlock,Exit.then])
   refine bodyPost_end (v:=.tuple #[]) (by simp[results,Tryd.results91,go_sem]) rfl ⟨rfl,HH.out⟩)
set_option maxRecDepth 100000 in
theorem do_D (B t p g n:Nat) (W H X Y:Int) (wr:Bool) (zs:List Int) (st:Int) (av:Value) (al:List Int) (pv:Value) (pl:List Int) (be:Int) (fv:Value) (w:World) (h:TermAt w B t p g n W H X Y wr zs st av al pv pl be fv) (hn:n≤8000) (hn0:0 < n) (h0:at0 zs 0≠-33) (hb:0≤X∧X < W∧0≤Y∧Y < H∧2≤W∧W≤200∧1≤H∧H≤200) (hWH:W*H=n) (ha:∀ i,0≤at0 al i∧at0 al i≤9999) :
   Calls Tryd.prog 91 #[.pointer (some ⟨t,0,none⟩),I .u8 68] w fun e w'=>e=.returned (.tuple #[])∧TermAt w' B t p g n W H (clampG (X - cntN al 0) W) (clampG Y H) false zs st av al pv pl be fv∧Kp B w w':=by
 have HT:Hid (∀ q,TermAt (w.drewN q) B t p g n W H X Y wr zs st av al pv pl be fv):=fun q=>h.drewN q
 have HK:Hid (∀ q,Kp B w (w.drewN q)):=fun q=>kp_drewN B w q
 have hc0:=cntN_bd ha 0
 have hc1:=cntN_bd ha 1
 have qc:Hid (∀ i w',i≤1000→TermAt w' B t p g n W H X Y wr zs st av al pv pl be fv→Calls Tryd.prog 101 #[.pointer (some ⟨t,0,none⟩),I O (i:Nat)] w' fun e w''=>e=.returned (I O (cntN al i))∧w''=w'):=fun i w' hi h=>count_any B t p g n i W H X Y wr zs st av al pv pl be fv w' h hi
 have qm:Hid (∀ w' x y,TermAt w' B t p g n W H X Y wr zs st av al pv pl be fv→Calls Tryd.prog 93 #[.pointer (some ⟨p,0,none⟩),I O x,I O y] w' fun e w''=>e=.returned (.tuple #[])∧TermAt w'' B t p g n W H (clampG x W) (clampG y H) false zs st av al pv pl be fv∧Kp B w' w''):=fun w' x y h =>
   (moveTo_any p g n B W H X Y x y wr zs w' h.sheet (by omega) (by omega) (by omega) (by omega)).mono fun e w'' ⟨he,hs,ht⟩=>⟨he,h.sheet' ht (fun k hk=>by left;simpa using hk) hs⟩
 have y0:w.cell? ⟨t,0,none⟩=some (.pointer (some ⟨p,0,none⟩)):=bxc h.box rfl
 have s0:w.cell? ⟨p,0,none⟩=some (I O W):=bxc h.sheet.box rfl
 have s2:w.cell? ⟨p,2,none⟩=some (Sz (some ⟨g,0,none⟩) n n):=bxc h.sheet.box rfl
 have s3:w.cell? ⟨p,3,none⟩=some (I O X):=bxc h.sheet.box rfl
 have s4:w.cell? ⟨p,4,none⟩=some (I O Y):=bxc h.sheet.box rfl
 obtain⟨c0,hc⟩:∃ c,c=cntN al 0:=⟨_,rfl⟩
 obtain⟨c1,hc'⟩:∃ c,c=cntN al 1:=⟨_,rfl⟩
 have qc0:Hid (∀ w',TermAt w' B t p g n W H X Y wr zs st av al pv pl be fv→Calls Tryd.prog 101 #[.pointer (some ⟨t,0,none⟩),I O 0] w' fun e w''=>e=.returned (I O c0)∧w''=w'):=fun w' h=>by rw[hc];exact qc.out 0 w' (by omega) h
 have qc1:Hid (∀ w',TermAt w' B t p g n W H X Y wr zs st av al pv pl be fv→Calls Tryd.prog 101 #[.pointer (some ⟨t,0,none⟩),I O 1] w' fun e w''=>e=.returned (I O c1)∧w''=w'):=fun w' h=>by rw[hc'];exact qc.out 1 w' (by omega) h
 rw[← hc] at hc0
 rw[← hc'] at hc1
 rw[← hc]
 have w1:IntKind.i64.wrap (X - c0)=X - c0:=by simp[IntKind.wrap,IntKind.bits,IntKind.signed];omega
 clear h hc hc' qc
 go_enter Tryd.func91,Tryd.ntmps91
 go_wp2
 go_quiet ((go_at_call 101;refine Calls.quiet_of_same (qc0.out _ (HT.out _))))
 go_wp2
 go_region_with ((go_at_call 93;refine(qm.out _ _ _ (by first | exact HT.out _ | exact(HT.out _).drewN 1)).mono ?_;rintro e w9 ⟨rfl,h9,k9⟩))
 all_goals (
   have HH:Hid (_∧_):=⟨h9,(by first | exact(HK.out _).trans k9 | exact((HK.out _).trans (kp_drewN B _ 1)).trans k9:Kp B w w9)⟩
   clear h9 k9
   (try simp only[Exit.inBlock,Exit.then])
   refine bodyPost_end (v:=.tuple #[]) (by simp[results,Tryd.results91,go_sem]) rfl ⟨rfl,HH.out⟩)
set_option maxRecDepth 100000 in
theorem do_H (B t p g n:Nat) (W H X Y:Int) (wr:Bool) (zs:List Int) (st:Int) (av:Value) (al:List Int) (pv:Value) (pl:List Int) (be:Int) (fv:Value) (w:World) (h:TermAt w B t p g n W H X Y wr zs st av al pv pl be fv) (hn:n≤8000) (hn0:0 < n) (h0:at0 zs 0≠-33) (hb:0≤X∧X < W∧0≤Y∧Y < H∧2≤W∧W≤200∧1≤H∧H≤200) (hWH:W*H=n) (ha:∀ i,0≤at0 al i∧at0 al i≤9999) :
   Calls Tryd.prog 91 #[.pointer (some ⟨t,0,none⟩),I .u8 72] w fun e w'=>e=.returned (.tuple #[])∧TermAt w' B t p g n W H (clampG (cntN al 1 - 1) W) (clampG (cntN al 0 - 1) H) false zs st av al pv pl be fv∧Kp B w w':=by
 have HT:Hid (∀ q,TermAt (w.drewN q) B t p g n W H X Y wr zs st av al pv pl be fv):=fun q=>h.drewN q
 have HK:Hid (∀ q,Kp B w (w.drewN q)):=fun q=>kp_drewN B w q
 have hc0:=cntN_bd ha 0
 have hc1:=cntN_bd ha 1
 have qc:Hid (∀ i w',i≤1000→TermAt w' B t p g n W H X Y wr zs st av al pv pl be fv→Calls Tryd.prog 101 #[.pointer (some ⟨t,0,none⟩),I O (i:Nat)] w' fun e w''=>e=.returned (I O (cntN al i))∧w''=w'):=fun i w' hi h=>count_any B t p g n i W H X Y wr zs st av al pv pl be fv w' h hi
 have qm:Hid (∀ w' x y,TermAt w' B t p g n W H X Y wr zs st av al pv pl be fv→Calls Tryd.prog 93 #[.pointer (some ⟨p,0,none⟩),I O x,I O y] w' fun e w''=>e=.returned (.tuple #[])∧TermAt w'' B t p g n W H (clampG x W) (clampG y H) false zs st av al pv pl be fv∧Kp B w' w''):=fun w' x y h =>
   (moveTo_any p g n B W H X Y x y wr zs w' h.sheet (by omega) (by omega) (by omega) (by omega)).mono fun e w'' ⟨he,hs,ht⟩=>⟨he,h.sheet' ht (fun k hk=>by left;simpa using hk) hs⟩
 have y0:w.cell? ⟨t,0,none⟩=some (.pointer (some ⟨p,0,none⟩)):=bxc h.box rfl
 have s0:w.cell? ⟨p,0,none⟩=some (I O W):=bxc h.sheet.box rfl
 have s2:w.cell? ⟨p,2,none⟩=some (Sz (some ⟨g,0,none⟩) n n):=bxc h.sheet.box rfl
 have s3:w.cell? ⟨p,3,none⟩=some (I O X):=bxc h.sheet.box rfl
 have s4:w.cell? ⟨p,4,none⟩=some (I O Y):=bxc h.sheet.box rfl
 obtain⟨c0,hc⟩:∃ c,c=cntN al 0:=⟨_,rfl⟩
 obtain⟨c1,hc'⟩:∃ c,c=cntN al 1:=⟨_,rfl⟩
 have qc0:Hid (∀ w',TermAt w' B t p g n W H X Y wr zs st av al pv pl be fv→Calls Tryd.prog 101 #[.pointer (some ⟨t,0,none⟩),I O 0] w' fun e w''=>e=.returned (I O c0)∧w''=w'):=fun w' h=>by rw[hc];exact qc.out 0 w' (by omega) h
 have qc1:Hid (∀ w',TermAt w' B t p g n W H X Y wr zs st av al pv pl be fv→Calls Tryd.prog 101 #[.pointer (some ⟨t,0,none⟩),I O 1] w' fun e w''=>e=.returned (I O c1)∧w''=w'):=fun w' h=>by rw[hc'];exact qc.out 1 w' (by omega) h
 rw[← hc] at hc0
 rw[← hc'] at hc1
 rw[← hc,← hc']
 have w1:IntKind.i64.wrap (c0 - 1)=c0 - 1:=wrap_i64_in _ (by omega) (by omega)
 have w2:IntKind.i64.wrap (c1 - 1)=c1 - 1:=wrap_i64_in _ (by omega) (by omega)
 clear h hc hc' qc
 go_enter Tryd.func91,Tryd.ntmps91
 go_wp2
 go_quiet ((go_at_call 101;refine Calls.quiet_of_same (qc0.out _ (HT.out _))))
 go_wp2_with fail
 refine(qc1.out _ (HT.out _)).mono ?_
 rintro e w8 ⟨rfl,rfl⟩
 go_wp2_with fail
 refine(qm.out _ _ _ (HT.out _)).mono ?_
 rintro e w9 ⟨rfl,h9,k9⟩
 have HH:Hid (_∧_):=⟨h9,(by first | exact(HK.out _).trans k9 | exact((HK.out _).trans (kp_drewN B _ 1)).trans k9:Kp B w w9)⟩
 clear h9 k9
 go_wp2
 (try simp only[Exit.inBlock,Exit.then])
 refine bodyPost_end (v:=.tuple #[]) (by simp[results,Tryd.results91,go_sem]) rfl ⟨rfl,HH.out⟩
end Go.Proofs.YthodinpflcbklaaDoor
