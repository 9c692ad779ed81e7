/-
  Parts of the road to VB, joined: TmF, GrX, GrMP, GrZ.
-/
import Derived.Test.YthodinpflcbklaaDoorM8VB
import Derived.Test.YthodinpflcbklaaDoorM11VB
import Derived.Test.YthodinpflcbklaaDoorM9VB
open Go.Value renaming int → I,slice → Sz
open Go.IntKind renaming i64 → O
open List renaming setIfInBounds_toArray → lA,getElem_toArray → lB,getElem_cons_succ → lC,getElem_cons_zero → lD,set_cons_zero → lE,set_cons_succ → lF
set_option linter.unusedVariables false
set_option linter.unusedSimpArgs false
set_option maxHeartbeats 40000000
namespace Go.Proofs.YthodinpflcbklaaDoor
open Go.RowKit
theorem do_any(B t p g n:Nat)(W H X Y:Int)(wr:Bool)(zs:List Int)(st:Int)(av:Value)(al:List Int)(pv:Value)(pl:List Int)(be:Int)(fv:Value)(b:Int)(w:World)(h:TermAt w B t p g n W H X Y wr zs st av al pv pl be fv)(hn:n≤8000)(hn0:0 < n)(h0:at0 zs 0≠-33)(hb:0≤X∧X < W∧0≤Y∧Y < H∧2≤W∧W≤200∧1≤H∧H≤200)(hWH:W*H=n)(ha:∀ i,0≤at0 al i∧at0 al i≤9999):
   Calls Tryd.prog 91 #[.pointer (some ⟨t,0,none⟩),I .u8 b] w fun e w'=>e=.returned (.tuple #[])∧TermAt w' B t p g n W H (doS al b W H X Y n wr zs).1 (doS al b W H X Y n wr zs).2.1 (doS al b W H X Y n wr zs).2.2.1 (doS al b W H X Y n wr zs).2.2.2 st av al pv pl be fv∧Kp B w w':=by
 by_cases e1:b=65
 · subst e1;exact do_A B t p g n W H X Y wr zs st av al pv pl be fv w h hn hn0 h0 hb hWH ha
 by_cases e2:b=66
 · subst e2;exact do_B B t p g n W H X Y wr zs st av al pv pl be fv w h hn hn0 h0 hb hWH ha
 by_cases e3:b=67
 · subst e3;exact do_C B t p g n W H X Y wr zs st av al pv pl be fv w h hn hn0 h0 hb hWH ha
 by_cases e4:b=68
 · subst e4;exact do_D B t p g n W H X Y wr zs st av al pv pl be fv w h hn hn0 h0 hb hWH ha
 by_cases e5:b=72
 · subst e5;exact do_H B t p g n W H X Y wr zs st av al pv pl be fv w h hn hn0 h0 hb hWH ha
 by_cases e6:b=74
 · subst e6;exact do_J B t p g n W H X Y wr zs st av al pv pl be fv w h hn hn0 h0 hb hWH ha
 by_cases e7:b=75
 · subst e7;exact do_K B t p g n W H X Y wr zs st av al pv pl be fv w h hn hn0 h0 hb hWH ha
 have e:doS al b W H X Y n wr zs=(X,Y,wr,zs):=by
   unfold doS
   rw[if_neg e1,if_neg e2,if_neg e3,if_neg e4,if_neg e5,if_neg e6,if_neg e7]
 rw[e]
 exact do_no B t p g n W H X Y wr zs st av al pv pl be fv b ⟨e1,e2,e3,e4,e5,e6,e7⟩ w h hn hn0 h0 hb hWH ha
set_option maxRecDepth 100000 in
theorem seq_digit (B t p g n:Nat) (W H X Y:Int) (wr:Bool) (zs:List Int) (st:Int) (av:Value) (al:List Int) (pv:Value) (pl:List Int) (be:Int) (fv:Value) (b:Int) (hbb:48≤b∧b≤57) (w:World) (h:TermAt w B t p g n W H X Y wr zs st av al pv pl be fv) (hl:al.length≤4) (ha:∀ i,0≤at0 al i∧at0 al i≤9999) :
   Calls Tryd.prog 75 #[.pointer (some ⟨t,0,none⟩),I .u8 b] w fun e w'=>e=.returned (.tuple #[])∧(∃ av',TermAt w' B t p g n W H X Y wr zs st av' (digA al (b - 48)) pv pl be fv)∧Kp B w w':=by
 have q:Hid (Calls Tryd.prog 89 #[.pointer (some ⟨t,0,none⟩),I O (b - 48)] w fun e w'=>e=.returned (.tuple #[])∧(∃ av',TermAt w' B t p g n W H X Y wr zs st av' (digA al (b - 48)) pv pl be fv)∧Kp B w w'):=digit_any B t p g n W H X Y wr zs st av al pv pl be fv (b - 48) w h hl ha (by omega)
 have d1:decide ((48:Int)≤b)=true:=decide_eq_true hbb.1
 have d2:decide (b≤57)=true:=decide_eq_true hbb.2
 have wb:IntKind.u8.wrap (b - 48)=b - 48:=by simp[IntKind.wrap,IntKind.bits,IntKind.signed];omega
 have wc:IntKind.i64.wrap (b - 48)=b - 48:=wrap_i64_in _ (by omega) (by omega)
 clear h
 go_enter Tryd.func75,Tryd.ntmps75
 go_wp2_with fail
 refine q.out.mono ?_
 rintro e w1 ⟨rfl,h1,k1⟩
 have HH:Hid (_∧_):=⟨h1,k1⟩
 clear h1 k1
 go_wp2
 (try simp only[Exit.inBlock,Exit.then])
 refine bodyPost_end (v:=.tuple #[]) (by simp[results,Tryd.results75,go_sem]) rfl ⟨rfl,HH.out⟩
set_option maxRecDepth 100000 in
theorem seq_semi (B t p g n:Nat) (W H X Y:Int) (wr:Bool) (zs:List Int) (st:Int) (av:Value) (al:List Int) (pv:Value) (pl:List Int) (be:Int) (fv:Value) (w:World) (h:TermAt w B t p g n W H X Y wr zs st av al pv pl be fv) (hl:al.length≤4) :
   Calls Tryd.prog 75 #[.pointer (some ⟨t,0,none⟩),I .u8 59] w fun e w'=>e=.returned (.tuple #[])∧(∃ av',TermAt w' B t p g n W H X Y wr zs st av' (semA al) pv pl be fv)∧Kp B w w':=by
 have q:Hid (Calls Tryd.prog 90 #[.pointer (some ⟨t,0,none⟩)] w fun e w'=>e=.returned (.tuple #[])∧(∃ av',TermAt w' B t p g n W H X Y wr zs st av' (semA al) pv pl be fv)∧Kp B w w'):=semi_any B t p g n W H X Y wr zs st av al pv pl be fv w h hl
 clear h
 go_enter Tryd.func75,Tryd.ntmps75
 go_wp2_with fail
 refine q.out.mono ?_
 rintro e w1 ⟨rfl,h1,k1⟩
 have HH:Hid (_∧_):=⟨h1,k1⟩
 clear h1 k1
 go_wp2
 (try simp only[Exit.inBlock,Exit.then])
 refine bodyPost_end (v:=.tuple #[]) (by simp[results,Tryd.results75,go_sem]) rfl ⟨rfl,HH.out⟩
set_option maxRecDepth 100000 in
theorem seq_end (B t p g n:Nat) (W H X Y:Int) (wr:Bool) (zs:List Int) (st:Int) (av:Value) (al:List Int) (pv:Value) (pl:List Int) (be:Int) (fv:Value) (b:Int) (hbb:¬ (48≤b∧b≤57)∧b≠59) (w:World) (h:TermAt w B t p g n W H X Y wr zs st av al pv pl be fv) (hn:n≤8000) (hn0:0 < n) (h0:at0 zs 0≠-33) (hb:0≤X∧X < W∧0≤Y∧Y < H∧2≤W∧W≤200∧1≤H∧H≤200) (hWH:W*H=n) (ha:∀ i,0≤at0 al i∧at0 al i≤9999) :
   Calls Tryd.prog 75 #[.pointer (some ⟨t,0,none⟩),I .u8 b] w fun e w'=>e=.returned (.tuple #[])∧TermAt w' B t p g n W H (doS al b W H X Y n wr zs).1 (doS al b W H X Y n wr zs).2.1 (doS al b W H X Y n wr zs).2.2.1 (doS al b W H X Y n wr zs).2.2.2 0 (Sz none 0 0) [] pv pl be (fvOf t 0)∧Kp B w w':=by
 obtain⟨X',hX⟩:∃ x,x=(doS al b W H X Y n wr zs).1:=⟨_,rfl⟩
 obtain⟨Y',hY⟩:∃ x,x=(doS al b W H X Y n wr zs).2.1:=⟨_,rfl⟩
 obtain⟨wr',hw⟩:∃ x,x=(doS al b W H X Y n wr zs).2.2.1:=⟨_,rfl⟩
 obtain⟨zs',hz⟩:∃ x,x=(doS al b W H X Y n wr zs).2.2.2:=⟨_,rfl⟩
 have q:=do_any B t p g n W H X Y wr zs st av al pv pl be fv b w h hn hn0 h0 hb hWH ha
 rw[← hX,← hY,← hw,← hz] at q ⊢
 have Q:Hid (Calls Tryd.prog 91 #[.pointer (some ⟨t,0,none⟩),I .u8 b] w fun e w'=>e=.returned (.tuple #[])∧TermAt w' B t p g n W H X' Y' wr' zs' st av al pv pl be fv∧Kp B w w'):=q
 have d3:(b==59)=false:=by simpa using hbb.2
 clear h q hX hY hw hz
 have run:∀ (d:True),(48≤b→¬ b≤57):=fun _ h1 h2=>hbb.1 ⟨h1,h2⟩
 by_cases k1:48≤b
 · have d1:decide ((48:Int)≤b)=true:=decide_eq_true k1
   have d2:decide (b≤57)=false:=decide_eq_false (run trivial k1)
   clear run k1 hbb
   go_enter Tryd.func75,Tryd.ntmps75
   go_wp2_with fail
   refine Q.out.mono ?_
   rintro e w1 ⟨rfl,h1,k1⟩
   have y2:w1.cell? ⟨t,2,none⟩=some av:=bxc h1.box rfl
   have f2:w1.frozen? ⟨t,2,none⟩=false:=box_frozen h1.box
   have H1:Hid (Kp B w w1∧B≤t):=⟨k1,h1.lo⟩
   have H2:Hid (TermAt (w1.setCell ⟨t,2,none⟩ (Sz none 0 0)) B t p g n W H X' Y' wr' zs' st (Sz none 0 0) [] pv pl be fv):=h1.no_args
   clear h1 k1
   go_wp2_with fail
   refine(enter_any B t p g n W H X' Y' wr' zs' st (Sz none 0 0) [] pv pl be fv 0 _ H2.out).mono ?_
   rintro e w2 ⟨rfl,h2,k2⟩
   have HH:Hid (_∧_):=⟨h2,(H1.out.1.trans (kp_set B w1 2 _ H1.out.2)).trans k2⟩
   clear h2 k2
   go_wp2
   (try simp only[Exit.inBlock,Exit.then])
   refine bodyPost_end (v:=.tuple #[]) (by simp[results,Tryd.results75,go_sem]) rfl ⟨rfl,HH.out⟩
 · have d1:decide ((48:Int)≤b)=false:=decide_eq_false k1
   clear run k1 hbb
   go_enter Tryd.func75,Tryd.ntmps75
   go_wp2_with fail
   refine Q.out.mono ?_
   rintro e w1 ⟨rfl,h1,k1⟩
   have y2:w1.cell? ⟨t,2,none⟩=some av:=bxc h1.box rfl
   have f2:w1.frozen? ⟨t,2,none⟩=false:=box_frozen h1.box
   have H1:Hid (Kp B w w1∧B≤t):=⟨k1,h1.lo⟩
   have H2:Hid (TermAt (w1.setCell ⟨t,2,none⟩ (Sz none 0 0)) B t p g n W H X' Y' wr' zs' st (Sz none 0 0) [] pv pl be fv):=h1.no_args
   clear h1 k1
   go_wp2_with fail
   refine(enter_any B t p g n W H X' Y' wr' zs' st (Sz none 0 0) [] pv pl be fv 0 _ H2.out).mono ?_
   rintro e w2 ⟨rfl,h2,k2⟩
   have HH:Hid (_∧_):=⟨h2,(H1.out.1.trans (kp_set B w1 2 _ H1.out.2)).trans k2⟩
   clear h2 k2
   go_wp2
   (try simp only[Exit.inBlock,Exit.then])
   refine bodyPost_end (v:=.tuple #[]) (by simp[results,Tryd.results75,go_sem]) rfl ⟨rfl,HH.out⟩
end Go.Proofs.YthodinpflcbklaaDoor
namespace Go.Proofs.YthodinpflcbklaaDoor
open Go.RowKit
set_option maxRecDepth 100000
def mixI(A zs:List Int)(j:Nat):List Int:=A.take j++zs.drop j
theorem mixI_len{A zs:List Int}{n j:Nat}(hA:A.length=n)(hz:zs.length=n):(mixI A zs j).length=n:=by unfold mixI;simp;omega
theorem mixI_full{A zs:List Int}{n:Nat}(hA:A.length=n)(hz:zs.length=n):mixI A zs n=A:=by
 unfold mixI;rw[List.take_of_length_le (by omega),List.drop_eq_nil_of_le (by omega),List.append_nil]
theorem mixI_at{A zs:List Int}{n j:Nat}(hA:A.length=n)(hj:j≤n)(i:Nat):(mixI A zs j)[i]?=if i < j then A[i]? else zs[i]?:=by
 unfold mixI
 have hl:(A.take j).length=j:=by rw[List.length_take];omega
 by_cases h:i < j
 · rw[if_pos h,List.getElem?_append_left (by omega),List.getElem?_take_of_lt h]
 · rw[if_neg h,List.getElem?_append_right (by omega),hl,List.getElem?_drop]
   congr 1;omega
theorem mixI_set{A zs:List Int}{n j:Nat}(hA:A.length=n)(hz:zs.length=n)(hj:j < n):
   ((mixI A zs j).map (Value.int .i64)).set j (I O (at0 A j))=(mixI A zs (j+1)).map (Value.int .i64):=by
 apply List.ext_getElem?
 intro i
 rw[List.getElem?_set,List.length_map,mixI_len hA hz,List.getElem?_map,List.getElem?_map,mixI_at hA (by omega),mixI_at hA (by omega)]
 by_cases e:j=i
 · subst e
   rw[if_pos rfl,if_pos hj,if_pos (by omega)]
   unfold at0
   rw[List.getElem?_eq_getElem (by omega)];rfl
 · rw[if_neg e]
   by_cases h:i < j
   · rw[if_pos h,if_pos (by omega)]
   · rw[if_neg h,if_neg (by omega)]
theorem mixI_same{A zs:List Int}{n j:Nat}(hA:A.length=n)(hz:zs.length=n)(hj:j < n)(h:at0 A j=at0 zs j):mixI A zs (j+1)=mixI A zs j:=by
 apply List.ext_getElem?
 intro i
 rw[mixI_at hA (by omega),mixI_at hA (by omega)]
 by_cases e:i=j
 · subst e
   rw[if_pos (by omega),if_neg (by omega),List.getElem?_eq_getElem (by omega),List.getElem?_eq_getElem (by omega)]
   unfold at0 at h
   rw[List.getElem?_eq_getElem (by omega),List.getElem?_eq_getElem (by omega)] at h
   exact congrArg some h
 · by_cases h':i < j
   · rw[if_pos h',if_pos (by omega)]
   · rw[if_neg h',if_neg (by omega)]
theorem scr_at1{b:Int}{W j:Nat}{zs:List Int}(h:j+W < zs.length):at0 (scr b W zs) j=at0 zs (j+W):=by
 unfold at0 scr
 rw[List.getElem?_append_left (by simp;omega),List.getElem?_drop,Nat.add_comm]
theorem scr_at2{b:Int}{W j:Nat}{zs:List Int}(h:¬ j+W < zs.length)(hj:j < zs.length)(hW:W≤zs.length):at0 (scr b W zs) j=b:=by
 unfold at0 scr
 rw[List.getElem?_append_right (by simp;omega),List.getElem?_replicate,if_pos (by simp;omega)]
 rfl
theorem cell_apart{w:World}{b j c i:Nat}(u:Value)(o:Unit)(h:¬ b=c):(w.setCell ⟨b,j,none⟩ u).cell? ⟨c,i,none⟩=w.cell? ⟨c,i,none⟩:=by
 unfold World.cell?
 simp only
 rw[box_other u (fun e=>h e.symm)]
end Go.Proofs.YthodinpflcbklaaDoor
namespace Go.Proofs.YthodinpflcbklaaDoor
open Go.RowKit
set_option maxRecDepth 100000
def putZ(a d:Nat)(v h:Int)(zs:List Int):List Int:=zs.take a++([v,h].take d++zs.drop (a+d))
theorem putZ_len{a d:Nat}{v h:Int}{zs:List Int}(hd:d≤2)(ha:a+d≤zs.length):(putZ a d v h zs).length=zs.length:=by
 unfold putZ;simp;omega
theorem sheet_put{w:World}{B p g n a d:Nat}{W H X Y v h:Int}{wr:Bool}{zs:List Int}(hs:SheetAt w B p g n W H X Y wr zs)(hn0:0 < n)(hd:d≤2)(ha:a+d≤n)(o:Obj):
   SheetAt ((w.alloc o).setRow g ((zs.map (Value.int .i64)).take a++(([v,h].map (Value.int .i64)).take d++(zs.map (Value.int .i64)).drop (a+(([v,h].map (Value.int .i64)).take d).length))).toArray) B p g n W H X Y wr (putZ a d v h zs)∧Touch w ((w.alloc o).setRow g ((zs.map (Value.int .i64)).take a++(([v,h].map (Value.int .i64)).take d++(zs.map (Value.int .i64)).drop (a+(([v,h].map (Value.int .i64)).take d).length))).toArray) [p,g]:=by
 obtain⟨hBg,hgx,hmx⟩:=row_exact hn0 hs.row
 have hl:=hs.len
 have hlt:=box_lt hgx
 have hltp:=box_lt hs.box
 have e0:(([v,h].map (Value.int .i64)).take d).length=d:=by rw[List.length_take];simp;omega
 have hg1:(w.alloc o).heap[g]?=some (.cells (zs.map (Value.int .i64)).toArray 3 (0,0)):=(heap_alloc_old _ _ hlt).trans hgx
 refine⟨⟨?_,?_,?_,hs.lo,hs.ne⟩,?_⟩
 · exact(setRow_other _ _ _ _ hs.ne).trans ((heap_alloc_old _ _ hltp).trans hs.box)
 · refine exact_row hBg (by rw[putZ_len hd (by omega)];exact hl) hmx ?_
   rw[setRow_heap _ _ _ _ _ _ hg1,e0]
   unfold putZ
   rw[List.map_append,List.map_append,List.map_take,List.map_take,List.map_drop]
 · rw[putZ_len hd (by omega)];exact hl
 · refine Touch.trans (b:=w.alloc o) (Touch.of_below ((Below.refl _ _).alloc (Nat.le_refl _) _) _) ?_
   exact(touch_setRow _ _ _).mono fun z hz=>by simp at hz;simp[hz]
theorem lit_src{w:World}{v h:Int}{d:Nat}:∀ j u,(([v,h].map (Value.int .i64)).take d)[j]?=some u→(w.alloc (.cells #[I O v,I O h] 3)).cell? ((⟨w.heap.size,0,none⟩:Addr).add j)=some u:=by
 intro j u hu
 have e:(⟨w.heap.size,0,none⟩:Addr).add j=⟨w.heap.size,j,none⟩:=by cases j <;> simp[Addr.add]
 rw[e]
 refine bxc (heap_alloc_new w _) ?_
 by_cases hj:j < d
 · rw[List.getElem?_take_of_lt hj] at hu
   simpa using hu
 · rw[List.getElem?_eq_none (by rw[List.length_take];omega)] at hu;cases hu
set_option maxRecDepth 100000 in
theorem put_zero (p g n B W:Nat) (H X Y r:Int) (wr:Bool) (zs:List Int) (w:World) (hs:SheetAt w B p g n W H X Y wr zs) (hW:2≤W) (hW2:W≤200) (hWn:W≤n) (hn:n≤8000) (hH:1≤H) (hH2:H≤200) (hX:0≤X) (hX2:X < W) (hY:0≤Y) (hY2:Y < H) (hw:wd r=0) :
   Calls Tryd.prog 95 #[.pointer (some ⟨p,0,none⟩),I O r] w fun e w'=>e=.returned (.tuple #[])∧SheetAt w' B p g n W H X Y wr zs∧Touch w w' [p,g]:=by
 have qw:Hid (∀ w',Calls Tryd.prog 97 #[I O r] w' fun e w''=>e=.returned (I O 0)∧w''=w'):=fun w'=>by rw[← hw];exact implWid_any r w'
 have HS:Hid (SheetAt w B p g n W H X Y wr zs):=hs
 clear hs hw
 go_enter Tryd.func95,Tryd.ntmps95
 go_wp2_with fail
 refine(qw.out _).mono ?_
 rintro e w1 ⟨rfl,rfl⟩
 go_wp2
 refine bodyPost_ret (v:=.tuple #[]) (by simp[results,Tryd.results95,go_sem]) rfl ⟨rfl,HS.out,Touch.refl _ _⟩
set_option maxRecDepth 100000 in
theorem put_1 (p g n B W:Nat) (H X Y r:Int) (wr:Bool) (zs:List Int) (w:World) (hs:SheetAt w B p g n W H X Y wr zs) (hW:2≤W) (hW2:W≤200) (hWn:W≤n) (hn:n≤8000) (hH:1≤H) (hH2:H≤200) (hX:0≤X) (hX2:X < W) (hY:0≤Y) (hY2:Y < H) (hw:wd r=1) (hr:32≤r∧r≤1114111) (X1 Y1:Nat) (z1:List Int) (XN:Int) (bN:Bool) (hXN:(if (X1:Int)+1=W then (X1:Int)+1 - 1 else (X1:Int)+1)=XN) (hbN:(if (X1:Int)+1=W then true else false)=bN) (h0:at0 z1 0≠-33) (hfit:Y1*W+X1+1≤n) (hXY:X1≤200∧Y1≤200)
   (hb:((wr=true∨(wr=false∧(W:Int) < X+1))∧X1=0∧clampG (Y+1) H=(Y1:Int)∧z1=(if Y=H - 1 then scr 0 W zs else zs))∨(wr=false∧X+1≤(W:Int)∧X=(X1:Int)∧Y=(Y1:Int)∧z1=zs)) :
   Calls Tryd.prog 95 #[.pointer (some ⟨p,0,none⟩),I O r] w fun e w'=>e=.returned (.tuple #[])∧SheetAt w' B p g n W H XN Y1 bN (putZ (Y1*W+X1) 1 (r - 32) (-33) (clrZ (-33) 0 ((Y1*W+X1:Nat):Int) ((Y1*W+X1+1:Nat):Int) z1))∧Touch w w' [p,g]:=by
 have qw:Hid (∀ w',Calls Tryd.prog 97 #[I O r] w' fun e w''=>e=.returned (I O 1)∧w''=w'):=fun w'=>by rw[← hw];exact implWid_any r w'
 have HS:Hid (SheetAt w B p g n W H X Y wr zs):=hs
 have hlz:z1.length=n:=by
   rcases hb with ⟨_,_,_,h⟩ | ⟨_,_,_,_,h⟩
   · rw[h];split
     · rw[scr_len (by rw[hs.len];exact hWn)];exact hs.len
     · exact hs.len
   · rw[h];exact hs.len
 obtain⟨pp,hpp⟩:∃ pp,pp=Y1*W:=⟨_,rfl⟩
 obtain⟨a,ha⟩:∃ a,a=Y1*W+X1:=⟨_,rfl⟩
 have hpi:(Y1:Int)*(W:Int)=(pp:Int):=by rw[hpp];simp
 have hai:(pp:Int)+(X1:Int)=(a:Int):=by rw[ha,hpp];simp
 rw[← ha] at hfit ⊢
 have HAX:Hid (a=pp+X1):=by show _=_;rw[ha,hpp]
 have HX1:Hid (X1=0→a=pp):=fun h=>by rw[ha,hpp,h];rfl
 have wpp:IntKind.i64.wrap (pp:Int)=(pp:Int):=wrap_i64_in _ (by omega) (by omega)
 have wa:IntKind.i64.wrap (a:Int)=(a:Int):=wrap_i64_in _ (by omega) (by omega)
 have wa1:IntKind.i64.wrap ((a:Int)+1)=(a:Int)+1:=wrap_i64_in _ (by omega) (by omega)
 have wr32:IntKind.i64.wrap (r - 32)=r - 32:=wrap_i64_in _ (by omega) (by omega)
 have ea:((a+1:Nat):Int)=(a:Int)+1:=by simp
 have qb:Hid (∀ w' X' Y' wr',SheetAt w' B p g n W H X' Y' wr' z1→Calls Tryd.prog 105 #[.pointer (some ⟨p,0,none⟩),I O (a:Int),I O ((a:Int)+1)] w' fun e w''=>e=.returned (.tuple #[])∧SheetAt w'' B p g n W H X' Y' wr' (clrZ (-33) 0 (a:Int) ((a+1:Nat):Int) z1)∧Touch w' w'' [p,g]):=fun w' X' Y' wr' h=>by
   rw[ea];exact blank_any p g n B W H X' Y' (a:Int) ((a:Int)+1) wr' z1 w' h hn (by omega) h0
 obtain⟨z2,hz2⟩:∃ z2,z2=clrZ (-33) 0 (a:Int) ((a+1:Nat):Int) z1:=⟨_,rfl⟩
 rw[← hz2] at qb ⊢
 have qo:Hid (∀ w' Y' zz,SheetAt w' B p g n W H (X1:Int) Y' false zz→Calls Tryd.prog 106 #[.pointer (some ⟨p,0,none⟩),I O 1] w' fun e w''=>e=.returned (.tuple #[])∧SheetAt w'' B p g n W H XN Y' bN zz∧Touch w' w'' [p,g]):=fun w' Y' zz h=>by
   rw[← hXN,← hbN];exact goOn_any p g n B W H X1 Y' 1 false zz w' h (by omega) (by omega) (by omega) (by omega)
 have HFIT:Hid (a+1≤n∧0 < n):=⟨hfit,by omega⟩
 have fa1:(a:Int)≤(a:Int)+1:=by omega
 have fa2:(a:Int)+1≤(n:Int):=by omega
 have fa3:¬ n=a:=by omega
 have fa4:((a:Int)+1).toNat=a+1:=by omega
 have y0:w.cell? ⟨p,0,none⟩=some (I O W):=bxc hs.box rfl
 have y3:w.cell? ⟨p,3,none⟩=some (I O X):=bxc hs.box rfl
 have y4:w.cell? ⟨p,4,none⟩=some (I O Y):=bxc hs.box rfl
 have y5:w.cell? ⟨p,5,none⟩=some (.bool wr):=bxc hs.box rfl
 have wXd:IntKind.i64.wrap (X+1)=X+1:=wrap_i64_in _ (by omega) (by omega)
 clear hs hw hz2 h0 hlz ea ha hpp hr hXN hbN
 have h3:(wr=true∧X1=0∧clampG (Y+1) H=(Y1:Int)∧z1=(if Y=H - 1 then scr 0 W zs else zs))∨(wr=false∧(W:Int) < X+1∧X1=0∧clampG (Y+1) H=(Y1:Int)∧z1=(if Y=H - 1 then scr 0 W zs else zs))∨(wr=false∧X+1≤(W:Int)∧X=(X1:Int)∧Y=(Y1:Int)∧z1=zs):=by
   rcases hb with ⟨h | ⟨h,h'⟩,h2⟩ | h
   · exact .inl ⟨h,h2⟩
   · exact .inr (.inl ⟨h,h',h2⟩)
   · exact .inr (.inr h)
 clear hb
 rcases h3 with ⟨k1,k2,k3,k4⟩ | ⟨k1,k0,k2,k3,k4⟩ | ⟨k1,k0,k2,k3,k4⟩
 · subst k1
   subst k2
   obtain rfl:a=pp:=HX1.out rfl
   have qn:Hid (∀ w',SheetAt w' B p g n W H X Y true zs→Calls Tryd.prog 94 #[.pointer (some ⟨p,0,none⟩),I O 0] w' fun e w''=>e=.returned (.tuple #[])∧SheetAt w'' B p g n W H 0 (Y1:Int) false z1∧Touch w' w'' [p,g]):=fun w' h=>by
     rw[k4,← k3];have h7:=goDown_any p g n B W H X Y 0 _ zs w' h hW hW2 hWn hn hH hH2 hY hY2;rw[show clampG 0 (W:Int)=0 from by unfold clampG;omega] at h7;exact h7
   clear k3 k4 hai HX1 HAX
   go_enter Tryd.func95,Tryd.ntmps95
   go_wp2_with fail
   refine(qw.out _).mono ?_
   rintro e w1 ⟨rfl,rfl⟩
   go_wp2
   go_quiet (fail)
   go_wp2_with fail
   refine(qn.out _ (HS.out.drewN _)).mono ?_
   rintro e w2 ⟨rfl,hs2,ht2⟩
   have S2:Hid (SheetAt w2 B p g n W H 0 (Y1:Int) false z1):=hs2
   have T2:Hid (Touch w1 w2 [p,g]):=(touch_drewN (Touch.refl w1 _) _).trans ht2
   clear y0 y3 y4 y5
   have y0:w2.cell? ⟨p,0,none⟩=some (I O W):=bxc hs2.box rfl
   have y3:w2.cell? ⟨p,3,none⟩=some (I O 0):=bxc hs2.box rfl
   have y4:w2.cell? ⟨p,4,none⟩=some (I O Y1):=bxc hs2.box rfl
   clear hs2 ht2
   go_wp2
   go_quiet (fail)
   go_wp2_with fail
   refine(qb.out _ _ _ _ (S2.out.drewN _)).mono ?_
   rintro e w3 ⟨rfl,hs3,ht3⟩
   have T3:Hid (Touch w1 w3 [p,g]):=(touch_drewN T2.out _).trans ht3
   have S3:Hid (SheetAt w3 B p g n W H 0 (Y1:Int) false z2):=hs3
   have y2:w3.cell? ⟨p,2,none⟩=some (Sz (some ⟨g,0,none⟩) n n):=bxc hs3.box rfl
   have hgx:=(row_exact HFIT.out.2 hs3.row).2.1
   have hgl:=box_lt hgx
   have hlen3:=hs3.len
   have hg4:(w3.alloc (.cells #[I O (r - 32),I O (-33)] 3)).heap[g]?=some (.cells (z2.map (Value.int .i64)).toArray 3 (0,0)):=(heap_alloc_old _ _ hgl).trans hgx
   have SP:=sheet_put (a:=a) (d:=1) (v:=r - 32) (h:=-33) S3.out HFIT.out.2 (by omega) HFIT.out.1 (.cells #[I O (r - 32),I O (-33)] 3)
   have HSP:Hid (SheetAt ((w3.alloc (.cells #[I O (r - 32),I O (-33)] 3)).setRow g ((z2.map (Value.int .i64)).take a++((([r - 32,-33].map (Value.int .i64)).take 1)++(z2.map (Value.int .i64)).drop (a+(([r - 32,-33].map (Value.int .i64)).take 1).length))).toArray) B p g n W H 0 (Y1:Int) false (putZ a 1 (r - 32) (-33) z2)∧Touch w3 ((w3.alloc (.cells #[I O (r - 32),I O (-33)] 3)).setRow g ((z2.map (Value.int .i64)).take a++((([r - 32,-33].map (Value.int .i64)).take 1)++(z2.map (Value.int .i64)).drop (a+(([r - 32,-33].map (Value.int .i64)).take 1).length))).toArray) [p,g]):=SP
   obtain⟨V,hV⟩:∃ V,V=((w3.alloc (.cells #[I O (r - 32),I O (-33)] 3)).setRow g ((z2.map (Value.int .i64)).take a++((([r - 32,-33].map (Value.int .i64)).take 1)++(z2.map (Value.int .i64)).drop (a+(([r - 32,-33].map (Value.int .i64)).take 1).length))).toArray):=⟨_,rfl⟩
   have hcp:(Builtin.copy_ #[22,22] 3 #[Sz (some ⟨g,a,none⟩) 1 (n - a),Sz (some ⟨w3.heap.size,0,none⟩) 2 2]).run Tryd.prog (w3.alloc (.cells #[I O (r - 32),I O (-33)] 3))=.ok (goInt 1) V:=by
     rw[hV]
     have h9:=run_copy_row (P:=Tryd.prog) (w3.alloc (.cells #[I O (r - 32),I O (-33)] 3)) 22 22 3 3 g a 1 (n - a) ⟨w3.heap.size,0,none⟩ 2 2 (z2.map (Value.int .i64)).toArray 3 (([r - 32,-33].map (Value.int .i64)).take 1) Tryd.underlying22 (by kernel_rfl) hg4 rfl lit_src (by have h1:=HFIT.out.1;simp[hlen3] <;> omega) (by intro v hv;simp at hv;first | (rcases hv with rfl | rfl <;> rfl) | (subst hv;rfl))
     rw[List.append_assoc] at h9
     exact h9
   have SV:Hid (SheetAt V B p g n W H 0 (Y1:Int) false (putZ a 1 (r - 32) (-33) z2)∧Touch w3 V [p,g]):=by rw[hV];exact HSP.out
   clear SP hs3 ht3 y0 y3 y4 hgx hgl hg4 hlen3 hV HSP
   go_wp2_with fail
   refine(qo.out _ _ _ SV.out.1).mono ?_
   rintro e w5 ⟨rfl,hs5,ht5⟩
   have S5:Hid (_∧_):=⟨hs5,(T3.out.trans SV.out.2).trans ht5⟩
   clear hs5 ht5
   go_wp2
   refine bodyPost_end (v:=.tuple #[]) (by simp[results,Tryd.results95,go_sem]) rfl ⟨rfl,S5.out.1,S5.out.2⟩
 · subst k1
   subst k2
   obtain rfl:a=pp:=HX1.out rfl
   have qn:Hid (∀ w',SheetAt w' B p g n W H X Y false zs→Calls Tryd.prog 94 #[.pointer (some ⟨p,0,none⟩),I O 0] w' fun e w''=>e=.returned (.tuple #[])∧SheetAt w'' B p g n W H 0 (Y1:Int) false z1∧Touch w' w'' [p,g]):=fun w' h=>by
     rw[k4,← k3];have h7:=goDown_any p g n B W H X Y 0 _ zs w' h hW hW2 hWn hn hH hH2 hY hY2;rw[show clampG 0 (W:Int)=0 from by unfold clampG;omega] at h7;exact h7
   have dk:decide ((W:Int) < X+1)=true:=decide_eq_true k0
   clear k3 k4 hai HX1 HAX k0
   go_enter Tryd.func95,Tryd.ntmps95
   go_wp2_with fail
   refine(qw.out _).mono ?_
   rintro e w1 ⟨rfl,rfl⟩
   go_wp2
   go_quiet (fail)
   go_wp2_with fail
   refine(qn.out _ (HS.out.drewN _)).mono ?_
   rintro e w2 ⟨rfl,hs2,ht2⟩
   have S2:Hid (SheetAt w2 B p g n W H 0 (Y1:Int) false z1):=hs2
   have T2:Hid (Touch w1 w2 [p,g]):=(touch_drewN (Touch.refl w1 _) _).trans ht2
   clear y0 y3 y4 y5
   have y0:w2.cell? ⟨p,0,none⟩=some (I O W):=bxc hs2.box rfl
   have y3:w2.cell? ⟨p,3,none⟩=some (I O 0):=bxc hs2.box rfl
   have y4:w2.cell? ⟨p,4,none⟩=some (I O Y1):=bxc hs2.box rfl
   clear hs2 ht2
   go_wp2
   go_quiet (fail)
   go_wp2_with fail
   refine(qb.out _ _ _ _ (S2.out.drewN _)).mono ?_
   rintro e w3 ⟨rfl,hs3,ht3⟩
   have T3:Hid (Touch w1 w3 [p,g]):=(touch_drewN T2.out _).trans ht3
   have S3:Hid (SheetAt w3 B p g n W H 0 (Y1:Int) false z2):=hs3
   have y2:w3.cell? ⟨p,2,none⟩=some (Sz (some ⟨g,0,none⟩) n n):=bxc hs3.box rfl
   have hgx:=(row_exact HFIT.out.2 hs3.row).2.1
   have hgl:=box_lt hgx
   have hlen3:=hs3.len
   have hg4:(w3.alloc (.cells #[I O (r - 32),I O (-33)] 3)).heap[g]?=some (.cells (z2.map (Value.int .i64)).toArray 3 (0,0)):=(heap_alloc_old _ _ hgl).trans hgx
   have SP:=sheet_put (a:=a) (d:=1) (v:=r - 32) (h:=-33) S3.out HFIT.out.2 (by omega) HFIT.out.1 (.cells #[I O (r - 32),I O (-33)] 3)
   have HSP:Hid (SheetAt ((w3.alloc (.cells #[I O (r - 32),I O (-33)] 3)).setRow g ((z2.map (Value.int .i64)).take a++((([r - 32,-33].map (Value.int .i64)).take 1)++(z2.map (Value.int .i64)).drop (a+(([r - 32,-33].map (Value.int .i64)).take 1).length))).toArray) B p g n W H 0 (Y1:Int) false (putZ a 1 (r - 32) (-33) z2)∧Touch w3 ((w3.alloc (.cells #[I O (r - 32),I O (-33)] 3)).setRow g ((z2.map (Value.int .i64)).take a++((([r - 32,-33].map (Value.int .i64)).take 1)++(z2.map (Value.int .i64)).drop (a+(([r - 32,-33].map (Value.int .i64)).take 1).length))).toArray) [p,g]):=SP
   obtain⟨V,hV⟩:∃ V,V=((w3.alloc (.cells #[I O (r - 32),I O (-33)] 3)).setRow g ((z2.map (Value.int .i64)).take a++((([r - 32,-33].map (Value.int .i64)).take 1)++(z2.map (Value.int .i64)).drop (a+(([r - 32,-33].map (Value.int .i64)).take 1).length))).toArray):=⟨_,rfl⟩
   have hcp:(Builtin.copy_ #[22,22] 3 #[Sz (some ⟨g,a,none⟩) 1 (n - a),Sz (some ⟨w3.heap.size,0,none⟩) 2 2]).run Tryd.prog (w3.alloc (.cells #[I O (r - 32),I O (-33)] 3))=.ok (goInt 1) V:=by
     rw[hV]
     have h9:=run_copy_row (P:=Tryd.prog) (w3.alloc (.cells #[I O (r - 32),I O (-33)] 3)) 22 22 3 3 g a 1 (n - a) ⟨w3.heap.size,0,none⟩ 2 2 (z2.map (Value.int .i64)).toArray 3 (([r - 32,-33].map (Value.int .i64)).take 1) Tryd.underlying22 (by kernel_rfl) hg4 rfl lit_src (by have h1:=HFIT.out.1;simp[hlen3] <;> omega) (by intro v hv;simp at hv;first | (rcases hv with rfl | rfl <;> rfl) | (subst hv;rfl))
     rw[List.append_assoc] at h9
     exact h9
   have SV:Hid (SheetAt V B p g n W H 0 (Y1:Int) false (putZ a 1 (r - 32) (-33) z2)∧Touch w3 V [p,g]):=by rw[hV];exact HSP.out
   clear SP hs3 ht3 y0 y3 y4 hgx hgl hg4 hlen3 hV HSP
   go_wp2_with fail
   refine(qo.out _ _ _ SV.out.1).mono ?_
   rintro e w5 ⟨rfl,hs5,ht5⟩
   have S5:Hid (_∧_):=⟨hs5,(T3.out.trans SV.out.2).trans ht5⟩
   clear hs5 ht5
   go_wp2
   refine bodyPost_end (v:=.tuple #[]) (by simp[results,Tryd.results95,go_sem]) rfl ⟨rfl,S5.out.1,S5.out.2⟩
 · subst k1
   subst k2
   subst k3
   subst k4
   have dk:decide ((W:Int) < (X1:Int)+1)=false:=decide_eq_false (by omega)
   clear k0 HX1 HAX
   go_enter Tryd.func95,Tryd.ntmps95
   go_wp2_with fail
   refine(qw.out _).mono ?_
   rintro e w1 ⟨rfl,rfl⟩
   go_wp2
   go_quiet (fail)
   go_wp2
   go_quiet (fail)
   go_wp2_with fail
   refine(qb.out _ _ _ _ (HS.out.drewN _)).mono ?_
   rintro e w3 ⟨rfl,hs3,ht3⟩
   have T3:Hid (Touch w1 w3 [p,g]):=(touch_drewN (Touch.refl w1 _) _).trans ht3
   have S3:Hid (SheetAt w3 B p g n W H (X1:Int) (Y1:Int) false z2):=hs3
   have y2:w3.cell? ⟨p,2,none⟩=some (Sz (some ⟨g,0,none⟩) n n):=bxc hs3.box rfl
   have hgx:=(row_exact HFIT.out.2 hs3.row).2.1
   have hgl:=box_lt hgx
   have hlen3:=hs3.len
   have hg4:(w3.alloc (.cells #[I O (r - 32),I O (-33)] 3)).heap[g]?=some (.cells (z2.map (Value.int .i64)).toArray 3 (0,0)):=(heap_alloc_old _ _ hgl).trans hgx
   have SP:=sheet_put (a:=a) (d:=1) (v:=r - 32) (h:=-33) S3.out HFIT.out.2 (by omega) HFIT.out.1 (.cells #[I O (r - 32),I O (-33)] 3)
   have HSP:Hid (SheetAt ((w3.alloc (.cells #[I O (r - 32),I O (-33)] 3)).setRow g ((z2.map (Value.int .i64)).take a++((([r - 32,-33].map (Value.int .i64)).take 1)++(z2.map (Value.int .i64)).drop (a+(([r - 32,-33].map (Value.int .i64)).take 1).length))).toArray) B p g n W H (X1:Int) (Y1:Int) false (putZ a 1 (r - 32) (-33) z2)∧Touch w3 ((w3.alloc (.cells #[I O (r - 32),I O (-33)] 3)).setRow g ((z2.map (Value.int .i64)).take a++((([r - 32,-33].map (Value.int .i64)).take 1)++(z2.map (Value.int .i64)).drop (a+(([r - 32,-33].map (Value.int .i64)).take 1).length))).toArray) [p,g]):=SP
   obtain⟨V,hV⟩:∃ V,V=((w3.alloc (.cells #[I O (r - 32),I O (-33)] 3)).setRow g ((z2.map (Value.int .i64)).take a++((([r - 32,-33].map (Value.int .i64)).take 1)++(z2.map (Value.int .i64)).drop (a+(([r - 32,-33].map (Value.int .i64)).take 1).length))).toArray):=⟨_,rfl⟩
   have hcp:(Builtin.copy_ #[22,22] 3 #[Sz (some ⟨g,a,none⟩) 1 (n - a),Sz (some ⟨w3.heap.size,0,none⟩) 2 2]).run Tryd.prog (w3.alloc (.cells #[I O (r - 32),I O (-33)] 3))=.ok (goInt 1) V:=by
     rw[hV]
     have h9:=run_copy_row (P:=Tryd.prog) (w3.alloc (.cells #[I O (r - 32),I O (-33)] 3)) 22 22 3 3 g a 1 (n - a) ⟨w3.heap.size,0,none⟩ 2 2 (z2.map (Value.int .i64)).toArray 3 (([r - 32,-33].map (Value.int .i64)).take 1) Tryd.underlying22 (by kernel_rfl) hg4 rfl lit_src (by have h1:=HFIT.out.1;simp[hlen3] <;> omega) (by intro v hv;simp at hv;first | (rcases hv with rfl | rfl <;> rfl) | (subst hv;rfl))
     rw[List.append_assoc] at h9
     exact h9
   have SV:Hid (SheetAt V B p g n W H (X1:Int) (Y1:Int) false (putZ a 1 (r - 32) (-33) z2)∧Touch w3 V [p,g]):=by rw[hV];exact HSP.out
   clear SP hs3 ht3 y0 y3 y4 hgx hgl hg4 hlen3 hV HSP y5
   go_wp2_with fail
   refine(qo.out _ _ _ SV.out.1).mono ?_
   rintro e w5 ⟨rfl,hs5,ht5⟩
   have S5:Hid (_∧_):=⟨hs5,(T3.out.trans SV.out.2).trans ht5⟩
   clear hs5 ht5
   go_wp2
   refine bodyPost_end (v:=.tuple #[]) (by simp[results,Tryd.results95,go_sem]) rfl ⟨rfl,S5.out.1,S5.out.2⟩
set_option maxRecDepth 100000 in
theorem put_2 (p g n B W:Nat) (H X Y r:Int) (wr:Bool) (zs:List Int) (w:World) (hs:SheetAt w B p g n W H X Y wr zs) (hW:2≤W) (hW2:W≤200) (hWn:W≤n) (hn:n≤8000) (hH:1≤H) (hH2:H≤200) (hX:0≤X) (hX2:X < W) (hY:0≤Y) (hY2:Y < H) (hw:wd r=2) (hr:32≤r∧r≤1114111) (X1 Y1:Nat) (z1:List Int) (XN:Int) (bN:Bool) (hXN:(if (X1:Int)+2=W then (X1:Int)+2 - 1 else (X1:Int)+2)=XN) (hbN:(if (X1:Int)+2=W then true else false)=bN) (h0:at0 z1 0≠-33) (hfit:Y1*W+X1+2≤n) (hXY:X1≤200∧Y1≤200)
   (hb:((wr=true∨(wr=false∧(W:Int) < X+2))∧X1=0∧clampG (Y+1) H=(Y1:Int)∧z1=(if Y=H - 1 then scr 0 W zs else zs))∨(wr=false∧X+2≤(W:Int)∧X=(X1:Int)∧Y=(Y1:Int)∧z1=zs)) :
   Calls Tryd.prog 95 #[.pointer (some ⟨p,0,none⟩),I O r] w fun e w'=>e=.returned (.tuple #[])∧SheetAt w' B p g n W H XN Y1 bN (putZ (Y1*W+X1) 2 (r - 32) (-33) (clrZ (-33) 0 ((Y1*W+X1:Nat):Int) ((Y1*W+X1+2:Nat):Int) z1))∧Touch w w' [p,g]:=by
 have qw:Hid (∀ w',Calls Tryd.prog 97 #[I O r] w' fun e w''=>e=.returned (I O 2)∧w''=w'):=fun w'=>by rw[← hw];exact implWid_any r w'
 have HS:Hid (SheetAt w B p g n W H X Y wr zs):=hs
 have hlz:z1.length=n:=by
   rcases hb with ⟨_,_,_,h⟩ | ⟨_,_,_,_,h⟩
   · rw[h];split
     · rw[scr_len (by rw[hs.len];exact hWn)];exact hs.len
     · exact hs.len
   · rw[h];exact hs.len
 obtain⟨pp,hpp⟩:∃ pp,pp=Y1*W:=⟨_,rfl⟩
 obtain⟨a,ha⟩:∃ a,a=Y1*W+X1:=⟨_,rfl⟩
 have hpi:(Y1:Int)*(W:Int)=(pp:Int):=by rw[hpp];simp
 have hai:(pp:Int)+(X1:Int)=(a:Int):=by rw[ha,hpp];simp
 rw[← ha] at hfit ⊢
 have HAX:Hid (a=pp+X1):=by show _=_;rw[ha,hpp]
 have HX1:Hid (X1=0→a=pp):=fun h=>by rw[ha,hpp,h];rfl
 have wpp:IntKind.i64.wrap (pp:Int)=(pp:Int):=wrap_i64_in _ (by omega) (by omega)
 have wa:IntKind.i64.wrap (a:Int)=(a:Int):=wrap_i64_in _ (by omega) (by omega)
 have wa1:IntKind.i64.wrap ((a:Int)+2)=(a:Int)+2:=wrap_i64_in _ (by omega) (by omega)
 have wr32:IntKind.i64.wrap (r - 32)=r - 32:=wrap_i64_in _ (by omega) (by omega)
 have ea:((a+2:Nat):Int)=(a:Int)+2:=by simp
 have qb:Hid (∀ w' X' Y' wr',SheetAt w' B p g n W H X' Y' wr' z1→Calls Tryd.prog 105 #[.pointer (some ⟨p,0,none⟩),I O (a:Int),I O ((a:Int)+2)] w' fun e w''=>e=.returned (.tuple #[])∧SheetAt w'' B p g n W H X' Y' wr' (clrZ (-33) 0 (a:Int) ((a+2:Nat):Int) z1)∧Touch w' w'' [p,g]):=fun w' X' Y' wr' h=>by
   rw[ea];exact blank_any p g n B W H X' Y' (a:Int) ((a:Int)+2) wr' z1 w' h hn (by omega) h0
 obtain⟨z2,hz2⟩:∃ z2,z2=clrZ (-33) 0 (a:Int) ((a+2:Nat):Int) z1:=⟨_,rfl⟩
 rw[← hz2] at qb ⊢
 have qo:Hid (∀ w' Y' zz,SheetAt w' B p g n W H (X1:Int) Y' false zz→Calls Tryd.prog 106 #[.pointer (some ⟨p,0,none⟩),I O 2] w' fun e w''=>e=.returned (.tuple #[])∧SheetAt w'' B p g n W H XN Y' bN zz∧Touch w' w'' [p,g]):=fun w' Y' zz h=>by
   rw[← hXN,← hbN];exact goOn_any p g n B W H X1 Y' 2 false zz w' h (by omega) (by omega) (by omega) (by omega)
 have HFIT:Hid (a+2≤n∧0 < n):=⟨hfit,by omega⟩
 have fa1:(a:Int)≤(a:Int)+2:=by omega
 have fa2:(a:Int)+2≤(n:Int):=by omega
 have fa3:¬ n=a:=by omega
 have fa4:((a:Int)+2).toNat=a+2:=by omega
 have y0:w.cell? ⟨p,0,none⟩=some (I O W):=bxc hs.box rfl
 have y3:w.cell? ⟨p,3,none⟩=some (I O X):=bxc hs.box rfl
 have y4:w.cell? ⟨p,4,none⟩=some (I O Y):=bxc hs.box rfl
 have y5:w.cell? ⟨p,5,none⟩=some (.bool wr):=bxc hs.box rfl
 have wXd:IntKind.i64.wrap (X+2)=X+2:=wrap_i64_in _ (by omega) (by omega)
 clear hs hw hz2 h0 hlz ea ha hpp hr hXN hbN
 have h3:(wr=true∧X1=0∧clampG (Y+1) H=(Y1:Int)∧z1=(if Y=H - 1 then scr 0 W zs else zs))∨(wr=false∧(W:Int) < X+2∧X1=0∧clampG (Y+1) H=(Y1:Int)∧z1=(if Y=H - 1 then scr 0 W zs else zs))∨(wr=false∧X+2≤(W:Int)∧X=(X1:Int)∧Y=(Y1:Int)∧z1=zs):=by
   rcases hb with ⟨h | ⟨h,h'⟩,h2⟩ | h
   · exact .inl ⟨h,h2⟩
   · exact .inr (.inl ⟨h,h',h2⟩)
   · exact .inr (.inr h)
 clear hb
 rcases h3 with ⟨k1,k2,k3,k4⟩ | ⟨k1,k0,k2,k3,k4⟩ | ⟨k1,k0,k2,k3,k4⟩
 · subst k1
   subst k2
   obtain rfl:a=pp:=HX1.out rfl
   have qn:Hid (∀ w',SheetAt w' B p g n W H X Y true zs→Calls Tryd.prog 94 #[.pointer (some ⟨p,0,none⟩),I O 0] w' fun e w''=>e=.returned (.tuple #[])∧SheetAt w'' B p g n W H 0 (Y1:Int) false z1∧Touch w' w'' [p,g]):=fun w' h=>by
     rw[k4,← k3];have h7:=goDown_any p g n B W H X Y 0 _ zs w' h hW hW2 hWn hn hH hH2 hY hY2;rw[show clampG 0 (W:Int)=0 from by unfold clampG;omega] at h7;exact h7
   clear k3 k4 hai HX1 HAX
   go_enter Tryd.func95,Tryd.ntmps95
   go_wp2_with fail
   refine(qw.out _).mono ?_
   rintro e w1 ⟨rfl,rfl⟩
   go_wp2
   go_quiet (fail)
   go_wp2_with fail
   refine(qn.out _ (HS.out.drewN _)).mono ?_
   rintro e w2 ⟨rfl,hs2,ht2⟩
   have S2:Hid (SheetAt w2 B p g n W H 0 (Y1:Int) false z1):=hs2
   have T2:Hid (Touch w1 w2 [p,g]):=(touch_drewN (Touch.refl w1 _) _).trans ht2
   clear y0 y3 y4 y5
   have y0:w2.cell? ⟨p,0,none⟩=some (I O W):=bxc hs2.box rfl
   have y3:w2.cell? ⟨p,3,none⟩=some (I O 0):=bxc hs2.box rfl
   have y4:w2.cell? ⟨p,4,none⟩=some (I O Y1):=bxc hs2.box rfl
   clear hs2 ht2
   go_wp2
   go_quiet (fail)
   go_wp2_with fail
   refine(qb.out _ _ _ _ (S2.out.drewN _)).mono ?_
   rintro e w3 ⟨rfl,hs3,ht3⟩
   have T3:Hid (Touch w1 w3 [p,g]):=(touch_drewN T2.out _).trans ht3
   have S3:Hid (SheetAt w3 B p g n W H 0 (Y1:Int) false z2):=hs3
   have y2:w3.cell? ⟨p,2,none⟩=some (Sz (some ⟨g,0,none⟩) n n):=bxc hs3.box rfl
   have hgx:=(row_exact HFIT.out.2 hs3.row).2.1
   have hgl:=box_lt hgx
   have hlen3:=hs3.len
   have hg4:(w3.alloc (.cells #[I O (r - 32),I O (-33)] 3)).heap[g]?=some (.cells (z2.map (Value.int .i64)).toArray 3 (0,0)):=(heap_alloc_old _ _ hgl).trans hgx
   have SP:=sheet_put (a:=a) (d:=2) (v:=r - 32) (h:=-33) S3.out HFIT.out.2 (by omega) HFIT.out.1 (.cells #[I O (r - 32),I O (-33)] 3)
   have HSP:Hid (SheetAt ((w3.alloc (.cells #[I O (r - 32),I O (-33)] 3)).setRow g ((z2.map (Value.int .i64)).take a++((([r - 32,-33].map (Value.int .i64)).take 2)++(z2.map (Value.int .i64)).drop (a+(([r - 32,-33].map (Value.int .i64)).take 2).length))).toArray) B p g n W H 0 (Y1:Int) false (putZ a 2 (r - 32) (-33) z2)∧Touch w3 ((w3.alloc (.cells #[I O (r - 32),I O (-33)] 3)).setRow g ((z2.map (Value.int .i64)).take a++((([r - 32,-33].map (Value.int .i64)).take 2)++(z2.map (Value.int .i64)).drop (a+(([r - 32,-33].map (Value.int .i64)).take 2).length))).toArray) [p,g]):=SP
   obtain⟨V,hV⟩:∃ V,V=((w3.alloc (.cells #[I O (r - 32),I O (-33)] 3)).setRow g ((z2.map (Value.int .i64)).take a++((([r - 32,-33].map (Value.int .i64)).take 2)++(z2.map (Value.int .i64)).drop (a+(([r - 32,-33].map (Value.int .i64)).take 2).length))).toArray):=⟨_,rfl⟩
   have hcp:(Builtin.copy_ #[22,22] 3 #[Sz (some ⟨g,a,none⟩) 2 (n - a),Sz (some ⟨w3.heap.size,0,none⟩) 2 2]).run Tryd.prog (w3.alloc (.cells #[I O (r - 32),I O (-33)] 3))=.ok (goInt 2) V:=by
     rw[hV]
     have h9:=run_copy_row (P:=Tryd.prog) (w3.alloc (.cells #[I O (r - 32),I O (-33)] 3)) 22 22 3 3 g a 2 (n - a) ⟨w3.heap.size,0,none⟩ 2 2 (z2.map (Value.int .i64)).toArray 3 (([r - 32,-33].map (Value.int .i64)).take 2) Tryd.underlying22 (by kernel_rfl) hg4 rfl lit_src (by have h1:=HFIT.out.1;simp[hlen3] <;> omega) (by intro v hv;simp at hv;first | (rcases hv with rfl | rfl <;> rfl) | (subst hv;rfl))
     rw[List.append_assoc] at h9
     exact h9
   have SV:Hid (SheetAt V B p g n W H 0 (Y1:Int) false (putZ a 2 (r - 32) (-33) z2)∧Touch w3 V [p,g]):=by rw[hV];exact HSP.out
   clear SP hs3 ht3 y0 y3 y4 hgx hgl hg4 hlen3 hV HSP
   go_wp2_with fail
   refine(qo.out _ _ _ SV.out.1).mono ?_
   rintro e w5 ⟨rfl,hs5,ht5⟩
   have S5:Hid (_∧_):=⟨hs5,(T3.out.trans SV.out.2).trans ht5⟩
   clear hs5 ht5
   go_wp2
   refine bodyPost_end (v:=.tuple #[]) (by simp[results,Tryd.results95,go_sem]) rfl ⟨rfl,S5.out.1,S5.out.2⟩
 · subst k1
   subst k2
   obtain rfl:a=pp:=HX1.out rfl
   have qn:Hid (∀ w',SheetAt w' B p g n W H X Y false zs→Calls Tryd.prog 94 #[.pointer (some ⟨p,0,none⟩),I O 0] w' fun e w''=>e=.returned (.tuple #[])∧SheetAt w'' B p g n W H 0 (Y1:Int) false z1∧Touch w' w'' [p,g]):=fun w' h=>by
     rw[k4,← k3];have h7:=goDown_any p g n B W H X Y 0 _ zs w' h hW hW2 hWn hn hH hH2 hY hY2;rw[show clampG 0 (W:Int)=0 from by unfold clampG;omega] at h7;exact h7
   have dk:decide ((W:Int) < X+2)=true:=decide_eq_true k0
   clear k3 k4 hai HX1 HAX k0
   go_enter Tryd.func95,Tryd.ntmps95
   go_wp2_with fail
   refine(qw.out _).mono ?_
   rintro e w1 ⟨rfl,rfl⟩
   go_wp2
   go_quiet (fail)
   go_wp2_with fail
   refine(qn.out _ (HS.out.drewN _)).mono ?_
   rintro e w2 ⟨rfl,hs2,ht2⟩
   have S2:Hid (SheetAt w2 B p g n W H 0 (Y1:Int) false z1):=hs2
   have T2:Hid (Touch w1 w2 [p,g]):=(touch_drewN (Touch.refl w1 _) _).trans ht2
   clear y0 y3 y4 y5
   have y0:w2.cell? ⟨p,0,none⟩=some (I O W):=bxc hs2.box rfl
   have y3:w2.cell? ⟨p,3,none⟩=some (I O 0):=bxc hs2.box rfl
   have y4:w2.cell? ⟨p,4,none⟩=some (I O Y1):=bxc hs2.box rfl
   clear hs2 ht2
   go_wp2
   go_quiet (fail)
   go_wp2_with fail
   refine(qb.out _ _ _ _ (S2.out.drewN _)).mono ?_
   rintro e w3 ⟨rfl,hs3,ht3⟩
   have T3:Hid (Touch w1 w3 [p,g]):=(touch_drewN T2.out _).trans ht3
   have S3:Hid (SheetAt w3 B p g n W H 0 (Y1:Int) false z2):=hs3
   have y2:w3.cell? ⟨p,2,none⟩=some (Sz (some ⟨g,0,none⟩) n n):=bxc hs3.box rfl
   have hgx:=(row_exact HFIT.out.2 hs3.row).2.1
   have hgl:=box_lt hgx
   have hlen3:=hs3.len
   have hg4:(w3.alloc (.cells #[I O (r - 32),I O (-33)] 3)).heap[g]?=some (.cells (z2.map (Value.int .i64)).toArray 3 (0,0)):=(heap_alloc_old _ _ hgl).trans hgx
   have SP:=sheet_put (a:=a) (d:=2) (v:=r - 32) (h:=-33) S3.out HFIT.out.2 (by omega) HFIT.out.1 (.cells #[I O (r - 32),I O (-33)] 3)
   have HSP:Hid (SheetAt ((w3.alloc (.cells #[I O (r - 32),I O (-33)] 3)).setRow g ((z2.map (Value.int .i64)).take a++((([r - 32,-33].map (Value.int .i64)).take 2)++(z2.map (Value.int .i64)).drop (a+(([r - 32,-33].map (Value.int .i64)).take 2).length))).toArray) B p g n W H 0 (Y1:Int) false (putZ a 2 (r - 32) (-33) z2)∧Touch w3 ((w3.alloc (.cells #[I O (r - 32),I O (-33)] 3)).setRow g ((z2.map (Value.int .i64)).take a++((([r - 32,-33].map (Value.int .i64)).take 2)++(z2.map (Value.int .i64)).drop (a+(([r - 32,-33].map (Value.int .i64)).take 2).length))).toArray) [p,g]):=SP
   obtain⟨V,hV⟩:∃ V,V=((w3.alloc (.cells #[I O (r - 32),I O (-33)] 3)).setRow g ((z2.map (Value.int .i64)).take a++((([r - 32,-33].map (Value.int .i64)).take 2)++(z2.map (Value.int .i64)).drop (a+(([r - 32,-33].map (Value.int .i64)).take 2).length))).toArray):=⟨_,rfl⟩
   have hcp:(Builtin.copy_ #[22,22] 3 #[Sz (some ⟨g,a,none⟩) 2 (n - a),Sz (some ⟨w3.heap.size,0,none⟩) 2 2]).run Tryd.prog (w3.alloc (.cells #[I O (r - 32),I O (-33)] 3))=.ok (goInt 2) V:=by
     rw[hV]
     have h9:=run_copy_row (P:=Tryd.prog) (w3.alloc (.cells #[I O (r - 32),I O (-33)] 3)) 22 22 3 3 g a 2 (n - a) ⟨w3.heap.size,0,none⟩ 2 2 (z2.map (Value.int .i64)).toArray 3 (([r - 32,-33].map (Value.int .i64)).take 2) Tryd.underlying22 (by kernel_rfl) hg4 rfl lit_src (by have h1:=HFIT.out.1;simp[hlen3] <;> omega) (by intro v hv;simp at hv;first | (rcases hv with rfl | rfl <;> rfl) | (subst hv;rfl))
     rw[List.append_assoc] at h9
     exact h9
   have SV:Hid (SheetAt V B p g n W H 0 (Y1:Int) false (putZ a 2 (r - 32) (-33) z2)∧Touch w3 V [p,g]):=by rw[hV];exact HSP.out
   clear SP hs3 ht3 y0 y3 y4 hgx hgl hg4 hlen3 hV HSP
   go_wp2_with fail
   refine(qo.out _ _ _ SV.out.1).mono ?_
   rintro e w5 ⟨rfl,hs5,ht5⟩
   have S5:Hid (_∧_):=⟨hs5,(T3.out.trans SV.out.2).trans ht5⟩
   clear hs5 ht5
   go_wp2
   refine bodyPost_end (v:=.tuple #[]) (by simp[results,Tryd.results95,go_sem]) rfl ⟨rfl,S5.out.1,S5.out.2⟩
 · subst k1
   subst k2
   subst k3
   subst k4
   have dk:decide ((W:Int) < (X1:Int)+2)=false:=decide_eq_false (by omega)
   clear k0 HX1 HAX
   go_enter Tryd.func95,Tryd.ntmps95
   go_wp2_with fail
   refine(qw.out _).mono ?_
   rintro e w1 ⟨rfl,rfl⟩
   go_wp2
   go_quiet (fail)
   go_wp2
   go_quiet (fail)
   go_wp2_with fail
   refine(qb.out _ _ _ _ (HS.out.drewN _)).mono ?_
   rintro e w3 ⟨rfl,hs3,ht3⟩
   have T3:Hid (Touch w1 w3 [p,g]):=(touch_drewN (Touch.refl w1 _) _).trans ht3
   have S3:Hid (SheetAt w3 B p g n W H (X1:Int) (Y1:Int) false z2):=hs3
   have y2:w3.cell? ⟨p,2,none⟩=some (Sz (some ⟨g,0,none⟩) n n):=bxc hs3.box rfl
   have hgx:=(row_exact HFIT.out.2 hs3.row).2.1
   have hgl:=box_lt hgx
   have hlen3:=hs3.len
   have hg4:(w3.alloc (.cells #[I O (r - 32),I O (-33)] 3)).heap[g]?=some (.cells (z2.map (Value.int .i64)).toArray 3 (0,0)):=(heap_alloc_old _ _ hgl).trans hgx
   have SP:=sheet_put (a:=a) (d:=2) (v:=r - 32) (h:=-33) S3.out HFIT.out.2 (by omega) HFIT.out.1 (.cells #[I O (r - 32),I O (-33)] 3)
   have HSP:Hid (SheetAt ((w3.alloc (.cells #[I O (r - 32),I O (-33)] 3)).setRow g ((z2.map (Value.int .i64)).take a++((([r - 32,-33].map (Value.int .i64)).take 2)++(z2.map (Value.int .i64)).drop (a+(([r - 32,-33].map (Value.int .i64)).take 2).length))).toArray) B p g n W H (X1:Int) (Y1:Int) false (putZ a 2 (r - 32) (-33) z2)∧Touch w3 ((w3.alloc (.cells #[I O (r - 32),I O (-33)] 3)).setRow g ((z2.map (Value.int .i64)).take a++((([r - 32,-33].map (Value.int .i64)).take 2)++(z2.map (Value.int .i64)).drop (a+(([r - 32,-33].map (Value.int .i64)).take 2).length))).toArray) [p,g]):=SP
   obtain⟨V,hV⟩:∃ V,V=((w3.alloc (.cells #[I O (r - 32),I O (-33)] 3)).setRow g ((z2.map (Value.int .i64)).take a++((([r - 32,-33].map (Value.int .i64)).take 2)++(z2.map (Value.int .i64)).drop (a+(([r - 32,-33].map (Value.int .i64)).take 2).length))).toArray):=⟨_,rfl⟩
   have hcp:(Builtin.copy_ #[22,22] 3 #[Sz (some ⟨g,a,none⟩) 2 (n - a),Sz (some ⟨w3.heap.size,0,none⟩) 2 2]).run Tryd.prog (w3.alloc (.cells #[I O (r - 32),I O (-33)] 3))=.ok (goInt 2) V:=by
     rw[hV]
     have h9:=run_copy_row (P:=Tryd.prog) (w3.alloc (.cells #[I O (r - 32),I O (-33)] 3)) 22 22 3 3 g a 2 (n - a) ⟨w3.heap.size,0,none⟩ 2 2 (z2.map (Value.int .i64)).toArray 3 (([r - 32,-33].map (Value.int .i64)).take 2) Tryd.underlying22 (by kernel_rfl) hg4 rfl lit_src (by have h1:=HFIT.out.1;simp[hlen3] <;> omega) (by intro v hv;simp at hv;first | (rcases hv with rfl | rfl <;> rfl) | (subst hv;rfl))
     rw[List.append_assoc] at h9
     exact h9
   have SV:Hid (SheetAt V B p g n W H (X1:Int) (Y1:Int) false (putZ a 2 (r - 32) (-33) z2)∧Touch w3 V [p,g]):=by rw[hV];exact HSP.out
   clear SP hs3 ht3 y0 y3 y4 hgx hgl hg4 hlen3 hV HSP y5
   go_wp2_with fail
   refine(qo.out _ _ _ SV.out.1).mono ?_
   rintro e w5 ⟨rfl,hs5,ht5⟩
   have S5:Hid (_∧_):=⟨hs5,(T3.out.trans SV.out.2).trans ht5⟩
   clear hs5 ht5
   go_wp2
   refine bodyPost_end (v:=.tuple #[]) (by simp[results,Tryd.results95,go_sem]) rfl ⟨rfl,S5.out.1,S5.out.2⟩
end Go.Proofs.YthodinpflcbklaaDoor
namespace Go.Proofs.YthodinpflcbklaaDoor
open Go.RowKit
def otherM(zs:List Int)(i:Nat):Int:=if wd (at0 zs i)=2 then (i:Int)+1 else if at0 zs i=-1 then (i:Int) - 1 else (i:Int)
def goesM(x y:Int)(zs:List Int)(i:Nat):Bool:=decide (x≤(i:Int))&&decide ((i:Int) < y)||decide (x≤otherM zs i)&&decide (otherM zs i < y)
def clrM(x y:Int)(zs:List Int):List Int:=(List.range zs.length).map fun i=>if goesM x y zs i=true then 32 else at0 zs i
theorem clrM_len{x y:Int}{zs:List Int}:(clrM x y zs).length=zs.length:=by unfold clrM;simp
theorem clrM_at{x y:Int}{zs:List Int}{i:Nat}(h:i < zs.length):at0 (clrM x y zs) i=if goesM x y zs i=true then 32 else at0 zs i:=by
 unfold clrM
 conv=>lhs;unfold at0
 rw[List.getElem?_map,List.getElem?_range h]
 rfl
end Go.Proofs.YthodinpflcbklaaDoor
