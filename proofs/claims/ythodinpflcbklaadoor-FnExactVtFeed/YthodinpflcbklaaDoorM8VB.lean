/-
  Parts of the road to VB, joined: GrMS, GrMG, Tm, TmB, TmC.
-/
import Derived.Test.YthodinpflcbklaaDoorM7VB
import Derived.Deep.RegionHeld3
import Derived.Laws.EntriesVeiled
import Derived.Deep.AppendLies
open Go.Value renaming int → I,slice → Sz
open Go.IntKind renaming i64 → O
open List renaming setIfInBounds_toArray → lA,getElem_toArray → lB,getElem_cons_succ → lC,getElem_cons_zero → lD,set_cons_zero → lE,set_cons_succ → lF
set_option linter.unusedVariables false
set_option linter.unusedSimpArgs false
set_option maxHeartbeats 40000000
namespace Go.Proofs.YthodinpflcbklaaDoor
open Go.RowKit
set_option maxRecDepth 100000
def scr(b:Int)(W:Nat)(zs:List Int):List Int:=zs.drop W++List.replicate W b
theorem scr_len{b:Int}{W:Nat}{zs:List Int}(h:W≤zs.length):(scr b W zs).length=zs.length:=by unfold scr;simp;omega
theorem scr_src{w:World}{g W:Nat}{zs:List Int}(h:w.heap[g]?=some (.cells (zs.map (Value.int .i64)).toArray 3 (0,0))):∀ j v,((zs.drop W).map (Value.int .i64))[j]?=some v→w.cell? ((⟨g,W,none⟩:Addr).add j)=some v:=by
 intro j v hv
 have e:(⟨g,W,none⟩:Addr).add j=⟨g,W+j,none⟩:=by cases j <;> simp[Addr.add]
 rw[e]
 refine bxc h ?_
 rw[List.map_drop,List.getElem?_drop] at hv
 simpa using hv
theorem scr_step(W:Nat)(zs:List Int)(h:W≤zs.length):
   (((zs.drop W).map (Value.int .i64)++(zs.map (Value.int .i64)).drop (zs.length - W)).take (zs.length - W)++(List.replicate W (Value.int .i64 0)++((zs.drop W).map (Value.int .i64)++(zs.map (Value.int .i64)).drop (zs.length - W)).drop (zs.length - W+W)))=(scr 0 W zs).map (Value.int .i64):=by
 have l1:((zs.drop W).map (Value.int .i64)).length=zs.length - W:=by simp
 rw[List.take_append_of_le_length (by omega),List.take_of_length_le (by omega)]
 have l2:((zs.drop W).map (Value.int .i64)++(zs.map (Value.int .i64)).drop (zs.length - W)).drop (zs.length - W+W)=[]:=by
   apply List.drop_eq_nil_of_le
   simp;omega
 rw[l2,List.append_nil]
 unfold scr
 simp
set_option maxRecDepth 100000 in
theorem scroll_any (p g n B W:Nat) (H X Y:Int) (wr:Bool) (zs:List Int) (w:World) (hs:SheetAt w B p g n W H X Y wr zs) (hW:2≤W) (hWn:W≤n) (hn:n≤8000) :
   Calls Tryd.prog 104 #[.pointer (some ⟨p,0,none⟩)] w fun e w'=>e=.returned (.tuple #[])∧SheetAt w' B p g n W H X Y wr (scr 0 W zs)∧Touch w w' [p,g]:=by
 obtain⟨hBg,hgx,hmx⟩:=row_exact (by omega) hs.row
 have hlen:=hs.len
 have y0:w.cell? ⟨p,0,none⟩=some (I O W):=bxc hs.box rfl
 have y2:w.cell? ⟨p,2,none⟩=some (Sz (some ⟨g,0,none⟩) n n):=bxc hs.box rfl
 obtain⟨m,hm⟩:∃ m,n=m+W:=⟨n - W,by omega⟩
 have HS:Hid (SheetAt w B p g n W H X Y wr zs):=hs
 have HG:Hid (w.heap[g]?=some (.cells (zs.map (Value.int .i64)).toArray 3 (0,0))):=hgx
 have HL:Hid (zs.length=n∧n=m+W∧n≤maxLen∧B≤g):=⟨hlen,hm,hmx,hBg⟩
 have hmn:n - W=m:=by omega
 have hmn':n - m=W:=by omega
 have hm1:(m:Int)≤(n:Int):=by omega
 have hm2:¬ n=m:=by omega
 obtain⟨V,hV⟩:∃ V,V=w.drew.setRow g ((zs.map (Value.int .i64)).take 0++((zs.drop W).map (Value.int .i64)++(zs.map (Value.int .i64)).drop (0+((zs.drop W).map (Value.int .i64)).length))).toArray:=⟨_,rfl⟩
 have hVg:V.heap[g]?=some (.cells ((zs.drop W).map (Value.int .i64)++(zs.map (Value.int .i64)).drop (zs.length - W)).toArray 3 (0,0)):=by
   rw[hV]
   have:=setRow_heap w.drew g (zs.map (Value.int .i64)).toArray ((zs.map (Value.int .i64)).take 0++((zs.drop W).map (Value.int .i64)++(zs.map (Value.int .i64)).drop (0+((zs.drop W).map (Value.int .i64)).length))).toArray 3 (0,0) hgx
   rw[this]
   simp
 have hVp:V.heap[p]?=some (.cells #[I O W,I O H,Sz (some ⟨g,0,none⟩) n n,I O X,I O Y,.bool wr] 84 (0,0)):=by rw[hV];exact(setRow_other _ _ _ _ hs.ne).trans hs.box
 have tV:Touch w V [g]:=by rw[hV];exact⟨rfl,rfl,rfl,by simp[World.setRow],fun i hi hf=>setRow_other w.drew _ _ _ (fun e=>hf (by simp[e]))⟩
 have hcl:∀ ty c,(Builtin.clear_ #[22] ty #[Sz (some ⟨g,m,none⟩) W c]).run Tryd.prog V=.ok (.tuple #[]) (V.setCells g m (List.replicate W (I O 0))):=fun ty c=>clear_ints hVg (by omega) (by simp;omega)
 have HV:Hid (V=_∧V.heap[p]?=some (.cells #[I O W,I O H,Sz (some ⟨g,0,none⟩) n n,I O X,I O Y,.bool wr] 84 (0,0))∧Touch w V [g]):=⟨hV,hVp,tV⟩
 have HF:Hid ((V.setCells g m (List.replicate W (I O 0))).heap[g]?=some (.cells ((scr 0 W zs).map (Value.int .i64)).toArray 3 (0,0))):=by
   have:=setCells_row (List.replicate W (Value.int .i64 0)) m V _ hVg (by simp;omega)
   show _=_
   rw[this,List.length_replicate]
   have e:=scr_step W zs (by omega)
   rw[hlen,hmn] at e
   rw[hlen,hmn,e]
 have z0:V.cell? ⟨p,2,none⟩=some (Sz (some ⟨g,0,none⟩) n n):=bxc hVp rfl
 obtain⟨sa,hsa,hsrc⟩:∃ sa:Addr,(if m=0 then (some ⟨g,0,none⟩:Option Addr) else some ⟨g,W,none⟩)=some sa∧∀ j v,((zs.drop W).map (Value.int .i64))[j]?=some v→w.cell? (sa.add j)=some v:=by
   by_cases h0:m=0
   · refine⟨_,if_pos h0,fun j v hv=>?_⟩
     have:j < ((zs.drop W).map (Value.int .i64)).length:=(List.getElem?_eq_some_iff.1 hv).1
     simp at this;omega
   · exact⟨_,if_neg h0,scr_src hgx⟩
 have HSRC:Hid (∀ j v,((zs.drop W).map (Value.int .i64))[j]?=some v→w.cell? (sa.add j)=some v):=hsrc
 have hWm:(W:Int)≤(m:Int)+(W:Int):=by omega
 have HMN:Hid (m≤n):=by show m≤n;omega
 clear hs hgx hV hVg hVp tV hsrc
 go_enter Tryd.func104,Tryd.ntmps104
 go_wp2_with fail
 refine wp_region_held_drew (S:=fun w'=>w'.cell? ⟨p,0,none⟩=some (I O W)∧w'.cell? ⟨p,2,none⟩=some (Sz (some ⟨g,0,none⟩) n n)) (by kernel_rfl) (show w.cell? _=_∧w.cell? _=_ from ⟨y0,y2⟩) (fun hHeld=>?_)
 refine wpAnyH_take (i:=0) (v:=.pointer (some ⟨p,0,none⟩)) rfl (by kernel_rfl) (by kernel_rfl) (by kernel_rfl) (fun _ _ _ h=>h) (Or.inl ⟨by kernel_rfl,?_⟩) (by assumption) ?_
 · intro w9 hSw;(try dsimp only at hSw);go_simp
 simp only[Act.put,lB,lC,lD,lA,lE,lF]
 refine wpAnyH_take (i:=1) (v:=.pointer (some ⟨p,0,none⟩)) rfl (by kernel_rfl) (by kernel_rfl) (by kernel_rfl) (fun _ _ _ h=>h) (Or.inl ⟨by kernel_rfl,?_⟩) (by assumption) ?_
 · intro w9 hSw;(try dsimp only at hSw);go_simp
 simp only[Act.put,lB,lC,lD,lA,lE,lF]
 refine wpAnyH_take (i:=2) (v:=.pointer (some ⟨p,2,none⟩)) rfl (by kernel_rfl) (by kernel_rfl) (by kernel_rfl) (fun _ _ _ h=>h) (Or.inl ⟨by kernel_rfl,?_⟩) (by assumption) ?_
 · intro w9 hSw;(try dsimp only at hSw);go_simp
 simp only[Act.put,lB,lC,lD,lA,lE,lF]
 refine wpAnyH_take (i:=3) (v:=Sz (some ⟨g,0,none⟩) n n) rfl (by kernel_rfl) (by kernel_rfl) (by kernel_rfl) (fun _ _ _ h=>h) (Or.inl ⟨by kernel_rfl,?_⟩) (by assumption) ?_
 · intro w9 hSw;(try dsimp only at hSw);go_simp
 simp only[Act.put,lB,lC,lD,lA,lE,lF]
 refine wpAnyH_take (i:=4) (v:=.pointer (some ⟨p,0,none⟩)) rfl (by kernel_rfl) (by kernel_rfl) (by kernel_rfl) (fun _ _ _ h=>h) (Or.inl ⟨by kernel_rfl,?_⟩) (by assumption) ?_
 · intro w9 hSw;(try dsimp only at hSw);go_simp
 simp only[Act.put,lB,lC,lD,lA,lE,lF]
 refine wpAnyH_take (i:=5) (v:=.pointer (some ⟨p,0,none⟩)) rfl (by kernel_rfl) (by kernel_rfl) (by kernel_rfl) (fun _ _ _ h=>h) (Or.inl ⟨by kernel_rfl,?_⟩) (by assumption) ?_
 · intro w9 hSw;(try dsimp only at hSw);go_simp
 simp only[Act.put,lB,lC,lD,lA,lE,lF]
 refine wpAnyH_take (i:=6) (v:=.pointer (some ⟨p,2,none⟩)) rfl (by kernel_rfl) (by kernel_rfl) (by kernel_rfl) (fun _ _ _ h=>h) (Or.inl ⟨by kernel_rfl,?_⟩) (by assumption) ?_
 · intro w9 hSw;(try dsimp only at hSw);go_simp
 simp only[Act.put,lB,lC,lD,lA,lE,lF]
 refine wpAnyH_take (i:=7) (v:=Sz (some ⟨g,0,none⟩) n n) rfl (by kernel_rfl) (by kernel_rfl) (by kernel_rfl) (fun _ _ _ h=>h) (Or.inl ⟨by kernel_rfl,?_⟩) (by assumption) ?_
 · intro w9 hSw;(try dsimp only at hSw);go_simp
 simp only[Act.put,lB,lC,lD,lA,lE,lF]
 refine wpAnyH_take (i:=8) (v:=.pointer (some ⟨p,0,none⟩)) rfl (by kernel_rfl) (by kernel_rfl) (by kernel_rfl) (fun _ _ _ h=>h) (Or.inl ⟨by kernel_rfl,?_⟩) (by assumption) ?_
 · intro w9 hSw;(try dsimp only at hSw);go_simp
 simp only[Act.put,lB,lC,lD,lA,lE,lF]
 refine wpAnyH_take (i:=9) (v:=.pointer (some ⟨p,0,none⟩)) rfl (by kernel_rfl) (by kernel_rfl) (by kernel_rfl) (fun _ _ _ h=>h) (Or.inl ⟨by kernel_rfl,?_⟩) (by assumption) ?_
 · intro w9 hSw;(try dsimp only at hSw);go_simp
 simp only[Act.put,lB,lC,lD,lA,lE,lF]
 refine wpAnyH_take (i:=10) (v:=.pointer (some ⟨p,0,none⟩)) rfl (by kernel_rfl) (by kernel_rfl) (by kernel_rfl) (fun _ _ _ h=>h) (Or.inl ⟨by kernel_rfl,?_⟩) (by assumption) ?_
 · intro w9 hSw;(try dsimp only at hSw);go_simp
 simp only[Act.put,lB,lC,lD,lA,lE,lF]
 refine wpAnyH_take (i:=11) (v:=I O W) rfl (by kernel_rfl) (by kernel_rfl) (by kernel_rfl) (fun _ _ _ h=>h) (Or.inl ⟨by kernel_rfl,?_⟩) (by assumption) ?_
 · intro w9 hSw;(try dsimp only at hSw);go_simp
 simp only[Act.put,lB,lC,lD,lA,lE,lF]
 refine wpAnyH_take (i:=12) (v:=Sz (some sa) m m) rfl (by kernel_rfl) (by kernel_rfl) (by kernel_rfl) (fun _ _ _ h=>h) (Or.inl ⟨by kernel_rfl,?_⟩) (by assumption) ?_
 · intro w9 hSw;(try dsimp only at hSw);go_simp
 simp only[Act.put,lB,lC,lD,lA,lE,lF]
 refine wpAnyH_ready (rs:=[13]) (by kernel_rfl) (by simp) ?_
 refine AllReadyH.cons rfl (fun K hK=>?_) AllReadyH.nil
 refine step_copy_row rfl _ _ 22 22 (by rfl) 3 Tryd.underlying22 (by kernel_rfl) n n m m g 0 sa (by rfl) (by rfl) (zs.map (Value.int .i64)) 3 HG.out ((zs.drop W).map (Value.int .i64)) ?k1 ?k2 ?k3 ?k4 ?_
 case k1=>show _=Nat.min m n;rw[show Nat.min m n=m from Nat.min_eq_left HMN.out];have:=HL.out.1;have:=HL.out.2.1;simp;omega
 case k2=>exact HSRC.out
 case k3=>simp
 case k4=>intro v hv;obtain⟨z,_,rfl⟩:=List.mem_map.1 hv;rfl
 rw[← HV.out.1]
 refine hK.out _ _ (show V.cell? _=_∧V.cell? _=_ from ⟨bxc HV.out.2.1 rfl,z0⟩) (fun hHeld13=>?_)
 clear hK
 refine wpAnyH_take (i:=14) (v:=I O m) rfl (by kernel_rfl) (by kernel_rfl) (by kernel_rfl) (fun _ _ _ h=>h) (Or.inl ⟨by kernel_rfl,?_⟩) (by assumption) ?_
 · intro w9 hSw;(try dsimp only at hSw);go_simp
 simp only[Act.put,lB,lC,lD,lA,lE,lF]
 refine wpAnyH_done (by kernel_rfl) ?_ _
 go_wp2
 refine bodyPost_end (v:=.tuple #[]) (by simp[results,Tryd.results104,go_sem]) rfl ⟨rfl,⟨?_,?_,?_,HS.out.lo,HS.out.ne⟩,?_⟩
 · exact(((touch_setCells (List.replicate W (Value.int .i64 0)) m V).block p (box_lt HV.out.2.1) (by simp;exact HS.out.ne))).trans HV.out.2.1
 · exact exact_row HL.out.2.2.2 (by rw[scr_len (by have:=HL.out.1;omega)];exact HL.out.1) HL.out.2.2.1 HF.out
 · rw[scr_len (by have:=HL.out.1;omega)];exact HL.out.1
 · exact(HV.out.2.2.trans (touch_setCells _ _ _)).mono fun z hz=>by simp at hz;simp[hz]
end Go.Proofs.YthodinpflcbklaaDoor
namespace Go.Proofs.YthodinpflcbklaaDoor
open Go.RowKit
set_option maxRecDepth 100000
theorem belowD'{B:Nat}{w w':World}(h:Below B w w')(q:Nat):Below B w (w'.drewN q):=by
 induction q with
 | zero=>exact h
 | succ q ih=>exact ih.drew
theorem SheetAt.setX{w:World}{B p g n:Nat}{W H X Y:Int}{wr:Bool}{zs:List Int}(h:SheetAt w B p g n W H X Y wr zs)(X':Int):SheetAt (w.setCell ⟨p,3,none⟩ (I O X')) B p g n W H X' Y wr zs:=
 ⟨by have:=box_set (j:=3) (I O X') h.box;simpa using this,own_off h.row p 3 _ h.ne,h.len,h.lo,h.ne⟩
theorem SheetAt.setWr{w:World}{B p g n:Nat}{W H X Y:Int}{wr:Bool}{zs:List Int}(h:SheetAt w B p g n W H X Y wr zs)(v:Bool):SheetAt (w.setCell ⟨p,5,none⟩ (.bool v)) B p g n W H X Y v zs:=
 ⟨by have:=box_set (j:=5) (.bool v) h.box;simpa using this,own_off h.row p 5 _ h.ne,h.len,h.lo,h.ne⟩
theorem SheetAt.drewN{w:World}{B p g n:Nat}{W H X Y:Int}{wr:Bool}{zs:List Int}(h:SheetAt w B p g n W H X Y wr zs)(q:Nat):SheetAt (w.drewN q) B p g n W H X Y wr zs:=
 h.later (belowD' (Below.refl _ _) q)
theorem touch_drewN{w w':World}{F:List Nat}(h:Touch w w' F)(q:Nat):Touch w (w'.drewN q) F:=h.trans (Touch.of_below (belowD' (Below.refl _ _) q) F)
set_option maxRecDepth 100000 in
theorem goOn_any (p g n B:Nat) (W H X Y d:Int) (wr:Bool) (zs:List Int) (w:World) (hs:SheetAt w B p g n W H X Y wr zs) (hX:0≤X) (hX2:X≤1000) (hd:0≤d) (hd2:d≤2) :
   Calls Tryd.prog 106 #[.pointer (some ⟨p,0,none⟩),I O d] w fun e w'=>e=.returned (.tuple #[])∧SheetAt w' B p g n W H (if X+d=W then X+d - 1 else X+d) Y (if X+d=W then true else wr) zs∧Touch w w' [p,g]:=by
 obtain⟨X2,hX2'⟩:∃ X2,X+d=X2:=⟨_,rfl⟩
 rw[hX2']
 have y0:w.cell? ⟨p,0,none⟩=some (I O W):=bxc hs.box rfl
 have y3:w.cell? ⟨p,3,none⟩=some (I O X):=bxc hs.box rfl
 have f3:w.frozen? ⟨p,3,none⟩=false:=box_frozen hs.box
 have h1:=(hs.setX X2)
 have z0:(w.setCell ⟨p,3,none⟩ (I O X2)).cell? ⟨p,0,none⟩=some (I O W):=bxc h1.box rfl
 have z3:(w.setCell ⟨p,3,none⟩ (I O X2)).cell? ⟨p,3,none⟩=some (I O X2):=bxc h1.box rfl
 have z5:∀ q,(((w.setCell ⟨p,3,none⟩ (I O X2)).drewN q).setCell ⟨p,3,none⟩ (I O (X2 - 1))).cell? ⟨p,5,none⟩=some (.bool wr):=fun q=>bxc ((h1.drewN q).setX (X2 - 1)).box rfl
 have zf3:(w.setCell ⟨p,3,none⟩ (I O X2)).frozen? ⟨p,3,none⟩=false:=box_frozen h1.box
 have zf5:∀ q,(((w.setCell ⟨p,3,none⟩ (I O X2)).drewN q).setCell ⟨p,3,none⟩ (I O (X2 - 1))).frozen? ⟨p,5,none⟩=false:=fun q=>box_frozen ((h1.drewN q).setX (X2 - 1)).box
 have H1:Hid (SheetAt (w.setCell ⟨p,3,none⟩ (I O X2)) B p g n W H X2 Y wr zs):=h1
 have HT1:Hid (Touch w (w.setCell ⟨p,3,none⟩ (I O X2)) [p,g]):=Touch.set w p 3 _ (by simp)
 have HT3:Hid (∀ q,Touch w ((((w.setCell ⟨p,3,none⟩ (I O X2)).drewN q).setCell ⟨p,3,none⟩ (I O (X2 - 1))).setCell ⟨p,5,none⟩ (.bool true)) [p,g]):=fun q=>((touch_drewN HT1.out q).trans (Touch.set _ p 3 _ (by simp))).trans (Touch.set _ p 5 _ (by simp))
 have wX:IntKind.i64.wrap X2=X2:=wrap_i64_in _ (by omega) (by omega)
 clear h1 hs
 by_cases he:X2=W
 · have e1:(X2==W)=true:=by simp[he]
   have wX1:IntKind.i64.wrap (X2 - 1)=X2 - 1:=by simp[IntKind.wrap,IntKind.bits,IntKind.signed];omega
   rw[if_pos he,if_pos he]
   clear he
   go_enter Tryd.func106,Tryd.ntmps106
   go_wp2
   go_quiet (fail)
   go_wp2
   refine bodyPost_end (v:=.tuple #[]) (by simp[results,Tryd.results106,go_sem]) rfl ⟨rfl,?_,HT3.out _⟩
   exact((H1.out.drewN _).setX (X2 - 1)).setWr true
 · have e1:(X2==W)=false:=by simpa using he
   rw[if_neg he,if_neg he]
   clear he
   go_enter Tryd.func106,Tryd.ntmps106
   go_wp2
   go_quiet (fail)
   go_wp2
   refine bodyPost_end (v:=.tuple #[]) (by simp[results,Tryd.results106,go_sem]) rfl ⟨rfl,H1.out.drewN _,touch_drewN HT1.out _⟩
set_option maxRecDepth 100000 in
theorem goDown_any (p g n B W:Nat) (H X Y x:Int) (wr:Bool) (zs:List Int) (w:World) (hs:SheetAt w B p g n W H X Y wr zs) (hW:2≤W) (hW2:W≤200) (hWn:W≤n) (hn:n≤8000) (hH:1≤H) (hH2:H≤200) (hY:0≤Y) (hY2:Y < H) :
   Calls Tryd.prog 94 #[.pointer (some ⟨p,0,none⟩),I O x] w fun e w'=>e=.returned (.tuple #[])∧SheetAt w' B p g n W H (clampG x (W:Int)) (clampG (Y+1) H) false (if Y=H - 1 then scr 0 W zs else zs)∧Touch w w' [p,g]:=by
 have y1:w.cell? ⟨p,1,none⟩=some (I O H):=bxc hs.box rfl
 have y4:w.cell? ⟨p,4,none⟩=some (I O Y):=bxc hs.box rfl
 have HS:Hid (SheetAt w B p g n W H X Y wr zs):=hs
 have wH:IntKind.i64.wrap (H - 1)=H - 1:=wrap_i64_in _ (by omega) (by omega)
 have wY:IntKind.i64.wrap (Y+1)=Y+1:=wrap_i64_in _ (by omega) (by omega)
 have qm:Hid (∀ w' zs',SheetAt w' B p g n W H X Y wr zs'→Calls Tryd.prog 93 #[.pointer (some ⟨p,0,none⟩),I O x,I O (Y+1)] w' fun e w''=>e=.returned (.tuple #[])∧SheetAt w'' B p g n W H (clampG x (W:Int)) (clampG (Y+1) H) false zs'∧Touch w' w'' [p]):=fun w' zs' h =>
   moveTo_any p g n B W H X Y x (Y+1) wr zs' w' h (by omega) (by omega) (by omega) (by omega)
 clear hs
 by_cases he:Y=H - 1
 · have e1:(Y==H - 1)=true:=by simp[he]
   rw[if_pos he]
   have qs:Hid (∀ w',SheetAt w' B p g n W H X Y wr zs→Calls Tryd.prog 104 #[.pointer (some ⟨p,0,none⟩)] w' fun e w''=>e=.returned (.tuple #[])∧SheetAt w'' B p g n W H X Y wr (scr 0 W zs)∧Touch w' w'' [p,g]):=fun w' h=>scroll_any p g n B W H X Y wr zs w' h hW hWn hn
   clear he
   go_enter Tryd.func94,Tryd.ntmps94
   go_wp2
   go_quiet (fail)
   go_wp2_with fail
   refine(qs.out _ (HS.out.drewN _)).mono ?_
   rintro e w2 ⟨rfl,hs2,ht2⟩
   have y4:w2.cell? ⟨p,4,none⟩=some (I O Y):=bxc hs2.box rfl
   have HS2:Hid (SheetAt w2 B p g n W H X Y wr (scr 0 W zs)):=hs2
   have HT2:Hid (Touch w w2 [p,g]):=(touch_drewN (Touch.refl w _) _).trans ht2
   clear hs2 ht2
   go_wp2_with fail
   refine(qm.out _ _ HS2.out).mono ?_
   rintro e w3 ⟨rfl,hs3,ht3⟩
   have HS3:Hid (SheetAt w3 B p g n W H (clampG x (W:Int)) (clampG (Y+1) H) false (scr 0 W zs)):=hs3
   have HT3:Hid (Touch w w3 [p,g]):=HT2.out.trans (ht3.mono fun z hz=>by simp at hz;simp[hz])
   clear hs3 ht3
   go_wp2
   refine bodyPost_end (v:=.tuple #[]) (by simp[results,Tryd.results94,go_sem]) rfl ⟨rfl,HS3.out,HT3.out⟩
 · have e1:(Y==H - 1)=false:=by simpa using he
   rw[if_neg he]
   clear he
   go_enter Tryd.func94,Tryd.ntmps94
   go_wp2
   go_quiet (fail)
   go_wp2_with fail
   refine(qm.out _ _ (HS.out.drewN _)).mono ?_
   rintro e w3 ⟨rfl,hs3,ht3⟩
   have HS3:Hid (SheetAt w3 B p g n W H (clampG x (W:Int)) (clampG (Y+1) H) false zs):=hs3
   have ht4:=ht3.mono (G:=[p,g]) fun z hz=>by simp at hz;simp[hz]
   have HT3:Hid (Touch w w3 [p,g]):=(touch_drewN (Touch.refl w _) _).trans ht4
   clear hs3 ht3 ht4
   go_wp2
   refine bodyPost_end (v:=.tuple #[]) (by simp[results,Tryd.results94,go_sem]) rfl ⟨rfl,HS3.out,HT3.out⟩
end Go.Proofs.YthodinpflcbklaaDoor
namespace Go.Proofs.YthodinpflcbklaaDoor
open Go.RowKit
structure TermAt (w:World) (B t p g n:Nat) (W H X Y:Int) (wr:Bool) (zs:List Int) (st:Int) (av:Value) (al:List Int) (pv:Value) (pl:List Int) (be:Int) (fv:Value):Prop where
 box:w.heap[t]?=some (.cells #[.pointer (some ⟨p,0,none⟩),I O st,av,pv,I O be,fv] 59 (0,0))
 sheet:SheetAt w B p g n W H X Y wr zs
 args:w.ownsRow B 3 1 av al.length (al.map (Value.int .i64))
 part:w.ownsRow B 5 1 pv pl.length (pl.map (Value.int .u8))
 lo:B≤t
 tp:t≠p
 tg:t≠g
 far:∀ k,av.ownBlock=some k→k≠t∧k≠p∧k≠g
 farP:∀ k,pv.ownBlock=some k→k≠t∧k≠p∧k≠g
 two:∀ k,av.ownBlock=some k→pv.ownBlock≠some k
theorem own_touch{w w':World}{B n:Nat}{e:TypeId}{size:Nat}{v:Value}{xs:List Value}{F:List Nat}(h:w.ownsRow B e size v n xs)(ht:Touch w w' F)(hd:∀ k,v.ownBlock=some k→k ∉ F):w'.ownsRow B e size v n xs:=by
 refine⟨h.1,?_⟩
 rcases h.2 with h1 | ⟨g,cap,cur,rfl,hb,hg,r⟩
 · exact .inl h1
 · refine .inr ⟨g,cap,cur,rfl,hb,?_,r⟩
   rw[ht.block g (Array.getElem?_eq_some_iff.1 hg).1 (hd g rfl)]
   exact hg
def Kp(B:Nat)(w w':World):Prop:=∀ w0,Below B w0 w→Below B w0 w'
theorem Kp.refl(B:Nat)(w:World):Kp B w w:=fun _ h=>h
theorem Kp.trans{B:Nat}{a b c:World}(h:Kp B a b)(k:Kp B b c):Kp B a c:=fun w0 x=>k w0 (h w0 x)
theorem TermAt.base{w:World}{B t p g n:Nat}{W H X Y:Int}{wr:Bool}{zs:List Int}{st:Int}{av:Value}{al:List Int}{pv:Value}{pl:List Int}{be:Int}{fv:Value}(h:TermAt w B t p g n W H X Y wr zs st av al pv pl be fv):B≤g∧g < w.heap.size∧B≤w.heap.size:=by
 have h1:=h.sheet.row.lt g rfl
 exact⟨h1.1,h1.2,by omega⟩
theorem TermAt.sheet'{w w':World}{B t p g n:Nat}{W H X Y:Int}{wr:Bool}{zs:List Int}{st:Int}{av:Value}{al:List Int}{pv:Value}{pl:List Int}{be:Int}{fv:Value}{X' Y':Int}{wr':Bool}{zs':List Int}{F:List Nat}(h:TermAt w B t p g n W H X Y wr zs st av al pv pl be fv)(ht:Touch w w' F)(hF:∀ k ∈ F,k=p∨k=g)(hs:SheetAt w' B p g n W H X' Y' wr' zs'):
   TermAt w' B t p g n W H X' Y' wr' zs' st av al pv pl be fv∧Kp B w w':=by
 have hb:=h.base
 have ht':∀ k,k≠p→k≠g→k ∉ F:=fun k h1 h2 hk=>by rcases hF k hk with e | e <;> omega
 refine⟨⟨(ht.block t (box_lt h.box) (ht' t h.tp h.tg)).trans h.box,hs,own_touch h.args ht (fun k hk=>ht' k (h.far k hk).2.1 (h.far k hk).2.2),own_touch h.part ht (fun k hk=>ht' k (h.farP k hk).2.1 (h.farP k hk).2.2),h.lo,h.tp,h.tg,h.far,h.farP,h.two⟩,fun w0 h0=>ht.below h0 hb.2.2 (fun k hk=>?_)⟩
 rcases hF k hk with e | e
 · rw[e];exact h.sheet.lo
 · rw[e];exact hb.1
theorem TermAt.drewN{w:World}{B t p g n:Nat}{W H X Y:Int}{wr:Bool}{zs:List Int}{st:Int}{av:Value}{al:List Int}{pv:Value}{pl:List Int}{be:Int}{fv:Value}(h:TermAt w B t p g n W H X Y wr zs st av al pv pl be fv)(q:Nat):TermAt (w.drewN q) B t p g n W H X Y wr zs st av al pv pl be fv:=
 ⟨h.box,h.sheet.drewN q,own_later h.args (belowD' (Below.refl _ _) q),own_later h.part (belowD' (Below.refl _ _) q),h.lo,h.tp,h.tg,h.far,h.farP,h.two⟩
theorem kp_drewN(B:Nat)(w:World)(q:Nat):Kp B w (w.drewN q):=fun w0 h=>belowD' h q
theorem own_formV{w:World}{B n:Nat}{e:TypeId}{size:Nat}{v:Value}{xs:List Value}(h:w.ownsRow B e size v n xs):∃ a c,v=Sz a n c:=by
 rcases h.2 with ⟨h1,h2⟩ | ⟨g,cap,cur,rfl,_⟩
 · exact⟨none,0,by rw[h1,h2]⟩
 · exact⟨_,_,rfl⟩
set_option maxRecDepth 100000 in
theorem arg_any (B t p g n i:Nat) (W H X Y:Int) (wr:Bool) (zs:List Int) (st:Int) (av:Value) (al:List Int) (pv:Value) (pl:List Int) (be:Int) (fv:Value) (w:World) (h:TermAt w B t p g n W H X Y wr zs st av al pv pl be fv) (hi:i≤1000) :
   Calls Tryd.prog 108 #[.pointer (some ⟨t,0,none⟩),I O i] w fun e w'=>e=.returned (I O (at0 al i))∧w'=w:=by
 obtain⟨a,c,hv⟩:=own_formV h.args
 subst hv
 have y2:w.cell? ⟨t,2,none⟩=some (Sz a al.length c):=bxc h.box rfl
 by_cases hlt:i < al.length
 · obtain⟨ga,ca,hf,_,_⟩:=own_form h.args (by omega)
   simp only[Value.slice.injEq,true_and] at hf
   obtain⟨rfl,rfl⟩:=hf
   have gc:w.cell? ⟨ga,i,none⟩=some (I O (at0 al i)):=by
     rw[h.args.cellAt i (by omega)]
     unfold at0
     simp[hlt]
   obtain⟨v,hv⟩:∃ v,v=at0 al i:=⟨_,rfl⟩
   rw[← hv] at gc ⊢
   obtain⟨L,hL⟩:∃ L,L=al.length:=⟨_,rfl⟩
   rw[← hL] at y2 hlt
   have d1:decide ((L:Int)≤(i:Int))=false:=decide_eq_false (by omega)
   have d2:(i:Int) < (L:Int):=by omega
   clear h hv hL
   go_enter Tryd.func108,Tryd.ntmps108
   go_wp2
   go_ret
   exact⟨rfl,rfl⟩
 · have e0:at0 al i=0:=by unfold at0;simp[hlt]
   rw[e0]
   obtain⟨L,hL⟩:∃ L,L=al.length:=⟨_,rfl⟩
   rw[← hL] at y2 hlt
   have d1:decide ((L:Int)≤(i:Int))=true:=decide_eq_true (by omega)
   clear h hL e0
   go_enter Tryd.func108,Tryd.ntmps108
   go_wp2
   go_ret
   exact⟨rfl,rfl⟩
def cntN(al:List Int)(i:Nat):Int:=if at0 al i < 1 then 1 else at0 al i
set_option maxRecDepth 100000 in
theorem count_any (B t p g n i:Nat) (W H X Y:Int) (wr:Bool) (zs:List Int) (st:Int) (av:Value) (al:List Int) (pv:Value) (pl:List Int) (be:Int) (fv:Value) (w:World) (h:TermAt w B t p g n W H X Y wr zs st av al pv pl be fv) (hi:i≤1000) :
   Calls Tryd.prog 101 #[.pointer (some ⟨t,0,none⟩),I O i] w fun e w'=>e=.returned (I O (cntN al i))∧w'=w:=by
 have q:Hid (Calls Tryd.prog 108 #[.pointer (some ⟨t,0,none⟩),I O i] w fun e w'=>e=.returned (I O (at0 al i))∧w'=w):=arg_any B t p g n i W H X Y wr zs st av al pv pl be fv w h hi
 unfold cntN
 obtain⟨v,hv⟩:∃ v,v=at0 al i:=⟨_,rfl⟩
 rw[← hv] at q ⊢
 clear h hv
 by_cases h1:v < 1
 · rw[if_pos h1]
   go_enter Tryd.func101,Tryd.ntmps101
   go_wp2_with fail
   refine q.out.mono ?_
   rintro e w1 ⟨rfl,rfl⟩
   go_wp2
   go_ret
   exact⟨rfl,rfl⟩
 · rw[if_neg h1]
   go_enter Tryd.func101,Tryd.ntmps101
   go_wp2_with fail
   refine q.out.mono ?_
   rintro e w1 ⟨rfl,rfl⟩
   go_wp2
   go_ret
   exact⟨rfl,rfl⟩
theorem grown_setT(w:World)(t j:Nat)(u:Value):w.grownBy (w.setCell ⟨t,j,none⟩ u) (some t):=⟨rfl,rfl,rfl,by simp,fun k _ hk=>heap_setCell_other w ⟨t,j,none⟩ k _ (fun e=>hk (by simp[e]))⟩
theorem own_setT{w:World}{B n t j:Nat}{e:TypeId}{size:Nat}{v u:Value}{xs:List Value}(h:w.ownsRow B e size v n xs)(hne:v.ownBlock≠some t):(w.setCell ⟨t,j,none⟩ u).ownsRow B e size v n xs:=
 h.kept (grown_setT w t j u) (.inr hne)
theorem sheet_setT{w:World}{B p g n t j:Nat}{W H X Y:Int}{wr:Bool}{zs:List Int}(u:Value)(h:SheetAt w B p g n W H X Y wr zs)(hp:t≠p)(hg:t≠g):SheetAt (w.setCell ⟨t,j,none⟩ u) B p g n W H X Y wr zs:=
 ⟨(box_other _ (fun e=>hp e.symm)).trans h.box,own_off h.row t j u hg,h.len,h.lo,h.ne⟩
theorem kp_set(B:Nat)(w:World){t:Nat}(j:Nat)(u:Value)(ht:B≤t):Kp B w (w.setCell ⟨t,j,none⟩ u):=fun w0 h=>h.setCell (p:=⟨t,j,none⟩) ht u
theorem TermAt.set_st{w:World}{B t p g n:Nat}{W H X Y:Int}{wr:Bool}{zs:List Int}{st:Int}{av:Value}{al:List Int}{pv:Value}{pl:List Int}{be:Int}{fv:Value}(h:TermAt w B t p g n W H X Y wr zs st av al pv pl be fv)(st':Int):TermAt (w.setCell ⟨t,1,none⟩ (I O st')) B t p g n W H X Y wr zs st' av al pv pl be fv:=
 ⟨by have:=box_set (j:=1) (I O st') h.box;simpa using this,sheet_setT _ h.sheet h.tp h.tg,own_setT h.args (fun e=>(h.far t e).1 rfl),own_setT h.part (fun e=>(h.farP t e).1 rfl),h.lo,h.tp,h.tg,h.far,h.farP,h.two⟩
theorem TermAt.set_be{w:World}{B t p g n:Nat}{W H X Y:Int}{wr:Bool}{zs:List Int}{st:Int}{av:Value}{al:List Int}{pv:Value}{pl:List Int}{be:Int}{fv:Value}(h:TermAt w B t p g n W H X Y wr zs st av al pv pl be fv)(be':Int):TermAt (w.setCell ⟨t,4,none⟩ (I O be')) B t p g n W H X Y wr zs st av al pv pl be' fv:=
 ⟨by have:=box_set (j:=4) (I O be') h.box;simpa using this,sheet_setT _ h.sheet h.tp h.tg,own_setT h.args (fun e=>(h.far t e).1 rfl),own_setT h.part (fun e=>(h.farP t e).1 rfl),h.lo,h.tp,h.tg,h.far,h.farP,h.two⟩
theorem TermAt.set_fv{w:World}{B t p g n:Nat}{W H X Y:Int}{wr:Bool}{zs:List Int}{st:Int}{av:Value}{al:List Int}{pv:Value}{pl:List Int}{be:Int}{fv:Value}(h:TermAt w B t p g n W H X Y wr zs st av al pv pl be fv)(fv':Value):TermAt (w.setCell ⟨t,5,none⟩ fv') B t p g n W H X Y wr zs st av al pv pl be fv':=
 ⟨by have:=box_set (j:=5) fv' h.box;simpa using this,sheet_setT _ h.sheet h.tp h.tg,own_setT h.args (fun e=>(h.far t e).1 rfl),own_setT h.part (fun e=>(h.farP t e).1 rfl),h.lo,h.tp,h.tg,h.far,h.farP,h.two⟩
theorem TermAt.set_av{w:World}{B t p g n:Nat}{W H X Y:Int}{wr:Bool}{zs:List Int}{st:Int}{av:Value}{al:List Int}{pv:Value}{pl:List Int}{be:Int}{fv:Value}(h:TermAt w B t p g n W H X Y wr zs st av al pv pl be fv){av':Value}{al':List Int}(ho:w.ownsRow B 3 1 av' al'.length (al'.map (Value.int .i64)))(hf:∀ k,av'.ownBlock=some k→k≠t∧k≠p∧k≠g)(h2:∀ k,av'.ownBlock=some k→pv.ownBlock≠some k):TermAt (w.setCell ⟨t,2,none⟩ av') B t p g n W H X Y wr zs st av' al' pv pl be fv:=
 ⟨by have:=box_set (j:=2) av' h.box;simpa using this,sheet_setT _ h.sheet h.tp h.tg,own_setT ho (fun e=>(hf t e).1 rfl),own_setT h.part (fun e=>(h.farP t e).1 rfl),h.lo,h.tp,h.tg,hf,h.farP,h2⟩
theorem TermAt.set_pv{w:World}{B t p g n:Nat}{W H X Y:Int}{wr:Bool}{zs:List Int}{st:Int}{av:Value}{al:List Int}{pv:Value}{pl:List Int}{be:Int}{fv:Value}(h:TermAt w B t p g n W H X Y wr zs st av al pv pl be fv){pv':Value}{pl':List Int}(ho:w.ownsRow B 5 1 pv' pl'.length (pl'.map (Value.int .u8)))(hf:∀ k,pv'.ownBlock=some k→k≠t∧k≠p∧k≠g)(h2:∀ k,av.ownBlock=some k→pv'.ownBlock≠some k):TermAt (w.setCell ⟨t,3,none⟩ pv') B t p g n W H X Y wr zs st av al pv' pl' be fv:=
 ⟨by have:=box_set (j:=3) pv' h.box;simpa using this,sheet_setT _ h.sheet h.tp h.tg,own_setT h.args (fun e=>(h.far t e).1 rfl),own_setT ho (fun e=>(hf t e).1 rfl),h.lo,h.tp,h.tg,h.far,hf,h2⟩
theorem TermAt.no_args{w:World}{B t p g n:Nat}{W H X Y:Int}{wr:Bool}{zs:List Int}{st:Int}{av:Value}{al:List Int}{pv:Value}{pl:List Int}{be:Int}{fv:Value}(h:TermAt w B t p g n W H X Y wr zs st av al pv pl be fv):TermAt (w.setCell ⟨t,2,none⟩ (Sz none 0 0)) B t p g n W H X Y wr zs st (Sz none 0 0) [] pv pl be fv:=
 h.set_av (World.ownsRow_nil w B 3 1) (fun k e=>by simp[Value.ownBlock] at e) (fun k e=>by simp[Value.ownBlock] at e)
theorem TermAt.no_part{w:World}{B t p g n:Nat}{W H X Y:Int}{wr:Bool}{zs:List Int}{st:Int}{av:Value}{al:List Int}{pv:Value}{pl:List Int}{be:Int}{fv:Value}(h:TermAt w B t p g n W H X Y wr zs st av al pv pl be fv):TermAt (w.setCell ⟨t,3,none⟩ (Sz none 0 0)) B t p g n W H X Y wr zs st av al (Sz none 0 0) [] be fv:=
 h.set_pv (World.ownsRow_nil w B 5 1) (fun k e=>by simp[Value.ownBlock] at e) (fun k _ e=>by simp[Value.ownBlock] at e)
def fvOf(t:Nat)(st:Int):Value:=.func (.func (if st=1 then 74 else if st=2 then 75 else 76)) #[.pointer (some ⟨t,0,none⟩)] #[]
set_option maxRecDepth 100000 in
theorem enter_any (B t p g n:Nat) (W H X Y:Int) (wr:Bool) (zs:List Int) (st:Int) (av:Value) (al:List Int) (pv:Value) (pl:List Int) (be:Int) (fv:Value) (s':Int) (w:World) (h:TermAt w B t p g n W H X Y wr zs st av al pv pl be fv) :
   Calls Tryd.prog 57 #[.pointer (some ⟨t,0,none⟩),I O s'] w fun e w'=>e=.returned (.tuple #[])∧TermAt w' B t p g n W H X Y wr zs s' av al pv pl be (fvOf t s')∧Kp B w w':=by
 have f1:w.frozen? ⟨t,1,none⟩=false:=box_frozen h.box
 have y1:w.cell? ⟨t,1,none⟩=some (I O st):=bxc h.box rfl
 have h1:=h.set_st s'
 have f5:(w.setCell ⟨t,1,none⟩ (I O s')).frozen? ⟨t,5,none⟩=false:=box_frozen h1.box
 have y5:(w.setCell ⟨t,1,none⟩ (I O s')).cell? ⟨t,5,none⟩=some fv:=bxc h1.box rfl
 have z5:w.cell? ⟨t,5,none⟩=some fv:=bxc h.box rfl
 have zf5:w.frozen? ⟨t,5,none⟩=false:=box_frozen h.box
 have HH:Hid (∀ u,TermAt ((w.setCell ⟨t,1,none⟩ (I O s')).setCell ⟨t,5,none⟩ u) B t p g n W H X Y wr zs s' av al pv pl be u∧Kp B w ((w.setCell ⟨t,1,none⟩ (I O s')).setCell ⟨t,5,none⟩ u)):=fun u=>⟨h1.set_fv u,(kp_set B w 1 _ h.lo).trans (kp_set B _ 5 _ h.lo)⟩
 clear h h1
 by_cases e1:s'=1
 · subst e1
   have E:Hid (fvOf t 1=.func (.func 74) #[.pointer (some ⟨t,0,none⟩)] #[]):=rfl
   go_enter Tryd.func57,Tryd.ntmps57
   go_wp2
   (try simp only[Exit.inBlock,Exit.then])
   refine bodyPost_end (v:=.tuple #[]) (by simp[results,Tryd.results57,go_sem]) rfl ⟨rfl,?_⟩
   rw[E.out]
   exact HH.out _
 · have d1:(s'==1)=false:=by simpa using e1
   by_cases e2:s'=2
   · subst e2
     have E:Hid (fvOf t 2=.func (.func 75) #[.pointer (some ⟨t,0,none⟩)] #[]):=rfl
     clear e1
     go_enter Tryd.func57,Tryd.ntmps57
     go_wp2
     (try simp only[Exit.inBlock,Exit.then])
     refine bodyPost_end (v:=.tuple #[]) (by simp[results,Tryd.results57,go_sem]) rfl ⟨rfl,?_⟩
     rw[E.out]
     exact HH.out _
   · have d2:(s'==2)=false:=by simpa using e2
     have E:Hid (fvOf t s'=.func (.func 76) #[.pointer (some ⟨t,0,none⟩)] #[]):=by show _=_;unfold fvOf;rw[if_neg e1,if_neg e2]
     clear e1 e2
     go_enter Tryd.func57,Tryd.ntmps57
     go_wp2
     (try simp only[Exit.inBlock,Exit.then])
     refine bodyPost_end (v:=.tuple #[]) (by simp[results,Tryd.results57,go_sem]) rfl ⟨rfl,?_⟩
     rw[E.out]
     exact HH.out _
def escN(b:Int):Int:=if b=91 then 2 else 0
set_option maxRecDepth 100000 in
theorem escaped_any (B t p g n:Nat) (W H X Y:Int) (wr:Bool) (zs:List Int) (st:Int) (av:Value) (al:List Int) (pv:Value) (pl:List Int) (be:Int) (fv:Value) (b:Int) (w:World) (h:TermAt w B t p g n W H X Y wr zs st av al pv pl be fv) :
   Calls Tryd.prog 74 #[.pointer (some ⟨t,0,none⟩),I .u8 b] w fun e w'=>e=.returned (.tuple #[])∧TermAt w' B t p g n W H X Y wr zs (escN b) av al pv pl be (fvOf t (escN b))∧Kp B w w':=by
 have q:Hid (∀ s',Calls Tryd.prog 57 #[.pointer (some ⟨t,0,none⟩),I O s'] w fun e w'=>e=.returned (.tuple #[])∧TermAt w' B t p g n W H X Y wr zs s' av al pv pl be (fvOf t s')∧Kp B w w'):=fun s'=>enter_any B t p g n W H X Y wr zs st av al pv pl be fv s' w h
 clear h
 unfold escN
 by_cases e1:b=91
 · subst e1
   rw[if_pos rfl]
   go_enter Tryd.func74,Tryd.ntmps74
   go_wp2_with fail
   refine(q.out 2).mono ?_
   rintro e w1 ⟨rfl,h1,k1⟩
   have HH:Hid (_∧_):=⟨h1,k1⟩
   clear h1 k1
   go_wp2
   (try simp only[Exit.inBlock,Exit.then])
   refine bodyPost_ret (v:=.tuple #[]) (by simp[results,Tryd.results74,go_sem]) rfl ⟨rfl,HH.out⟩
 · have d1:(b==91)=false:=by simpa using e1
   rw[if_neg e1]
   clear e1
   go_enter Tryd.func74,Tryd.ntmps74
   go_wp2_with fail
   refine(q.out 0).mono ?_
   rintro e w1 ⟨rfl,h1,k1⟩
   have HH:Hid (_∧_):=⟨h1,k1⟩
   clear h1 k1
   go_wp2
   (try simp only[Exit.inBlock,Exit.then])
   refine bodyPost_end (v:=.tuple #[]) (by simp[results,Tryd.results74,go_sem]) rfl ⟨rfl,HH.out⟩
end Go.Proofs.YthodinpflcbklaaDoor
namespace Go.Proofs.YthodinpflcbklaaDoor
open Go.RowKit
def begA(al:List Int):List Int:=if al.length=0 then [0] else al
def capN(m:Int):Int:=if m≤9999 then m else 9999
def digA(al:List Int)(d:Int):List Int:=(begA al).set ((begA al).length - 1) (capN (10*at0 (begA al) ((begA al).length - 1)+d))
def semA(al:List Int):List Int:=if (begA al).length < 4 then begA al++[0] else begA al
theorem begA_pos(al:List Int):0 < (begA al).length:=by
 unfold begA;split
 · simp
 · omega
set_option maxRecDepth 100000 in
theorem begin_any (B t p g n:Nat) (W H X Y:Int) (wr:Bool) (zs:List Int) (st:Int) (av:Value) (al:List Int) (pv:Value) (pl:List Int) (be:Int) (fv:Value) (w:World) (h:TermAt w B t p g n W H X Y wr zs st av al pv pl be fv) (hl:al.length≤4) :
   Calls Tryd.prog 100 #[.pointer (some ⟨t,0,none⟩)] w fun e w'=>e=.returned (.tuple #[])∧(∃ av',TermAt w' B t p g n W H X Y wr zs st av' (begA al) pv pl be fv)∧Kp B w w':=by
 obtain⟨a,c,hv⟩:=own_formV h.args
 subst hv
 have y2:w.cell? ⟨t,2,none⟩=some (Sz a al.length c):=bxc h.box rfl
 by_cases h0:al.length=0
 · have HW:=h.base
   have hA:TermAt (w.alloc (.cells #[I O 0] 3)) B t p g n W H X Y wr zs st (Sz a al.length c) al pv pl be fv:=
     ⟨(heap_alloc_old _ _ (box_lt h.box)).trans h.box,h.sheet.later ((Below.refl _ _).alloc (Nat.le_refl _) _),h.args.alloc _,h.part.alloc _,h.lo,h.tp,h.tg,h.far,h.farP,h.two⟩
   have f2:(w.alloc (.cells #[I O 0] 3)).frozen? ⟨t,2,none⟩=false:=box_frozen hA.box
   have y2':(w.alloc (.cells #[I O 0] 3)).cell? ⟨t,2,none⟩=some (Sz a al.length c):=bxc hA.box rfl
   have ht:=box_lt h.box
   have hp:=box_lt h.sheet.box
   have hr:=h.part.lt
   have ho:=World.ownsRow_lit (base:=B) (e:=3) (size:=1) w #[I O 0] 1 HW.2.2 (by decide) rfl
   have h9:=hA.set_av (av':=Sz (some ⟨w.heap.size,0,none⟩) 1 1) (al':=[0]) (by simpa using ho) (fun k e=>by simp[Value.ownBlock] at e;omega) (fun k e e2=>by simp[Value.ownBlock] at e;have:=hr k e2;omega)
   have E:begA al=[0]:=by unfold begA;rw[if_pos h0]
   have HH:Hid ((∃ av',TermAt ((w.alloc (.cells #[I O 0] 3)).setCell ⟨t,2,none⟩ (Sz (some ⟨w.heap.size,0,none⟩) 1 1)) B t p g n W H X Y wr zs st av' (begA al) pv pl be fv)∧Kp B w ((w.alloc (.cells #[I O 0] 3)).setCell ⟨t,2,none⟩ (Sz (some ⟨w.heap.size,0,none⟩) 1 1))):=
     ⟨⟨_,by rw[E];exact h9⟩,fun w0 hb=>(hb.alloc HW.2.2 _).setCell (p:=⟨t,2,none⟩) h.lo _⟩
   have d0:((al.length:Int)==0)=true:=by simp[h0]
   obtain⟨L,hL⟩:∃ L,L=al.length:=⟨_,rfl⟩
   rw[← hL] at y2 y2' d0
   clear h hA h9 ho hr E hL h0
   go_enter Tryd.func100,Tryd.ntmps100
   go_wp2
   (try simp only[Exit.inBlock,Exit.then])
   refine bodyPost_end (v:=.tuple #[]) (by simp[results,Tryd.results100,go_sem]) rfl ⟨rfl,?_⟩
   rw[← World.setCell_alloc_past _ _ _ _ ht]
   exact HH.out
 · have d0:((al.length:Int)==0)=false:=by simp;exact fun e=>h0 (by rw[e];rfl)
   have HH:Hid ((∃ av',TermAt w B t p g n W H X Y wr zs st av' (begA al) pv pl be fv)∧Kp B w w):=⟨⟨_,by unfold begA;rw[if_neg h0];exact h⟩,Kp.refl _ _⟩
   obtain⟨L,hL⟩:∃ L,L=al.length:=⟨_,rfl⟩
   rw[← hL] at y2 d0
   clear h hL h0
   go_enter Tryd.func100,Tryd.ntmps100
   go_wp2
   (try simp only[Exit.inBlock,Exit.then])
   refine bodyPost_end (v:=.tuple #[]) (by simp[results,Tryd.results100,go_sem]) rfl ⟨rfl,HH.out⟩
theorem TermAt.put_args{w w2:World}{B t p g n:Nat}{W H X Y:Int}{wr:Bool}{zs:List Int}{st:Int}{av:Value}{al:List Int}{pv:Value}{pl:List Int}{be:Int}{fv:Value}{row:Option Nat}(h:TermAt w B t p g n W H X Y wr zs st av al pv pl be fv)(hg:w.grownBy w2 row)(hr:∀ k,row=some k→k≠t∧k≠p∧k≠g∧pv.ownBlock≠some k){av':Value}{al':List Int}(ho:w2.ownsRow B 3 1 av' al'.length (al'.map (Value.int .i64)))(hf:∀ k,av'.ownBlock=some k→k≠t∧k≠p∧k≠g∧pv.ownBlock≠some k):
   TermAt (w2.setCell ⟨t,2,none⟩ av') B t p g n W H X Y wr zs st av' al' pv pl be fv:=by
 have b2:w2.heap[t]?=_:=(hg.block t (box_lt h.box) (fun e=>(hr t e.symm).1 rfl)).trans h.box
 have s2:SheetAt w2 B p g n W H X Y wr zs:=⟨(hg.block p (box_lt h.sheet.box) (fun e=>(hr p e.symm).2.1 rfl)).trans h.sheet.box,h.sheet.row.kept hg (.inr (fun e=>(hr g (by rw[← e];rfl)).2.2.1 rfl)),h.sheet.len,h.sheet.lo,h.sheet.ne⟩
 have p2:w2.ownsRow B 5 1 pv pl.length (pl.map (Value.int .u8)):=h.part.kept hg (by
   cases hp:pv.ownBlock with
   | none=>exact .inl rfl
   | some k=>exact .inr (fun e=>(hr k e.symm).2.2.2 hp))
 exact⟨by have:=box_set (j:=2) av' b2;simpa using this,sheet_setT _ s2 h.tp h.tg,own_setT ho (fun e=>(hf t e).1 rfl),own_setT p2 (fun e=>(h.farP t e).1 rfl),h.lo,h.tp,h.tg,fun k e=>⟨(hf k e).1,(hf k e).2.1,(hf k e).2.2.1⟩,h.farP,fun k e=>(hf k e).2.2.2⟩
theorem TermAt.set_arg{w:World}{B t p g n:Nat}{W H X Y:Int}{wr:Bool}{zs:List Int}{st:Int}{ga c:Nat}{al:List Int}{pv:Value}{pl:List Int}{be:Int}{fv:Value}(h:TermAt w B t p g n W H X Y wr zs st (Sz (some ⟨ga,0,none⟩) al.length c) al pv pl be fv)(j:Nat)(hj:j < al.length)(u:Int):
   TermAt (w.setCell ⟨ga,j,none⟩ (I O u)) B t p g n W H X Y wr zs st (Sz (some ⟨ga,0,none⟩) al.length c) (al.set j u) pv pl be fv:=by
 obtain⟨f1,f2,f3⟩:=h.far ga rfl
 have ho:=(h.args.stored j (I O u)).1
 refine⟨(box_other _ (fun e=>f1 e.symm)).trans h.box,sheet_setT _ h.sheet f2 f3,?_,own_setT h.part (h.two ga rfl),h.lo,h.tp,h.tg,h.far,h.farP,h.two⟩
 rw[List.length_set]
 have e:(al.map (Value.int .i64)).set j (I O u)=(al.set j u).map (Value.int .i64):=by rw[List.map_set]
 rw[← e]
 exact ho
end Go.Proofs.YthodinpflcbklaaDoor
namespace Go.Proofs.YthodinpflcbklaaDoor
open Go.RowKit
theorem begA_len{al:List Int}(h:al.length≤4):(begA al).length≤4:=by
 unfold begA;split
 · simp
 · exact h
set_option maxRecDepth 100000 in
theorem semi_any (B t p g n:Nat) (W H X Y:Int) (wr:Bool) (zs:List Int) (st:Int) (av:Value) (al:List Int) (pv:Value) (pl:List Int) (be:Int) (fv:Value) (w:World) (h:TermAt w B t p g n W H X Y wr zs st av al pv pl be fv) (hl:al.length≤4) :
   Calls Tryd.prog 90 #[.pointer (some ⟨t,0,none⟩)] w fun e w'=>e=.returned (.tuple #[])∧(∃ av',TermAt w' B t p g n W H X Y wr zs st av' (semA al) pv pl be fv)∧Kp B w w':=by
 obtain⟨i0,hi,hz0,hz1,hz2⟩:=info_parts Tryd.infoI
 have q:Hid (Calls Tryd.prog 100 #[.pointer (some ⟨t,0,none⟩)] w fun e w'=>e=.returned (.tuple #[])∧(∃ av',TermAt w' B t p g n W H X Y wr zs st av' (begA al) pv pl be fv)∧Kp B w w'):=begin_any B t p g n W H X Y wr zs st av al pv pl be fv w h hl
 obtain⟨bl,hbl⟩:∃ bl,bl=begA al:=⟨_,rfl⟩
 have hl4:bl.length≤4:=by rw[hbl];exact begA_len hl
 have hl0:0 < bl.length:=by rw[hbl];exact begA_pos al
 have E:Hid (semA al=if bl.length < 4 then bl++[0] else bl):=by show _=_;rw[hbl];rfl
 rw[← hbl] at q
 clear h hl hbl
 go_enter Tryd.func90,Tryd.ntmps90
 go_wp2_with fail
 refine q.out.mono ?_
 rintro e w1 ⟨rfl,⟨av1,h1⟩,k1⟩
 obtain⟨ga,ca,hv,hga,hga2⟩:=own_form h1.args hl0
 subst hv
 have H1:Hid (TermAt w1 B t p g n W H X Y wr zs st (Sz (some ⟨ga,0,none⟩) bl.length ca) bl pv pl be fv∧Kp B w w1):=⟨h1,k1⟩
 have y2:w1.cell? ⟨t,2,none⟩=some (Sz (some ⟨ga,0,none⟩) bl.length ca):=bxc h1.box rfl
 have hB:=h1.base
 have ht:=box_lt h1.box
 have hp:=box_lt h1.sheet.box
 have hpr:=h1.part.lt
 clear h1 k1
 obtain⟨L,hL⟩:∃ L,L=bl.length:=⟨_,rfl⟩
 have HL:Hid (L=bl.length):=hL
 by_cases h4:L < 4
 · have d1:(L:Int) < 4:=by omega
   have E2:Hid (semA al=bl++[0]):=by show _=_;rw[E.out,if_pos (by omega)]
   have o1:=H1.out.1.args.alloc (.cells #[I O 0] 3)
   have y2':(w1.alloc (.cells #[I O 0] 3)).cell? ⟨t,2,none⟩=some (Sz (some ⟨ga,0,none⟩) bl.length ca):=bxc ((heap_alloc_old _ _ ht).trans H1.out.1.box) rfl
   rw[← hL] at y2 y2' o1 hl4 hl0
   clear hL
   go_wp2_with (at_builtin;refine wpList_append_lies _ rfl _ _ 22 rfl B 3 i0 (I O 0) 1 8 Tryd.underlying22 hi hz0 hz1 hz2 rfl (by decide) _ L _ rfl o1 ⟨w1.heap.size,0,none⟩ 1 _ [I O 0] rfl rfl (World.news_of_block (heap_alloc_new w1 _)) (by simp;rfl) (by decide) ?c3 ?c4 (by simp;omega) _ rfl ?_)
   case c3=>unfold maxLen;omega
   case c4=>omega
   intro gb cb w2 o2 hg2 hx2 hlt2
   have hax:ga=gb∨gb=w1.heap.size+1:=by simpa [Value.ownBlock] using hx2
   have hfar:=H1.out.1.far ga rfl
   have htwo:=H1.out.1.two ga rfl
   have hgw:w1.grownBy w2 (some ga):=by
     have:=(World.grownBy_alloc w1 (.cells #[I O 0] 3) (some ga)).trans hg2
     exact this
   have e1:bl.map (Value.int .i64)++[I O 0]=(bl++[0]).map (Value.int .i64):=by simp
   have hlen:L+1=(bl++[0]).length:=by rw[List.length_append,HL.out];rfl
   rw[e1,hlen] at o2
   have hT:=H1.out.1.put_args (av':=Sz (some ⟨gb,0,none⟩) (bl++[0]).length cb) (al':=bl++[0]) hgw (fun k e=>by cases e;exact⟨hfar.1,hfar.2.1,hfar.2.2,htwo⟩) o2 (fun k e=>by
     simp[Value.ownBlock] at e
     subst e
     rcases hax with rfl | rfl
     · exact⟨hfar.1,hfar.2.1,hfar.2.2,htwo⟩
     · exact⟨by omega,by omega,by omega,fun e2=>by have:=hpr _ e2;omega⟩)
   have yy:w2.cell? ⟨t,2,none⟩=some (Sz (some ⟨ga,0,none⟩) L ca):=by
     have hb2:w2.heap[t]?=_:=(hgw.block t ht (fun e=>by cases e;exact hfar.1 rfl)).trans H1.out.1.box
     rw[HL.out];exact bxc hb2 rfl
   have yf:w2.frozen? ⟨t,2,none⟩=false:=by
     have hb2:w2.heap[t]?=_:=(hgw.block t ht (fun e=>by cases e;exact hfar.1 rfl)).trans H1.out.1.box
     exact box_frozen hb2
   rw[← hlen] at hT
   have hKp:Kp B w (w2.setCell ⟨t,2,none⟩ (Sz (some ⟨gb,0,none⟩) (L+1) cb)):=fun w0 hb=>((H1.out.2 w0 hb).grown hgw hB.2.2 (fun k e=>by cases e;exact hga)).setCell (p:=⟨t,2,none⟩) H1.out.1.lo _
   have HF:Hid (TermAt (w2.setCell ⟨t,2,none⟩ (Sz (some ⟨gb,0,none⟩) (L+1) cb)) B t p g n W H X Y wr zs st (Sz (some ⟨gb,0,none⟩) (L+1) cb) (bl++[0]) pv pl be fv∧Kp B w (w2.setCell ⟨t,2,none⟩ (Sz (some ⟨gb,0,none⟩) (L+1) cb))):=⟨hT,hKp⟩
   clear o1 o2 hg2 hx2 hgw e1 hlen hT hKp hax hfar htwo y2'
   go_wp2
   (try simp only[Exit.inBlock,Exit.then])
   refine bodyPost_end (v:=.tuple #[]) (by simp[results,Tryd.results90,go_sem]) rfl ⟨rfl,?_⟩
   rw[E2.out]
   exact⟨⟨_,HF.out.1⟩,HF.out.2⟩
 · have d1:¬ (L:Int) < 4:=by omega
   have E2:Hid (semA al=bl):=by show _=_;rw[E.out,if_neg (by omega)]
   rw[← hL] at y2
   clear hL
   go_wp2
   (try simp only[Exit.inBlock,Exit.then])
   refine bodyPost_end (v:=.tuple #[]) (by simp[results,Tryd.results90,go_sem]) rfl ⟨rfl,?_⟩
   rw[E2.out]
   exact⟨⟨_,H1.out.1⟩,H1.out.2⟩
theorem tm_drew{w w':World}{B t p g n:Nat}{W H X Y:Int}{wr:Bool}{zs:List Int}{st:Int}{av:Value}{al:List Int}{pv:Value}{pl:List Int}{be:Int}{fv:Value}{w0:World}(h:TermAt w B t p g n W H X Y wr zs st av al pv pl be fv∧Kp B w0 w)(e:∃ q,w'=w.drewN q:=by first | exact⟨0,rfl⟩ | exact⟨_,rfl⟩):(∃ av',TermAt w' B t p g n W H X Y wr zs st av' al pv pl be fv)∧Kp B w0 w':=by
 obtain⟨q,rfl⟩:=e
 exact⟨⟨_,h.1.drewN q⟩,h.2.trans (kp_drewN B w q)⟩
theorem begA_bd{al:List Int}(h:∀ i,0≤at0 al i∧at0 al i≤9999)(i:Nat):0≤at0 (begA al) i∧at0 (begA al) i≤9999:=by
 unfold begA
 split
 · unfold at0
   cases i <;> simp
 · exact h i
set_option maxRecDepth 100000 in
theorem digit_any (B t p g n:Nat) (W H X Y:Int) (wr:Bool) (zs:List Int) (st:Int) (av:Value) (al:List Int) (pv:Value) (pl:List Int) (be:Int) (fv:Value) (d:Int) (w:World) (h:TermAt w B t p g n W H X Y wr zs st av al pv pl be fv) (hl:al.length≤4) (ha:∀ i,0≤at0 al i∧at0 al i≤9999) (hd:0≤d∧d≤9) :
   Calls Tryd.prog 89 #[.pointer (some ⟨t,0,none⟩),I O d] w fun e w'=>e=.returned (.tuple #[])∧(∃ av',TermAt w' B t p g n W H X Y wr zs st av' (digA al d) pv pl be fv)∧Kp B w w':=by
 have q:Hid (Calls Tryd.prog 100 #[.pointer (some ⟨t,0,none⟩)] w fun e w'=>e=.returned (.tuple #[])∧(∃ av',TermAt w' B t p g n W H X Y wr zs st av' (begA al) pv pl be fv)∧Kp B w w'):=begin_any B t p g n W H X Y wr zs st av al pv pl be fv w h hl
 obtain⟨bl,hbl⟩:∃ bl,bl=begA al:=⟨_,rfl⟩
 have hl4:bl.length≤4:=by rw[hbl];exact begA_len hl
 have hl0:0 < bl.length:=by rw[hbl];exact begA_pos al
 have hbd:=begA_bd ha (bl.length - 1)
 rw[← hbl] at q hbd
 have E:Hid (digA al d=bl.set (bl.length - 1) (capN (10*at0 bl (bl.length - 1)+d))):=by show _=_;rw[hbl];rfl
 clear h hl hbl ha
 go_enter Tryd.func89,Tryd.ntmps89
 go_wp2_with fail
 refine q.out.mono ?_
 rintro e w1 ⟨rfl,⟨av1,h1⟩,k1⟩
 obtain⟨ga,ca,hv,hga,hga2⟩:=own_form h1.args hl0
 subst hv
 have y2:w1.cell? ⟨t,2,none⟩=some (Sz (some ⟨ga,0,none⟩) bl.length ca):=bxc h1.box rfl
 have hr:=h1.args.frozenAt (bl.length - 1)
 have gc:w1.cell? ⟨ga,bl.length - 1,none⟩=some (I O (at0 bl (bl.length - 1))):=by
   rw[h1.args.cellAt _ (by omega)]
   unfold at0
   simp[show bl.length - 1 < bl.length by omega]
 have HS:Hid (∀ u,TermAt (w1.setCell ⟨ga,bl.length - 1,none⟩ (I O u)) B t p g n W H X Y wr zs st (Sz (some ⟨ga,0,none⟩) bl.length ca) (bl.set (bl.length - 1) u) pv pl be fv∧Kp B w (w1.setCell ⟨ga,bl.length - 1,none⟩ (I O u))):=fun u=>⟨h1.set_arg _ (by omega) u,k1.trans (kp_set B w1 _ _ hga)⟩
 obtain⟨v,hv⟩:∃ v,v=at0 bl (bl.length - 1):=⟨_,rfl⟩
 obtain⟨L,hL⟩:∃ L,L=bl.length:=⟨_,rfl⟩
 rw[← hv] at gc hbd
 have HV:Hid (v=_∧L=_):=⟨hv,hL⟩
 rw[← hL] at y2 hr gc hl4 hl0
 have wv:IntKind.i64.wrap (10*v)=10*v:=wrap_i64_in _ (by omega) (by omega)
 have wvd:IntKind.i64.wrap (10*v+d)=10*v+d:=wrap_i64_in _ (by omega) (by omega)
 have wL:IntKind.i64.wrap ((L:Int) - 1)=(L:Int) - 1:=wrap_i64_in _ (by omega) (by omega)
 have j1:(L:Int) - 1 < (L:Int):=by omega
 have j2:((L:Int) - 1).toNat=L - 1:=by omega
 have j3:(0:Int)≤(L:Int) - 1:=by omega
 clear h1 k1 hv hL
 by_cases hm:10*v+d≤9999
 · have E2:Hid (digA al d=bl.set (bl.length - 1) (10*v+d)):=by show _=_;rw[E.out,← HV.out.1];unfold capN;rw[if_pos hm]
   have HF:Hid (TermAt (w1.setCell ⟨ga,L - 1,none⟩ (I O (10*v+d))) B t p g n W H X Y wr zs st (Sz (some ⟨ga,0,none⟩) bl.length ca) (digA al d) pv pl be fv∧Kp B w (w1.setCell ⟨ga,L - 1,none⟩ (I O (10*v+d)))):=by rw[E2.out,HV.out.2];exact HS.out _
   go_wp2
   go_region
   (try simp only[Exit.inBlock,Exit.then])
   refine bodyPost_end (v:=.tuple #[]) (by simp[results,Tryd.results89,go_sem]) rfl ⟨rfl,?_⟩
   exact tm_drew HF.out
 · have E2:Hid (digA al d=bl.set (bl.length - 1) 9999):=by show _=_;rw[E.out,← HV.out.1];unfold capN;rw[if_neg hm]
   have HF:Hid (TermAt (w1.setCell ⟨ga,L - 1,none⟩ (I O 9999)) B t p g n W H X Y wr zs st (Sz (some ⟨ga,0,none⟩) bl.length ca) (digA al d) pv pl be fv∧Kp B w (w1.setCell ⟨ga,L - 1,none⟩ (I O 9999))):=by rw[E2.out,HV.out.2];exact HS.out _
   go_wp2
   go_region
   (try simp only[Exit.inBlock,Exit.then])
   refine bodyPost_end (v:=.tuple #[]) (by simp[results,Tryd.results89,go_sem]) rfl ⟨rfl,?_⟩
   exact tm_drew HF.out
end Go.Proofs.YthodinpflcbklaaDoor
