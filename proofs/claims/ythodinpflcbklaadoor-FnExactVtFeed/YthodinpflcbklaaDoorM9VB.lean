/-
  Parts of the road to VB, joined: GrMB, TmD.
-/
import Derived.Test.YthodinpflcbklaaDoorM7VB
import Derived.Deep.RegionHeld3
import Derived.Test.YthodinpflcbklaaDoorM8VB
import Derived.BigQuiet
open Go.Value renaming int → I,slice → Sz
open Go.IntKind renaming i64 → O
open List renaming setIfInBounds_toArray → lA,getElem_toArray → lB,getElem_cons_succ → lC,getElem_cons_zero → lD,set_cons_zero → lE,set_cons_succ → lF
set_option linter.unusedVariables false
set_option linter.unusedSimpArgs false
set_option maxHeartbeats 40000000
namespace Go.Proofs.YthodinpflcbklaaDoor
open Go.RowKit
set_option maxRecDepth 100000
def clrR(f t:Nat)(b:Int)(zs:List Int):List Int:=zs.take f++(List.replicate (t - f) b++zs.drop t)
theorem clrR_len{f t:Nat}{b:Int}{zs:List Int}(h1:f≤t)(h2:t≤zs.length):(clrR f t b zs).length=zs.length:=by unfold clrR;simp;omega
def clrF(half:Int)(zs:List Int)(a:Nat):Nat:=if at0 zs a=half then a - 1 else a
def clrT(half:Int)(zs:List Int)(t:Nat):Nat:=if t < zs.length∧at0 zs t=half then t+1 else t
def clrZ(half b:Int)(x y:Int)(zs:List Int):List Int:=
 if max x 0 < min y (zs.length:Int) then clrR (clrF half zs (max x 0).toNat) (clrT half zs (min y (zs.length:Int)).toNat) b zs else zs
set_option maxRecDepth 100000 in
theorem blank_any (p g n B:Nat) (W H X Y x y:Int) (wr:Bool) (zs:List Int) (w:World) (hs:SheetAt w B p g n W H X Y wr zs) (hn:n≤8000) (hn0:0 < n) (h0:at0 zs 0≠-33) :
   Calls Tryd.prog 105 #[.pointer (some ⟨p,0,none⟩),I O x,I O y] w fun e w'=>e=.returned (.tuple #[])∧SheetAt w' B p g n W H X Y wr (clrZ (-33) 0 x y zs)∧Touch w w' [p,g]:=by
 obtain⟨hBg,hgx,hmx⟩:=row_exact hn0 hs.row
 have hlen:=hs.len
 have y2:w.cell? ⟨p,2,none⟩=some (Sz (some ⟨g,0,none⟩) n n):=bxc hs.box rfl
 obtain⟨A,hA⟩:∃ A:Nat,max x 0=(A:Int):=⟨(max x 0).toNat,by omega⟩
 obtain⟨T,hT⟩:∃ T:Int,min y (n:Int)=T:=⟨_,rfl⟩
 have HS:Hid (SheetAt w B p g n W H X Y wr zs):=hs
 have HG:Hid (w.heap[g]?=some (.cells (zs.map (Value.int .i64)).toArray 3 (0,0))):=hgx
 have HL:Hid (zs.length=n∧n≤maxLen∧B≤g):=⟨hlen,hmx,hBg⟩
 have HAT:Hid (max x 0=(A:Int)∧min y (n:Int)=T):=⟨hA,hT⟩
 have hTn:T≤n:=by omega
 clear hs hgx hlen hmx hBg
 by_cases hlt:(A:Int) < T
 rotate_left
 · have E:Hid (clrZ (-33) 0 x y zs=zs):=by
     show _=_
     unfold clrZ
     rw[HL.out.1,hA,hT,if_neg hlt]
   have hle:T≤(A:Int):=by omega
   go_enter Tryd.func105,Tryd.ntmps105
   go_wp2_with fail
   refine wp_region_held_drew (S:=fun w'=>w'.cell? ⟨p,2,none⟩=some (Sz (some ⟨g,0,none⟩) n n)) (by kernel_rfl) (show w.cell? _=_ from y2) (fun hHeld=>?_)
   refine wpAnyH_take (i:=0) (v:=I O x) rfl (by kernel_rfl) (by kernel_rfl) (by kernel_rfl) (fun _ _ _ h=>h) (Or.inl ⟨by kernel_rfl,?_⟩) (by assumption) ?_
   · intro w9 hSw;(try dsimp only at hSw);go_simp
   simp only[Act.put,lB,lC,lD,lA,lE,lF]
   refine wpAnyH_take (i:=1) (v:=I O A) rfl (by kernel_rfl) (by kernel_rfl) (by kernel_rfl) (fun _ _ _ h=>h) (Or.inl ⟨by kernel_rfl,?_⟩) (by assumption) ?_
   · intro w9 hSw;(try dsimp only at hSw);go_simp;split <;> omega
   simp only[Act.put,lB,lC,lD,lA,lE,lF]
   refine wpAnyH_take (i:=2) (v:=I O y) rfl (by kernel_rfl) (by kernel_rfl) (by kernel_rfl) (fun _ _ _ h=>h) (Or.inl ⟨by kernel_rfl,?_⟩) (by assumption) ?_
   · intro w9 hSw;(try dsimp only at hSw);go_simp
   simp only[Act.put,lB,lC,lD,lA,lE,lF]
   refine wpAnyH_take (i:=3) (v:=.pointer (some ⟨p,0,none⟩)) rfl (by kernel_rfl) (by kernel_rfl) (by kernel_rfl) (fun _ _ _ h=>h) (Or.inl ⟨by kernel_rfl,?_⟩) (by assumption) ?_
   · intro w9 hSw;(try dsimp only at hSw);go_simp
   simp only[Act.put,lB,lC,lD,lA,lE,lF]
   refine wpAnyH_take (i:=4) (v:=.pointer (some ⟨p,0,none⟩)) rfl (by kernel_rfl) (by kernel_rfl) (by kernel_rfl) (fun _ _ _ h=>h) (Or.inl ⟨by kernel_rfl,?_⟩) (by assumption) ?_
   · intro w9 hSw;(try dsimp only at hSw);go_simp
   simp only[Act.put,lB,lC,lD,lA,lE,lF]
   refine wpAnyH_take (i:=5) (v:=.pointer (some ⟨p,2,none⟩)) rfl (by kernel_rfl) (by kernel_rfl) (by kernel_rfl) (fun _ _ _ h=>h) (Or.inl ⟨by kernel_rfl,?_⟩) (by assumption) ?_
   · intro w9 hSw;(try dsimp only at hSw);go_simp
   simp only[Act.put,lB,lC,lD,lA,lE,lF]
   refine wpAnyH_take (i:=6) (v:=Sz (some ⟨g,0,none⟩) n n) rfl (by kernel_rfl) (by kernel_rfl) (by kernel_rfl) (fun _ _ _ h=>h) (Or.inl ⟨by kernel_rfl,?_⟩) (by assumption) ?_
   · intro w9 hSw;(try dsimp only at hSw);go_simp
   simp only[Act.put,lB,lC,lD,lA,lE,lF]
   refine wpAnyH_take (i:=7) (v:=I O n) rfl (by kernel_rfl) (by kernel_rfl) (by kernel_rfl) (fun _ _ _ h=>h) (Or.inl ⟨by kernel_rfl,?_⟩) (by assumption) ?_
   · intro w9 hSw;(try dsimp only at hSw);go_simp
   simp only[Act.put,lB,lC,lD,lA,lE,lF]
   refine wpAnyH_take (i:=8) (v:=I O T) rfl (by kernel_rfl) (by kernel_rfl) (by kernel_rfl) (fun _ _ _ h=>h) (Or.inl ⟨by kernel_rfl,?_⟩) (by assumption) ?_
   · intro w9 hSw;(try dsimp only at hSw);go_simp;split <;> omega
   simp only[Act.put,lB,lC,lD,lA,lE,lF]
   refine wpAnyH_take (i:=9) (v:=I O A) rfl (by kernel_rfl) (by kernel_rfl) (by kernel_rfl) (fun _ _ _ h=>h) (Or.inl ⟨by kernel_rfl,?_⟩) (by assumption) ?_
   · intro w9 hSw;(try dsimp only at hSw);go_simp
   simp only[Act.put,lB,lC,lD,lA,lE,lF]
   refine wpAnyH_take (i:=10) (v:=I O T) rfl (by kernel_rfl) (by kernel_rfl) (by kernel_rfl) (fun _ _ _ h=>h) (Or.inl ⟨by kernel_rfl,?_⟩) (by assumption) ?_
   · intro w9 hSw;(try dsimp only at hSw);go_simp
   simp only[Act.put,lB,lC,lD,lA,lE,lF]
   refine wpAnyH_done (by kernel_rfl) ?_ _
   go_wp2
   refine bodyPost_ret (v:=.tuple #[]) (by simp[results,Tryd.results105,go_sem]) rfl ⟨rfl,?_,⟨rfl,rfl,rfl,Nat.le_refl _,fun _ _ _=>rfl⟩⟩
   rw[E.out]
   exact⟨HS.out.box,HS.out.row,HS.out.len,HS.out.lo,HS.out.ne⟩
 · obtain⟨t,rfl⟩:∃ t:Nat,T=t:=⟨T.toNat,by omega⟩
   have hAn:A < n:=by omega
   have hle:¬ (t:Int)≤(A:Int):=by omega
   have hAn':(A:Int) < (n:Int):=by omega
   have htn:t≤n:=by omega
   have hAt:A < t:=by omega
   have hget:∀ i,i < n→w.cell? ⟨g,i,none⟩=some (I O (at0 zs i)):=fun i hi=>bxc HG.out (by
     have h1:i < zs.length:=by rw[HL.out.1];exact hi
     simp[at0,h1])
   have EZ:Hid (clrZ (-33) 0 x y zs=clrR (clrF (-33) zs A) (clrT (-33) zs t) 0 zs):=by
     show _=_
     unfold clrZ
     rw[HL.out.1,hA,hT,if_pos hlt,Int.toNat_natCast,Int.toNat_natCast]
   obtain⟨r1,hr1⟩:∃ r,r=at0 zs A:=⟨_,rfl⟩
   have c1:w.cell? ⟨g,A,none⟩=some (I O r1):=by rw[hr1];exact hget A hAn
   have hF:(r1=-33∧∃ f,A=f+1∧clrF (-33) zs A=f)∨(r1≠-33∧clrF (-33) zs A=A):=by
     unfold clrF
     rw[← hr1]
     by_cases h:r1=-33
     · refine .inl ⟨h,A - 1,?_,by rw[if_pos h]⟩
       have:A≠0:=by intro e;rw[e] at hr1;exact h0 (hr1.symm.trans h)
       omega
     · exact .inr ⟨h,if_neg h⟩
   have hU:(t < n∧at0 zs t=-33∧clrT (-33) zs t=t+1)∨(t < n∧at0 zs t≠-33∧clrT (-33) zs t=t)∨(t=n∧clrT (-33) zs t=t):=by
     unfold clrT
     rw[HL.out.1]
     by_cases h1:t < n
     · by_cases h2:at0 zs t=-33
       · exact .inl ⟨h1,h2,if_pos ⟨h1,h2⟩⟩
       · exact .inr (.inl ⟨h1,h2,if_neg (fun h=>h2 h.2)⟩)
     · exact .inr (.inr ⟨by omega,if_neg (fun h=>h1 h.1)⟩)
   obtain⟨F,hFe⟩:∃ F,F=clrF (-33) zs A:=⟨_,rfl⟩
   obtain⟨U,hUe⟩:∃ U,U=clrT (-33) zs t:=⟨_,rfl⟩
   rw[← hFe] at hF
   rw[← hUe] at hU
   have hFU:F≤A∧t≤U∧U≤n:=by
     refine⟨?_,?_,?_⟩
     · rcases hF with ⟨_,f,e1,e2⟩ | ⟨_,e2⟩ <;> omega
     · rcases hU with ⟨_,_,e2⟩ | ⟨_,_,e2⟩ | ⟨_,e2⟩ <;> omega
     · rcases hU with ⟨_,_,e2⟩ | ⟨_,_,e2⟩ | ⟨_,e2⟩ <;> omega
   have HZ:Hid (clrZ (-33) 0 x y zs=clrR F U 0 zs):=by show _=_;rw[EZ.out,hFe,hUe]
   have HF2:Hid ((w.drew.setCells g F (List.replicate (U - F) (I O 0))).heap[g]?=some (.cells ((clrR F U 0 zs).map (Value.int .i64)).toArray 3 (0,0))):=by
     have h9:=setCells_row (List.replicate (U - F) (Value.int .i64 0)) F w.drew _ HG.out (by rw[List.length_replicate,List.length_map,HL.out.1];omega)
     show _=_
     rw[h9,List.length_replicate,show F+(U - F)=U by omega]
     unfold clrR
     simp
   have hcl:∀ ty c,(Builtin.clear_ #[22] ty #[Sz (some ⟨g,F,none⟩) (U - F) c]).run Tryd.prog w.drew=.ok (.tuple #[]) (w.drew.setCells g F (List.replicate (U - F) (I O 0))):=fun ty c=>clear_ints (cur:=zs.map (Value.int .i64)) HG.out (by omega) (by rw[List.length_map,HL.out.1];omega)
   have HLL:Hid ((clrR F U 0 zs).length=n):=by show _=_;rw[clrR_len (by omega) (by rw[HL.out.1];omega)];exact HL.out.1
   have HTT:Hid (Touch w (w.drew.setCells g F (List.replicate (U - F) (I O 0))) [p,g]):=((touch_drew (Touch.refl w [g])).trans (touch_setCells (List.replicate (U - F) (I O 0)) F w.drew)).mono (fun z hz=>by simp at hz;simp[hz])
   have d1:(F:Int)≤(U:Int):=by omega
   have d2:¬ n=F:=by omega
   have d3:(U:Int)≤(n:Int):=by omega
   have HRG:Hid (∀ i,i < n→w.cell? ⟨g,i,none⟩=some (I O (at0 zs i))):=hget
   clear hget hr1 hFe hUe EZ hlt
   rcases hF with ⟨hq1,f,hf1,hf2⟩ | ⟨hq1,hf2⟩
   · subst hq1
     subst hf2
     have hA1:(A:Int) - 1=(F:Int):=by omega
     have wF:IntKind.i64.wrap (F:Int)=(F:Int):=wrap_i64_in _ (by omega) (by omega)
     clear hf1
     rcases hU with ⟨hu1,hu2,hu3⟩ | ⟨hu1,hu2,hu3⟩ | ⟨hu1,hu3⟩
     · have hu1':(t:Int) < (n:Int):=by omega
       obtain⟨r2,hr2⟩:∃ r,r=at0 zs t:=⟨_,rfl⟩
       have c2:w.cell? ⟨g,t,none⟩=some (I O r2):=by rw[hr2];exact HRG.out t hu1
       rw[← hr2] at hu2
       clear hr2
       subst hu2
       have hu4:(t:Int)+1=(U:Int):=by omega
       have wU:IntKind.i64.wrap (U:Int)=(U:Int):=wrap_i64_in _ (by omega) (by omega)
       clear hu3
       go_enter Tryd.func105,Tryd.ntmps105
       go_wp2_with fail
       refine wp_region_held_drew (S:=fun w'=>w'.cell? ⟨p,2,none⟩=some (Sz (some ⟨g,0,none⟩) n n)) (by kernel_rfl) (show w.cell? _=_ from y2) (fun hHeld=>?_)
       refine wpAnyH_take (i:=0) (v:=I O x) rfl (by kernel_rfl) (by kernel_rfl) (by kernel_rfl) (fun _ _ _ h=>h) (Or.inl ⟨by kernel_rfl,?_⟩) (by assumption) ?_
       · intro w9 hSw;(try dsimp only at hSw);go_simp
       simp only[Act.put,lB,lC,lD,lA,lE,lF]
       refine wpAnyH_take (i:=1) (v:=I O A) rfl (by kernel_rfl) (by kernel_rfl) (by kernel_rfl) (fun _ _ _ h=>h) (Or.inl ⟨by kernel_rfl,?_⟩) (by assumption) ?_
       · intro w9 hSw;(try dsimp only at hSw);go_simp;split <;> omega
       simp only[Act.put,lB,lC,lD,lA,lE,lF]
       refine wpAnyH_take (i:=2) (v:=I O y) rfl (by kernel_rfl) (by kernel_rfl) (by kernel_rfl) (fun _ _ _ h=>h) (Or.inl ⟨by kernel_rfl,?_⟩) (by assumption) ?_
       · intro w9 hSw;(try dsimp only at hSw);go_simp
       simp only[Act.put,lB,lC,lD,lA,lE,lF]
       refine wpAnyH_take (i:=3) (v:=.pointer (some ⟨p,0,none⟩)) rfl (by kernel_rfl) (by kernel_rfl) (by kernel_rfl) (fun _ _ _ h=>h) (Or.inl ⟨by kernel_rfl,?_⟩) (by assumption) ?_
       · intro w9 hSw;(try dsimp only at hSw);go_simp
       simp only[Act.put,lB,lC,lD,lA,lE,lF]
       refine wpAnyH_take (i:=4) (v:=.pointer (some ⟨p,0,none⟩)) rfl (by kernel_rfl) (by kernel_rfl) (by kernel_rfl) (fun _ _ _ h=>h) (Or.inl ⟨by kernel_rfl,?_⟩) (by assumption) ?_
       · intro w9 hSw;(try dsimp only at hSw);go_simp
       simp only[Act.put,lB,lC,lD,lA,lE,lF]
       refine wpAnyH_take (i:=5) (v:=.pointer (some ⟨p,2,none⟩)) rfl (by kernel_rfl) (by kernel_rfl) (by kernel_rfl) (fun _ _ _ h=>h) (Or.inl ⟨by kernel_rfl,?_⟩) (by assumption) ?_
       · intro w9 hSw;(try dsimp only at hSw);go_simp
       simp only[Act.put,lB,lC,lD,lA,lE,lF]
       refine wpAnyH_take (i:=6) (v:=Sz (some ⟨g,0,none⟩) n n) rfl (by kernel_rfl) (by kernel_rfl) (by kernel_rfl) (fun _ _ _ h=>h) (Or.inl ⟨by kernel_rfl,?_⟩) (by assumption) ?_
       · intro w9 hSw;(try dsimp only at hSw);go_simp
       simp only[Act.put,lB,lC,lD,lA,lE,lF]
       refine wpAnyH_take (i:=7) (v:=I O n) rfl (by kernel_rfl) (by kernel_rfl) (by kernel_rfl) (fun _ _ _ h=>h) (Or.inl ⟨by kernel_rfl,?_⟩) (by assumption) ?_
       · intro w9 hSw;(try dsimp only at hSw);go_simp
       simp only[Act.put,lB,lC,lD,lA,lE,lF]
       refine wpAnyH_take (i:=8) (v:=I O t) rfl (by kernel_rfl) (by kernel_rfl) (by kernel_rfl) (fun _ _ _ h=>h) (Or.inl ⟨by kernel_rfl,?_⟩) (by assumption) ?_
       · intro w9 hSw;(try dsimp only at hSw);go_simp;split <;> omega
       simp only[Act.put,lB,lC,lD,lA,lE,lF]
       refine wpAnyH_take (i:=9) (v:=I O A) rfl (by kernel_rfl) (by kernel_rfl) (by kernel_rfl) (fun _ _ _ h=>h) (Or.inl ⟨by kernel_rfl,?_⟩) (by assumption) ?_
       · intro w9 hSw;(try dsimp only at hSw);go_simp
       simp only[Act.put,lB,lC,lD,lA,lE,lF]
       refine wpAnyH_take (i:=10) (v:=I O t) rfl (by kernel_rfl) (by kernel_rfl) (by kernel_rfl) (fun _ _ _ h=>h) (Or.inl ⟨by kernel_rfl,?_⟩) (by assumption) ?_
       · intro w9 hSw;(try dsimp only at hSw);go_simp
       simp only[Act.put,lB,lC,lD,lA,lE,lF]
       refine wpAnyH_done (by kernel_rfl) ?_ _
       go_wp2
       refine bodyPost_end (v:=.tuple #[]) (by simp[results,Tryd.results105,go_sem]) rfl ⟨rfl,?_,?_⟩
       · rw[HZ.out]
         exact⟨((touch_setCells (List.replicate (U - F) (Value.int .i64 0)) F w.drew).block p (box_lt (w:=w.drew) HS.out.box) (by simp;exact HS.out.ne)).trans HS.out.box,exact_row HL.out.2.2 HLL.out HL.out.2.1 HF2.out,HLL.out,HS.out.lo,HS.out.ne⟩
       · exact HTT.out
     · have hu1':(t:Int) < (n:Int):=by omega
       obtain⟨r2,hr2⟩:∃ r,r=at0 zs t:=⟨_,rfl⟩
       have c2:w.cell? ⟨g,t,none⟩=some (I O r2):=by rw[hr2];exact HRG.out t hu1
       rw[← hr2] at hu2
       clear hr2
       subst hu3
       have hu4:(r2==-33)=false:=by simpa using hu2
       clear hu2
       go_enter Tryd.func105,Tryd.ntmps105
       go_wp2_with fail
       refine wp_region_held_drew (S:=fun w'=>w'.cell? ⟨p,2,none⟩=some (Sz (some ⟨g,0,none⟩) n n)) (by kernel_rfl) (show w.cell? _=_ from y2) (fun hHeld=>?_)
       refine wpAnyH_take (i:=0) (v:=I O x) rfl (by kernel_rfl) (by kernel_rfl) (by kernel_rfl) (fun _ _ _ h=>h) (Or.inl ⟨by kernel_rfl,?_⟩) (by assumption) ?_
       · intro w9 hSw;(try dsimp only at hSw);go_simp
       simp only[Act.put,lB,lC,lD,lA,lE,lF]
       refine wpAnyH_take (i:=1) (v:=I O A) rfl (by kernel_rfl) (by kernel_rfl) (by kernel_rfl) (fun _ _ _ h=>h) (Or.inl ⟨by kernel_rfl,?_⟩) (by assumption) ?_
       · intro w9 hSw;(try dsimp only at hSw);go_simp;split <;> omega
       simp only[Act.put,lB,lC,lD,lA,lE,lF]
       refine wpAnyH_take (i:=2) (v:=I O y) rfl (by kernel_rfl) (by kernel_rfl) (by kernel_rfl) (fun _ _ _ h=>h) (Or.inl ⟨by kernel_rfl,?_⟩) (by assumption) ?_
       · intro w9 hSw;(try dsimp only at hSw);go_simp
       simp only[Act.put,lB,lC,lD,lA,lE,lF]
       refine wpAnyH_take (i:=3) (v:=.pointer (some ⟨p,0,none⟩)) rfl (by kernel_rfl) (by kernel_rfl) (by kernel_rfl) (fun _ _ _ h=>h) (Or.inl ⟨by kernel_rfl,?_⟩) (by assumption) ?_
       · intro w9 hSw;(try dsimp only at hSw);go_simp
       simp only[Act.put,lB,lC,lD,lA,lE,lF]
       refine wpAnyH_take (i:=4) (v:=.pointer (some ⟨p,0,none⟩)) rfl (by kernel_rfl) (by kernel_rfl) (by kernel_rfl) (fun _ _ _ h=>h) (Or.inl ⟨by kernel_rfl,?_⟩) (by assumption) ?_
       · intro w9 hSw;(try dsimp only at hSw);go_simp
       simp only[Act.put,lB,lC,lD,lA,lE,lF]
       refine wpAnyH_take (i:=5) (v:=.pointer (some ⟨p,2,none⟩)) rfl (by kernel_rfl) (by kernel_rfl) (by kernel_rfl) (fun _ _ _ h=>h) (Or.inl ⟨by kernel_rfl,?_⟩) (by assumption) ?_
       · intro w9 hSw;(try dsimp only at hSw);go_simp
       simp only[Act.put,lB,lC,lD,lA,lE,lF]
       refine wpAnyH_take (i:=6) (v:=Sz (some ⟨g,0,none⟩) n n) rfl (by kernel_rfl) (by kernel_rfl) (by kernel_rfl) (fun _ _ _ h=>h) (Or.inl ⟨by kernel_rfl,?_⟩) (by assumption) ?_
       · intro w9 hSw;(try dsimp only at hSw);go_simp
       simp only[Act.put,lB,lC,lD,lA,lE,lF]
       refine wpAnyH_take (i:=7) (v:=I O n) rfl (by kernel_rfl) (by kernel_rfl) (by kernel_rfl) (fun _ _ _ h=>h) (Or.inl ⟨by kernel_rfl,?_⟩) (by assumption) ?_
       · intro w9 hSw;(try dsimp only at hSw);go_simp
       simp only[Act.put,lB,lC,lD,lA,lE,lF]
       refine wpAnyH_take (i:=8) (v:=I O U) rfl (by kernel_rfl) (by kernel_rfl) (by kernel_rfl) (fun _ _ _ h=>h) (Or.inl ⟨by kernel_rfl,?_⟩) (by assumption) ?_
       · intro w9 hSw;(try dsimp only at hSw);go_simp;split <;> omega
       simp only[Act.put,lB,lC,lD,lA,lE,lF]
       refine wpAnyH_take (i:=9) (v:=I O A) rfl (by kernel_rfl) (by kernel_rfl) (by kernel_rfl) (fun _ _ _ h=>h) (Or.inl ⟨by kernel_rfl,?_⟩) (by assumption) ?_
       · intro w9 hSw;(try dsimp only at hSw);go_simp
       simp only[Act.put,lB,lC,lD,lA,lE,lF]
       refine wpAnyH_take (i:=10) (v:=I O U) rfl (by kernel_rfl) (by kernel_rfl) (by kernel_rfl) (fun _ _ _ h=>h) (Or.inl ⟨by kernel_rfl,?_⟩) (by assumption) ?_
       · intro w9 hSw;(try dsimp only at hSw);go_simp
       simp only[Act.put,lB,lC,lD,lA,lE,lF]
       refine wpAnyH_done (by kernel_rfl) ?_ _
       go_wp2
       refine bodyPost_end (v:=.tuple #[]) (by simp[results,Tryd.results105,go_sem]) rfl ⟨rfl,?_,?_⟩
       · rw[HZ.out]
         exact⟨((touch_setCells (List.replicate (U - F) (Value.int .i64 0)) F w.drew).block p (box_lt (w:=w.drew) HS.out.box) (by simp;exact HS.out.ne)).trans HS.out.box,exact_row HL.out.2.2 HLL.out HL.out.2.1 HF2.out,HLL.out,HS.out.lo,HS.out.ne⟩
       · exact HTT.out
     · subst hu3
       have hu4:¬ (U:Int) < (n:Int):=by omega
       clear hu1
       go_enter Tryd.func105,Tryd.ntmps105
       go_wp2_with fail
       refine wp_region_held_drew (S:=fun w'=>w'.cell? ⟨p,2,none⟩=some (Sz (some ⟨g,0,none⟩) n n)) (by kernel_rfl) (show w.cell? _=_ from y2) (fun hHeld=>?_)
       refine wpAnyH_take (i:=0) (v:=I O x) rfl (by kernel_rfl) (by kernel_rfl) (by kernel_rfl) (fun _ _ _ h=>h) (Or.inl ⟨by kernel_rfl,?_⟩) (by assumption) ?_
       · intro w9 hSw;(try dsimp only at hSw);go_simp
       simp only[Act.put,lB,lC,lD,lA,lE,lF]
       refine wpAnyH_take (i:=1) (v:=I O A) rfl (by kernel_rfl) (by kernel_rfl) (by kernel_rfl) (fun _ _ _ h=>h) (Or.inl ⟨by kernel_rfl,?_⟩) (by assumption) ?_
       · intro w9 hSw;(try dsimp only at hSw);go_simp;split <;> omega
       simp only[Act.put,lB,lC,lD,lA,lE,lF]
       refine wpAnyH_take (i:=2) (v:=I O y) rfl (by kernel_rfl) (by kernel_rfl) (by kernel_rfl) (fun _ _ _ h=>h) (Or.inl ⟨by kernel_rfl,?_⟩) (by assumption) ?_
       · intro w9 hSw;(try dsimp only at hSw);go_simp
       simp only[Act.put,lB,lC,lD,lA,lE,lF]
       refine wpAnyH_take (i:=3) (v:=.pointer (some ⟨p,0,none⟩)) rfl (by kernel_rfl) (by kernel_rfl) (by kernel_rfl) (fun _ _ _ h=>h) (Or.inl ⟨by kernel_rfl,?_⟩) (by assumption) ?_
       · intro w9 hSw;(try dsimp only at hSw);go_simp
       simp only[Act.put,lB,lC,lD,lA,lE,lF]
       refine wpAnyH_take (i:=4) (v:=.pointer (some ⟨p,0,none⟩)) rfl (by kernel_rfl) (by kernel_rfl) (by kernel_rfl) (fun _ _ _ h=>h) (Or.inl ⟨by kernel_rfl,?_⟩) (by assumption) ?_
       · intro w9 hSw;(try dsimp only at hSw);go_simp
       simp only[Act.put,lB,lC,lD,lA,lE,lF]
       refine wpAnyH_take (i:=5) (v:=.pointer (some ⟨p,2,none⟩)) rfl (by kernel_rfl) (by kernel_rfl) (by kernel_rfl) (fun _ _ _ h=>h) (Or.inl ⟨by kernel_rfl,?_⟩) (by assumption) ?_
       · intro w9 hSw;(try dsimp only at hSw);go_simp
       simp only[Act.put,lB,lC,lD,lA,lE,lF]
       refine wpAnyH_take (i:=6) (v:=Sz (some ⟨g,0,none⟩) n n) rfl (by kernel_rfl) (by kernel_rfl) (by kernel_rfl) (fun _ _ _ h=>h) (Or.inl ⟨by kernel_rfl,?_⟩) (by assumption) ?_
       · intro w9 hSw;(try dsimp only at hSw);go_simp
       simp only[Act.put,lB,lC,lD,lA,lE,lF]
       refine wpAnyH_take (i:=7) (v:=I O n) rfl (by kernel_rfl) (by kernel_rfl) (by kernel_rfl) (fun _ _ _ h=>h) (Or.inl ⟨by kernel_rfl,?_⟩) (by assumption) ?_
       · intro w9 hSw;(try dsimp only at hSw);go_simp
       simp only[Act.put,lB,lC,lD,lA,lE,lF]
       refine wpAnyH_take (i:=8) (v:=I O U) rfl (by kernel_rfl) (by kernel_rfl) (by kernel_rfl) (fun _ _ _ h=>h) (Or.inl ⟨by kernel_rfl,?_⟩) (by assumption) ?_
       · intro w9 hSw;(try dsimp only at hSw);go_simp;split <;> omega
       simp only[Act.put,lB,lC,lD,lA,lE,lF]
       refine wpAnyH_take (i:=9) (v:=I O A) rfl (by kernel_rfl) (by kernel_rfl) (by kernel_rfl) (fun _ _ _ h=>h) (Or.inl ⟨by kernel_rfl,?_⟩) (by assumption) ?_
       · intro w9 hSw;(try dsimp only at hSw);go_simp
       simp only[Act.put,lB,lC,lD,lA,lE,lF]
       refine wpAnyH_take (i:=10) (v:=I O U) rfl (by kernel_rfl) (by kernel_rfl) (by kernel_rfl) (fun _ _ _ h=>h) (Or.inl ⟨by kernel_rfl,?_⟩) (by assumption) ?_
       · intro w9 hSw;(try dsimp only at hSw);go_simp
       simp only[Act.put,lB,lC,lD,lA,lE,lF]
       refine wpAnyH_done (by kernel_rfl) ?_ _
       go_wp2
       refine bodyPost_end (v:=.tuple #[]) (by simp[results,Tryd.results105,go_sem]) rfl ⟨rfl,?_,?_⟩
       · rw[HZ.out]
         exact⟨((touch_setCells (List.replicate (U - F) (Value.int .i64 0)) F w.drew).block p (box_lt (w:=w.drew) HS.out.box) (by simp;exact HS.out.ne)).trans HS.out.box,exact_row HL.out.2.2 HLL.out HL.out.2.1 HF2.out,HLL.out,HS.out.lo,HS.out.ne⟩
       · exact HTT.out
   · subst hf2
     have hq2:(r1==-33)=false:=by simpa using hq1
     clear hq1
     rcases hU with ⟨hu1,hu2,hu3⟩ | ⟨hu1,hu2,hu3⟩ | ⟨hu1,hu3⟩
     · have hu1':(t:Int) < (n:Int):=by omega
       obtain⟨r2,hr2⟩:∃ r,r=at0 zs t:=⟨_,rfl⟩
       have c2:w.cell? ⟨g,t,none⟩=some (I O r2):=by rw[hr2];exact HRG.out t hu1
       rw[← hr2] at hu2
       clear hr2
       subst hu2
       have hu4:(t:Int)+1=(U:Int):=by omega
       have wU:IntKind.i64.wrap (U:Int)=(U:Int):=wrap_i64_in _ (by omega) (by omega)
       clear hu3
       go_enter Tryd.func105,Tryd.ntmps105
       go_wp2_with fail
       refine wp_region_held_drew (S:=fun w'=>w'.cell? ⟨p,2,none⟩=some (Sz (some ⟨g,0,none⟩) n n)) (by kernel_rfl) (show w.cell? _=_ from y2) (fun hHeld=>?_)
       refine wpAnyH_take (i:=0) (v:=I O x) rfl (by kernel_rfl) (by kernel_rfl) (by kernel_rfl) (fun _ _ _ h=>h) (Or.inl ⟨by kernel_rfl,?_⟩) (by assumption) ?_
       · intro w9 hSw;(try dsimp only at hSw);go_simp
       simp only[Act.put,lB,lC,lD,lA,lE,lF]
       refine wpAnyH_take (i:=1) (v:=I O F) rfl (by kernel_rfl) (by kernel_rfl) (by kernel_rfl) (fun _ _ _ h=>h) (Or.inl ⟨by kernel_rfl,?_⟩) (by assumption) ?_
       · intro w9 hSw;(try dsimp only at hSw);go_simp;split <;> omega
       simp only[Act.put,lB,lC,lD,lA,lE,lF]
       refine wpAnyH_take (i:=2) (v:=I O y) rfl (by kernel_rfl) (by kernel_rfl) (by kernel_rfl) (fun _ _ _ h=>h) (Or.inl ⟨by kernel_rfl,?_⟩) (by assumption) ?_
       · intro w9 hSw;(try dsimp only at hSw);go_simp
       simp only[Act.put,lB,lC,lD,lA,lE,lF]
       refine wpAnyH_take (i:=3) (v:=.pointer (some ⟨p,0,none⟩)) rfl (by kernel_rfl) (by kernel_rfl) (by kernel_rfl) (fun _ _ _ h=>h) (Or.inl ⟨by kernel_rfl,?_⟩) (by assumption) ?_
       · intro w9 hSw;(try dsimp only at hSw);go_simp
       simp only[Act.put,lB,lC,lD,lA,lE,lF]
       refine wpAnyH_take (i:=4) (v:=.pointer (some ⟨p,0,none⟩)) rfl (by kernel_rfl) (by kernel_rfl) (by kernel_rfl) (fun _ _ _ h=>h) (Or.inl ⟨by kernel_rfl,?_⟩) (by assumption) ?_
       · intro w9 hSw;(try dsimp only at hSw);go_simp
       simp only[Act.put,lB,lC,lD,lA,lE,lF]
       refine wpAnyH_take (i:=5) (v:=.pointer (some ⟨p,2,none⟩)) rfl (by kernel_rfl) (by kernel_rfl) (by kernel_rfl) (fun _ _ _ h=>h) (Or.inl ⟨by kernel_rfl,?_⟩) (by assumption) ?_
       · intro w9 hSw;(try dsimp only at hSw);go_simp
       simp only[Act.put,lB,lC,lD,lA,lE,lF]
       refine wpAnyH_take (i:=6) (v:=Sz (some ⟨g,0,none⟩) n n) rfl (by kernel_rfl) (by kernel_rfl) (by kernel_rfl) (fun _ _ _ h=>h) (Or.inl ⟨by kernel_rfl,?_⟩) (by assumption) ?_
       · intro w9 hSw;(try dsimp only at hSw);go_simp
       simp only[Act.put,lB,lC,lD,lA,lE,lF]
       refine wpAnyH_take (i:=7) (v:=I O n) rfl (by kernel_rfl) (by kernel_rfl) (by kernel_rfl) (fun _ _ _ h=>h) (Or.inl ⟨by kernel_rfl,?_⟩) (by assumption) ?_
       · intro w9 hSw;(try dsimp only at hSw);go_simp
       simp only[Act.put,lB,lC,lD,lA,lE,lF]
       refine wpAnyH_take (i:=8) (v:=I O t) rfl (by kernel_rfl) (by kernel_rfl) (by kernel_rfl) (fun _ _ _ h=>h) (Or.inl ⟨by kernel_rfl,?_⟩) (by assumption) ?_
       · intro w9 hSw;(try dsimp only at hSw);go_simp;split <;> omega
       simp only[Act.put,lB,lC,lD,lA,lE,lF]
       refine wpAnyH_take (i:=9) (v:=I O F) rfl (by kernel_rfl) (by kernel_rfl) (by kernel_rfl) (fun _ _ _ h=>h) (Or.inl ⟨by kernel_rfl,?_⟩) (by assumption) ?_
       · intro w9 hSw;(try dsimp only at hSw);go_simp
       simp only[Act.put,lB,lC,lD,lA,lE,lF]
       refine wpAnyH_take (i:=10) (v:=I O t) rfl (by kernel_rfl) (by kernel_rfl) (by kernel_rfl) (fun _ _ _ h=>h) (Or.inl ⟨by kernel_rfl,?_⟩) (by assumption) ?_
       · intro w9 hSw;(try dsimp only at hSw);go_simp
       simp only[Act.put,lB,lC,lD,lA,lE,lF]
       refine wpAnyH_done (by kernel_rfl) ?_ _
       go_wp2
       refine bodyPost_end (v:=.tuple #[]) (by simp[results,Tryd.results105,go_sem]) rfl ⟨rfl,?_,?_⟩
       · rw[HZ.out]
         exact⟨((touch_setCells (List.replicate (U - F) (Value.int .i64 0)) F w.drew).block p (box_lt (w:=w.drew) HS.out.box) (by simp;exact HS.out.ne)).trans HS.out.box,exact_row HL.out.2.2 HLL.out HL.out.2.1 HF2.out,HLL.out,HS.out.lo,HS.out.ne⟩
       · exact HTT.out
     · have hu1':(t:Int) < (n:Int):=by omega
       obtain⟨r2,hr2⟩:∃ r,r=at0 zs t:=⟨_,rfl⟩
       have c2:w.cell? ⟨g,t,none⟩=some (I O r2):=by rw[hr2];exact HRG.out t hu1
       rw[← hr2] at hu2
       clear hr2
       subst hu3
       have hu4:(r2==-33)=false:=by simpa using hu2
       clear hu2
       go_enter Tryd.func105,Tryd.ntmps105
       go_wp2_with fail
       refine wp_region_held_drew (S:=fun w'=>w'.cell? ⟨p,2,none⟩=some (Sz (some ⟨g,0,none⟩) n n)) (by kernel_rfl) (show w.cell? _=_ from y2) (fun hHeld=>?_)
       refine wpAnyH_take (i:=0) (v:=I O x) rfl (by kernel_rfl) (by kernel_rfl) (by kernel_rfl) (fun _ _ _ h=>h) (Or.inl ⟨by kernel_rfl,?_⟩) (by assumption) ?_
       · intro w9 hSw;(try dsimp only at hSw);go_simp
       simp only[Act.put,lB,lC,lD,lA,lE,lF]
       refine wpAnyH_take (i:=1) (v:=I O F) rfl (by kernel_rfl) (by kernel_rfl) (by kernel_rfl) (fun _ _ _ h=>h) (Or.inl ⟨by kernel_rfl,?_⟩) (by assumption) ?_
       · intro w9 hSw;(try dsimp only at hSw);go_simp;split <;> omega
       simp only[Act.put,lB,lC,lD,lA,lE,lF]
       refine wpAnyH_take (i:=2) (v:=I O y) rfl (by kernel_rfl) (by kernel_rfl) (by kernel_rfl) (fun _ _ _ h=>h) (Or.inl ⟨by kernel_rfl,?_⟩) (by assumption) ?_
       · intro w9 hSw;(try dsimp only at hSw);go_simp
       simp only[Act.put,lB,lC,lD,lA,lE,lF]
       refine wpAnyH_take (i:=3) (v:=.pointer (some ⟨p,0,none⟩)) rfl (by kernel_rfl) (by kernel_rfl) (by kernel_rfl) (fun _ _ _ h=>h) (Or.inl ⟨by kernel_rfl,?_⟩) (by assumption) ?_
       · intro w9 hSw;(try dsimp only at hSw);go_simp
       simp only[Act.put,lB,lC,lD,lA,lE,lF]
       refine wpAnyH_take (i:=4) (v:=.pointer (some ⟨p,0,none⟩)) rfl (by kernel_rfl) (by kernel_rfl) (by kernel_rfl) (fun _ _ _ h=>h) (Or.inl ⟨by kernel_rfl,?_⟩) (by assumption) ?_
       · intro w9 hSw;(try dsimp only at hSw);go_simp
       simp only[Act.put,lB,lC,lD,lA,lE,lF]
       refine wpAnyH_take (i:=5) (v:=.pointer (some ⟨p,2,none⟩)) rfl (by kernel_rfl) (by kernel_rfl) (by kernel_rfl) (fun _ _ _ h=>h) (Or.inl ⟨by kernel_rfl,?_⟩) (by assumption) ?_
       · intro w9 hSw;(try dsimp only at hSw);go_simp
       simp only[Act.put,lB,lC,lD,lA,lE,lF]
       refine wpAnyH_take (i:=6) (v:=Sz (some ⟨g,0,none⟩) n n) rfl (by kernel_rfl) (by kernel_rfl) (by kernel_rfl) (fun _ _ _ h=>h) (Or.inl ⟨by kernel_rfl,?_⟩) (by assumption) ?_
       · intro w9 hSw;(try dsimp only at hSw);go_simp
       simp only[Act.put,lB,lC,lD,lA,lE,lF]
       refine wpAnyH_take (i:=7) (v:=I O n) rfl (by kernel_rfl) (by kernel_rfl) (by kernel_rfl) (fun _ _ _ h=>h) (Or.inl ⟨by kernel_rfl,?_⟩) (by assumption) ?_
       · intro w9 hSw;(try dsimp only at hSw);go_simp
       simp only[Act.put,lB,lC,lD,lA,lE,lF]
       refine wpAnyH_take (i:=8) (v:=I O U) rfl (by kernel_rfl) (by kernel_rfl) (by kernel_rfl) (fun _ _ _ h=>h) (Or.inl ⟨by kernel_rfl,?_⟩) (by assumption) ?_
       · intro w9 hSw;(try dsimp only at hSw);go_simp;split <;> omega
       simp only[Act.put,lB,lC,lD,lA,lE,lF]
       refine wpAnyH_take (i:=9) (v:=I O F) rfl (by kernel_rfl) (by kernel_rfl) (by kernel_rfl) (fun _ _ _ h=>h) (Or.inl ⟨by kernel_rfl,?_⟩) (by assumption) ?_
       · intro w9 hSw;(try dsimp only at hSw);go_simp
       simp only[Act.put,lB,lC,lD,lA,lE,lF]
       refine wpAnyH_take (i:=10) (v:=I O U) rfl (by kernel_rfl) (by kernel_rfl) (by kernel_rfl) (fun _ _ _ h=>h) (Or.inl ⟨by kernel_rfl,?_⟩) (by assumption) ?_
       · intro w9 hSw;(try dsimp only at hSw);go_simp
       simp only[Act.put,lB,lC,lD,lA,lE,lF]
       refine wpAnyH_done (by kernel_rfl) ?_ _
       go_wp2
       refine bodyPost_end (v:=.tuple #[]) (by simp[results,Tryd.results105,go_sem]) rfl ⟨rfl,?_,?_⟩
       · rw[HZ.out]
         exact⟨((touch_setCells (List.replicate (U - F) (Value.int .i64 0)) F w.drew).block p (box_lt (w:=w.drew) HS.out.box) (by simp;exact HS.out.ne)).trans HS.out.box,exact_row HL.out.2.2 HLL.out HL.out.2.1 HF2.out,HLL.out,HS.out.lo,HS.out.ne⟩
       · exact HTT.out
     · subst hu3
       have hu4:¬ (U:Int) < (n:Int):=by omega
       clear hu1
       go_enter Tryd.func105,Tryd.ntmps105
       go_wp2_with fail
       refine wp_region_held_drew (S:=fun w'=>w'.cell? ⟨p,2,none⟩=some (Sz (some ⟨g,0,none⟩) n n)) (by kernel_rfl) (show w.cell? _=_ from y2) (fun hHeld=>?_)
       refine wpAnyH_take (i:=0) (v:=I O x) rfl (by kernel_rfl) (by kernel_rfl) (by kernel_rfl) (fun _ _ _ h=>h) (Or.inl ⟨by kernel_rfl,?_⟩) (by assumption) ?_
       · intro w9 hSw;(try dsimp only at hSw);go_simp
       simp only[Act.put,lB,lC,lD,lA,lE,lF]
       refine wpAnyH_take (i:=1) (v:=I O F) rfl (by kernel_rfl) (by kernel_rfl) (by kernel_rfl) (fun _ _ _ h=>h) (Or.inl ⟨by kernel_rfl,?_⟩) (by assumption) ?_
       · intro w9 hSw;(try dsimp only at hSw);go_simp;split <;> omega
       simp only[Act.put,lB,lC,lD,lA,lE,lF]
       refine wpAnyH_take (i:=2) (v:=I O y) rfl (by kernel_rfl) (by kernel_rfl) (by kernel_rfl) (fun _ _ _ h=>h) (Or.inl ⟨by kernel_rfl,?_⟩) (by assumption) ?_
       · intro w9 hSw;(try dsimp only at hSw);go_simp
       simp only[Act.put,lB,lC,lD,lA,lE,lF]
       refine wpAnyH_take (i:=3) (v:=.pointer (some ⟨p,0,none⟩)) rfl (by kernel_rfl) (by kernel_rfl) (by kernel_rfl) (fun _ _ _ h=>h) (Or.inl ⟨by kernel_rfl,?_⟩) (by assumption) ?_
       · intro w9 hSw;(try dsimp only at hSw);go_simp
       simp only[Act.put,lB,lC,lD,lA,lE,lF]
       refine wpAnyH_take (i:=4) (v:=.pointer (some ⟨p,0,none⟩)) rfl (by kernel_rfl) (by kernel_rfl) (by kernel_rfl) (fun _ _ _ h=>h) (Or.inl ⟨by kernel_rfl,?_⟩) (by assumption) ?_
       · intro w9 hSw;(try dsimp only at hSw);go_simp
       simp only[Act.put,lB,lC,lD,lA,lE,lF]
       refine wpAnyH_take (i:=5) (v:=.pointer (some ⟨p,2,none⟩)) rfl (by kernel_rfl) (by kernel_rfl) (by kernel_rfl) (fun _ _ _ h=>h) (Or.inl ⟨by kernel_rfl,?_⟩) (by assumption) ?_
       · intro w9 hSw;(try dsimp only at hSw);go_simp
       simp only[Act.put,lB,lC,lD,lA,lE,lF]
       refine wpAnyH_take (i:=6) (v:=Sz (some ⟨g,0,none⟩) n n) rfl (by kernel_rfl) (by kernel_rfl) (by kernel_rfl) (fun _ _ _ h=>h) (Or.inl ⟨by kernel_rfl,?_⟩) (by assumption) ?_
       · intro w9 hSw;(try dsimp only at hSw);go_simp
       simp only[Act.put,lB,lC,lD,lA,lE,lF]
       refine wpAnyH_take (i:=7) (v:=I O n) rfl (by kernel_rfl) (by kernel_rfl) (by kernel_rfl) (fun _ _ _ h=>h) (Or.inl ⟨by kernel_rfl,?_⟩) (by assumption) ?_
       · intro w9 hSw;(try dsimp only at hSw);go_simp
       simp only[Act.put,lB,lC,lD,lA,lE,lF]
       refine wpAnyH_take (i:=8) (v:=I O U) rfl (by kernel_rfl) (by kernel_rfl) (by kernel_rfl) (fun _ _ _ h=>h) (Or.inl ⟨by kernel_rfl,?_⟩) (by assumption) ?_
       · intro w9 hSw;(try dsimp only at hSw);go_simp;split <;> omega
       simp only[Act.put,lB,lC,lD,lA,lE,lF]
       refine wpAnyH_take (i:=9) (v:=I O F) rfl (by kernel_rfl) (by kernel_rfl) (by kernel_rfl) (fun _ _ _ h=>h) (Or.inl ⟨by kernel_rfl,?_⟩) (by assumption) ?_
       · intro w9 hSw;(try dsimp only at hSw);go_simp
       simp only[Act.put,lB,lC,lD,lA,lE,lF]
       refine wpAnyH_take (i:=10) (v:=I O U) rfl (by kernel_rfl) (by kernel_rfl) (by kernel_rfl) (fun _ _ _ h=>h) (Or.inl ⟨by kernel_rfl,?_⟩) (by assumption) ?_
       · intro w9 hSw;(try dsimp only at hSw);go_simp
       simp only[Act.put,lB,lC,lD,lA,lE,lF]
       refine wpAnyH_done (by kernel_rfl) ?_ _
       go_wp2
       refine bodyPost_end (v:=.tuple #[]) (by simp[results,Tryd.results105,go_sem]) rfl ⟨rfl,?_,?_⟩
       · rw[HZ.out]
         exact⟨((touch_setCells (List.replicate (U - F) (Value.int .i64 0)) F w.drew).block p (box_lt (w:=w.drew) HS.out.box) (by simp;exact HS.out.ne)).trans HS.out.box,exact_row HL.out.2.2 HLL.out HL.out.2.1 HF2.out,HLL.out,HS.out.lo,HS.out.ne⟩
       · exact HTT.out
end Go.Proofs.YthodinpflcbklaaDoor
namespace Go.Proofs.YthodinpflcbklaaDoor
open Go.RowKit
def ersC(n x a y:Int)(zs:List Int):List Int:=if n=0 then clrZ (-33) 0 a y zs else if n=1 then clrZ (-33) 0 x (a+1) zs else if n=2 then clrZ (-33) 0 x y zs else zs
set_option maxRecDepth 100000 in
theorem erase_any (B t p g n:Nat) (W H X Y x y:Int) (wr:Bool) (zs:List Int) (st:Int) (av:Value) (al:List Int) (pv:Value) (pl:List Int) (be:Int) (fv:Value) (w:World) (h:TermAt w B t p g n W H X Y wr zs st av al pv pl be fv)
   (hn:n≤8000) (hn0:0 < n) (h0:at0 zs 0≠-33) (hb:0≤X∧X≤200∧0≤Y∧Y≤200∧0≤W∧W≤200) (hYW:0≤Y*W∧Y*W≤40000) (hxy:-100000≤x∧x≤100000∧-100000≤y∧y≤100000) :
   Calls Tryd.prog 102 #[.pointer (some ⟨t,0,none⟩),I O x,I O y] w fun e w'=>e=.returned (.tuple #[])∧TermAt w' B t p g n W H X Y wr (ersC (at0 al 0) x (Y*W+X) y zs) st av al pv pl be fv∧Kp B w w':=by
 have qa:Hid (∀ w',TermAt w' B t p g n W H X Y wr zs st av al pv pl be fv→Calls Tryd.prog 108 #[.pointer (some ⟨t,0,none⟩),I O 0] w' fun e w''=>e=.returned (I O (at0 al 0))∧w''=w'):=fun w' h=>arg_any B t p g n 0 W H X Y wr zs st av al pv pl be fv w' h (by omega)
 have qb:Hid (∀ w' x y,TermAt w' B t p g n W H X Y wr zs st av al pv pl be fv→Calls Tryd.prog 105 #[.pointer (some ⟨p,0,none⟩),I O x,I O y] w' fun e w''=>e=.returned (.tuple #[])∧TermAt w'' B t p g n W H X Y wr (clrZ (-33) 0 x y zs) st av al pv pl be fv∧Kp B w' w''):=fun w' x y h =>
   (blank_any p g n B W H X Y x y wr zs w' h.sheet hn hn0 h0).mono fun e w'' ⟨he,hs,ht⟩=>⟨he,h.sheet' ht (fun k hk=>by simpa using hk) hs⟩
 have HT:Hid (∀ q,TermAt (w.drewN q) B t p g n W H X Y wr zs st av al pv pl be fv):=fun q=>h.drewN q
 have HK:Hid (∀ q,Kp B w (w.drewN q)):=fun q=>kp_drewN B w q
 have y0:w.cell? ⟨t,0,none⟩=some (.pointer (some ⟨p,0,none⟩)):=bxc h.box rfl
 have s0:w.cell? ⟨p,0,none⟩=some (I O W):=bxc h.sheet.box rfl
 have s3:w.cell? ⟨p,3,none⟩=some (I O X):=bxc h.sheet.box rfl
 have s4:w.cell? ⟨p,4,none⟩=some (I O Y):=bxc h.sheet.box rfl
 obtain⟨m,hm⟩:∃ m,m=Y*W:=⟨_,rfl⟩
 have hm':Y*W=m:=hm.symm
 rw[hm'] at hYW ⊢
 have w1:IntKind.i64.wrap m=m:=wrap_i64_in _ (by omega) (by omega)
 have w2:IntKind.i64.wrap (m+X)=m+X:=wrap_i64_in _ (by omega) (by omega)
 have w3:IntKind.i64.wrap (m+X+1)=m+X+1:=wrap_i64_in _ (by omega) (by omega)
 obtain⟨v,hv⟩:∃ v,v=at0 al 0:=⟨_,rfl⟩
 rw[← hv] at qa ⊢
 clear h hv hm
 unfold ersC
 by_cases e0:v=0
 · subst e0
   rw[if_pos rfl]
   go_enter Tryd.func102,Tryd.ntmps102
   go_wp2
   go_quiet (fail)
   go_wp2_with fail
   refine(qa.out _ (HT.out _)).mono ?_
   rintro e w9 ⟨rfl,rfl⟩
   go_wp2_with fail
   refine(qb.out _ _ _ (HT.out _)).mono ?_
   rintro e w9 ⟨rfl,h9,k9⟩
   have HH:Hid (_∧_):=⟨h9,(HK.out _).trans k9⟩
   clear h9 k9
   go_wp2
   (try simp only[Exit.inBlock,Exit.then])
   refine bodyPost_end (v:=.tuple #[]) (by simp[results,Tryd.results102,go_sem]) rfl ⟨rfl,HH.out⟩
 · rw[if_neg e0]
   have d0:(v==0)=false:=by simpa using e0
   by_cases e1:v=1
   · subst e1
     rw[if_pos rfl]
     go_enter Tryd.func102,Tryd.ntmps102
     go_wp2
     go_quiet (fail)
     go_wp2_with fail
     refine(qa.out _ (HT.out _)).mono ?_
     rintro e w9 ⟨rfl,rfl⟩
     go_wp2_with fail
     refine(qb.out _ _ _ (HT.out _)).mono ?_
     rintro e w9 ⟨rfl,h9,k9⟩
     have HH:Hid (_∧_):=⟨h9,(HK.out _).trans k9⟩
     clear h9 k9
     go_wp2
     (try simp only[Exit.inBlock,Exit.then])
     refine bodyPost_end (v:=.tuple #[]) (by simp[results,Tryd.results102,go_sem]) rfl ⟨rfl,HH.out⟩
   · rw[if_neg e1]
     have d1:(v==1)=false:=by simpa using e1
     by_cases e2:v=2
     · subst e2
       rw[if_pos rfl]
       go_enter Tryd.func102,Tryd.ntmps102
       go_wp2
       go_quiet (fail)
       go_wp2_with fail
       refine(qa.out _ (HT.out _)).mono ?_
       rintro e w9 ⟨rfl,rfl⟩
       go_wp2_with fail
       refine(qb.out _ _ _ (HT.out _)).mono ?_
       rintro e w9 ⟨rfl,h9,k9⟩
       have HH:Hid (_∧_):=⟨h9,(HK.out _).trans k9⟩
       clear h9 k9
       go_wp2
       (try simp only[Exit.inBlock,Exit.then])
       refine bodyPost_end (v:=.tuple #[]) (by simp[results,Tryd.results102,go_sem]) rfl ⟨rfl,HH.out⟩
     · rw[if_neg e2]
       have d2:(v==2)=false:=by simpa using e2
       clear e0 e1 e2
       go_enter Tryd.func102,Tryd.ntmps102
       go_wp2
       go_quiet (fail)
       go_wp2_with fail
       refine(qa.out _ (HT.out _)).mono ?_
       rintro e w9 ⟨rfl,rfl⟩
       go_wp2
       (try simp only[Exit.inBlock,Exit.then])
       refine bodyPost_end (v:=.tuple #[]) (by simp[results,Tryd.results102,go_sem]) rfl ⟨rfl,HT.out _,HK.out _⟩
end Go.Proofs.YthodinpflcbklaaDoor
