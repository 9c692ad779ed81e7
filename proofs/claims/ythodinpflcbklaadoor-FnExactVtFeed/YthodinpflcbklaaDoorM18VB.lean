/-
  Parts of the road to VB, joined: TmI, VtP, GrC, VtN, TmX, GrSGo.
-/
import Derived.Test.YthodinpflcbklaaDoorM8VB
import Derived.Test.YthodinpflcbklaaDoorM14VB
import Derived.Test.YthodinpflcbklaaDoorM17VB
import Derived.Test.YthodinpflcbklaaDoorM6VB
import Derived.Test.YthodinpflcbklaaDoorM3VB
import Derived.Test.YthodinpflcbklaaDoorM7VB
import Derived.Test.YthodinpflcbklaaDoorM13VB
import Derived.Deep.AppendLies
import Derived.Test.YthodinpflcbklaaDoorM15VB
open Go.Value renaming int → I,slice → Sz
open Go.IntKind renaming i64 → O
open List renaming setIfInBounds_toArray → lA,getElem_toArray → lB,getElem_cons_succ → lC,getElem_cons_zero → lD,set_cons_zero → lE,set_cons_succ → lF
set_option linter.unusedVariables false
set_option linter.unusedSimpArgs false
set_option maxHeartbeats 40000000
namespace Go.Proofs.YthodinpflcbklaaDoor
open Go.RowKit
set_option maxRecDepth 100000
theorem own_caps{w:World}{B n m c:Nat}{e:TypeId}{size:Nat}{a:Option Addr}{xs:List Value}(h:w.ownsRow B e size (Sz a m c) n xs):n≤c∧c≤maxLen:=by
 rcases h.2 with ⟨h1,h2⟩ | ⟨g,cap,cur,h1,_,_,h3,h4,_⟩
 · simp only[Value.slice.injEq] at h1
   obtain⟨_,_,rfl⟩:=h1
   subst h2
   exact⟨Nat.zero_le _,Nat.zero_le _⟩
 · simp only[Value.slice.injEq] at h1
   obtain⟨_,_,rfl⟩:=h1
   exact⟨h3,h4⟩
theorem own_rd{w:World}{B n c:Nat}{a:Option Addr}{pl:List Int}(h:w.ownsRow B 5 1 (Sz a n c) n (pl.map (Value.int .u8)))(hp:∀ x ∈ pl,0≤x∧x≤255):Rd w a pl:=by
 have hlen:pl.length=n:=by have:=h.1;simpa using this
 refine⟨fun i=>?_,?_⟩
 · by_cases hi:i < pl.length
   · simp[hi];exact hp _ (List.getElem_mem hi)
   · simp[List.getElem?_eq_none (Nat.le_of_not_lt hi)]
 · rcases Nat.eq_zero_or_pos n with h0 | h0
   · left;exact List.eq_nil_of_length_eq_zero (by omega)
   · right
     obtain⟨g,cap,hv,h1,h2⟩:=own_form h h0
     simp only[Value.slice.injEq,true_and] at hv
     obtain⟨rfl,rfl⟩:=hv
     refine⟨g,0,rfl,h2,fun i hi=>?_⟩
     rw[Nat.zero_add,h.cellAt i (by omega)]
     simp[hi]
theorem TermAt.later{w w':World}{B t p g n:Nat}{W H X Y:Int}{wr:Bool}{zs:List Int}{st:Int}{av:Value}{al:List Int}{pv:Value}{pl:List Int}{be:Int}{fv:Value}(h:TermAt w B t p g n W H X Y wr zs st av al pv pl be fv)(hb:Below w.heap.size w w'):TermAt w' B t p g n W H X Y wr zs st av al pv pl be fv:=
 ⟨(hb.block _ (box_lt h.box)).trans h.box,h.sheet.later hb,own_later h.args hb,own_later h.part hb,h.lo,h.tp,h.tg,h.far,h.farP,h.two⟩
theorem kp_below{B:Nat}{w w':World}(h:B≤w.heap.size)(hb:Below w.heap.size w w'):Kp B w w':=fun w0 h0=>h0.trans (hb.mono h)
theorem TermAt.put_part{w w2:World}{B t p g n:Nat}{W H X Y:Int}{wr:Bool}{zs:List Int}{st:Int}{av:Value}{al:List Int}{pv:Value}{pl:List Int}{be:Int}{fv:Value}{row:Option Nat}(h:TermAt w B t p g n W H X Y wr zs st av al pv pl be fv)(hg:w.grownBy w2 row)(hr:∀ k,row=some k→k≠t∧k≠p∧k≠g∧av.ownBlock≠some k){pv':Value}{pl':List Int}(ho:w2.ownsRow B 5 1 pv' pl'.length (pl'.map (Value.int .u8)))(hf:∀ k,pv'.ownBlock=some k→k≠t∧k≠p∧k≠g∧av.ownBlock≠some k):
   TermAt (w2.setCell ⟨t,3,none⟩ pv') B t p g n W H X Y wr zs st av al pv' pl' be fv:=by
 have b2:w2.heap[t]?=_:=(hg.block t (box_lt h.box) (fun e=>(hr t e.symm).1 rfl)).trans h.box
 have s2:SheetAt w2 B p g n W H X Y wr zs:=⟨(hg.block p (box_lt h.sheet.box) (fun e=>(hr p e.symm).2.1 rfl)).trans h.sheet.box,h.sheet.row.kept hg (.inr (fun e=>(hr g (by rw[← e];rfl)).2.2.1 rfl)),h.sheet.len,h.sheet.lo,h.sheet.ne⟩
 have a2:w2.ownsRow B 3 1 av al.length (al.map (Value.int .i64)):=h.args.kept hg (by
   cases hp:av.ownBlock with
   | none=>exact .inl rfl
   | some k=>exact .inr (fun e=>(hr k e.symm).2.2.2 hp))
 exact⟨by have:=box_set (j:=3) pv' b2;simpa using this,sheet_setT _ s2 h.tp h.tg,own_setT a2 (fun e=>(h.far t e).1 rfl),own_setT ho (fun e=>(hf t e).1 rfl),h.lo,h.tp,h.tg,h.far,fun k e=>⟨(hf k e).1,(hf k e).2.1,(hf k e).2.2.1⟩,fun k e1 e2=>(hf k e2).2.2.2 e1⟩
def gaP(pl:List Int)(b:Int):List Int:=if rbgB (pl++[b])=true then pl++[b] else []
def gaD(d:GrD)(pl:List Int)(b:Int):GrD:=if 0 < (rra (pl++[b]) 0).2 then putN d (rra (pl++[b]) 0).1 else d
theorem gather_any(B t p g n:Nat)(W H X Y:Int)(wr:Bool)(zs:List Int)(st:Int)(av:Value)(al:List Int)(pv:Value)(pl:List Int)(be:Int)(fv:Value)(b:Int)(w:World)(h:TermAt w B t p g n W H X Y wr (up (-32) zs) st av al pv pl be fv)(hl:zs.length=n)(hg:gokB (W,H,zs,X,Y,wr,())=true)(hb:0≤b∧b≤255)(hp:∀ x ∈ pl,0≤x∧x≤255)(hpl:pl.length≤1000)(hT:∀ w',Kp B w w'→Tabs w'):
   Calls Tryd.prog 92 #[.pointer (some ⟨t,0,none⟩),I .u8 b] w fun e w'=>e=.returned (.tuple #[])∧(∃ pv',TermAt w' B t p g n W H (gaD (W,H,zs,X,Y,wr,()) pl b).2.2.2.1 (gaD (W,H,zs,X,Y,wr,()) pl b).2.2.2.2.1 (gaD (W,H,zs,X,Y,wr,()) pl b).2.2.2.2.2.1 (up (-32) (gaD (W,H,zs,X,Y,wr,()) pl b).2.2.1) st av al pv' (gaP pl b) be fv)∧Kp B w w':=by
 obtain⟨i0,hi,hz0,hz1,hz2⟩:=info_parts Tryd.infoB
 obtain⟨a0,c0,hv⟩:=own_formV h.part
 subst hv
 obtain⟨ql,hq⟩:∃ ql,ql=pl++[b]:=⟨_,rfl⟩
 have hqb:∀ x ∈ ql,0≤x∧x≤255:=by
   intro x hx
   rw[hq] at hx
   rcases List.mem_append.1 hx with h1 | h1
   · exact hp x h1
   · rw[List.mem_singleton.1 h1];exact hb
 have hql:ql.length=pl.length+1:=by rw[hq];simp
 obtain⟨rv,hrv⟩:∃ r,r=(rra ql 0).1:=⟨_,rfl⟩
 obtain⟨rn,hrn⟩:∃ r,r=(rra ql 0).2:=⟨_,rfl⟩
 obtain⟨bg,hbg⟩:∃ r,r=rbgB ql:=⟨_,rfl⟩
 have EP:gaP pl b=if bg=true then ql else []:=by unfold gaP;rw[← hq,← hbg]
 have ED:gaD (W,H,zs,X,Y,wr,()) pl b=if 0 < rn then putN (W,H,zs,X,Y,wr,()) rv else (W,H,zs,X,Y,wr,()):=by unfold gaD;rw[← hq,← hrv,← hrn]
 obtain⟨X',hX⟩:∃ x,x=(putN (W,H,zs,X,Y,wr,()) rv).2.2.2.1:=⟨_,rfl⟩
 obtain⟨Y',hY⟩:∃ x,x=(putN (W,H,zs,X,Y,wr,()) rv).2.2.2.2.1:=⟨_,rfl⟩
 obtain⟨wr',hw⟩:∃ x,x=(putN (W,H,zs,X,Y,wr,()) rv).2.2.2.2.2.1:=⟨_,rfl⟩
 obtain⟨Z',hz⟩:∃ x,x=up (-32) (putN (W,H,zs,X,Y,wr,()) rv).2.2.1:=⟨_,rfl⟩
 have qp:Hid (∀ w' pv',TermAt w' B t p g n W H X Y wr (up (-32) zs) st av al pv' ql be fv→Calls Tryd.prog 95 #[.pointer (some ⟨p,0,none⟩),I O rv] w' fun e w''=>e=.returned (.tuple #[])∧TermAt w'' B t p g n W H X' Y' wr' Z' st av al pv' ql be fv∧Kp B w' w''):=fun w' pv' h=>by
   rw[hX,hY,hw,hz]
   exact(sheetPut_any W H X Y n wr zs rv hl hg w' B p g h.sheet).mono fun e w'' ⟨he,hs,ht⟩=>⟨he,h.sheet' ht (fun k hk=>by simpa using hk) hs⟩
 obtain⟨L,hL⟩:∃ L,L=pl.length:=⟨_,rfl⟩
 rw[← hL] at hql hpl
 have qr:Hid (∀ w' a c,TermAt w' B t p g n W H X Y wr (up (-32) zs) st av al (Sz a (L+1) c) ql be fv→Kp B w w'→Calls Tryd.prog 103 #[Sz a (L+1) c,I O 0] w' fun e w''=>e=.returned (.tuple #[I O rv,I O rn])∧TermAt w'' B t p g n W H X Y wr (up (-32) zs) st av al (Sz a (L+1) c) ql be fv∧Kp B w w''):=fun w' a c h' k'=>by
   have hpt:=h'.part
   rw[hql] at hpt
   have hc:=own_caps hpt
   have h9:=implRrd_any a (L+1) c ql 0 w' (hT w' k') hql (own_rd hpt hqb) (by omega) hc.1 hc.2
   rw[← hrv,← hrn] at h9
   exact h9.mono fun e w'' ⟨he,hb⟩=>⟨he,h'.later hb,k'.trans (kp_below h'.base.2.2 hb)⟩
 have qb:Hid (∀ w' a c X Y wr Z,TermAt w' B t p g n W H X Y wr Z st av al (Sz a (L+1) c) ql be fv→Kp B w w'→Calls Tryd.prog 68 #[Sz a (L+1) c] w' fun e w''=>e=.returned (.bool bg)∧TermAt w'' B t p g n W H X Y wr Z st av al (Sz a (L+1) c) ql be fv∧Kp B w w''):=fun w' a c X Y wr Z h' k'=>by
   have hpt:=h'.part
   rw[hql] at hpt
   have hc:=own_caps hpt
   have h9:=implRbg_any a (L+1) c ql w' (hT w' k') hql (own_rd hpt hqb) (by omega) hc.1 hc.2
   rw[← hbg] at h9
   exact h9.mono fun e w'' ⟨he,hb⟩=>⟨he,h'.later hb,k'.trans (kp_below h'.base.2.2 hb)⟩
 have y3:w.cell? ⟨t,3,none⟩=some (Sz a0 L c0):=by rw[hL];exact bxc h.box rfl
 have y3':(w.alloc (.cells #[I .u8 b] 5)).cell? ⟨t,3,none⟩=some (Sz a0 L c0):=by rw[hL];exact bxc ((heap_alloc_old _ _ (box_lt h.box)).trans h.box) rfl
 have o1:=h.part.alloc (.cells #[I .u8 b] 5)
 rw[← hL] at o1
 have hB:=h.base
 have ht:=box_lt h.box
 have hps:=box_lt h.sheet.box
 have har:=h.args.lt
 have H1:Hid (TermAt w B t p g n W H X Y wr (up (-32) zs) st av al (Sz a0 L c0) pl be fv):=by rw[hL];exact h
 have HQ:Hid (ql=pl++[b]):=hq
 have HL:Hid (ql.length=L+1):=hql
 obtain⟨Z,hZ⟩:∃ Z,Z=up (-32) zs:=⟨_,rfl⟩
 have EZ:0 < rn→up (-32) (gaD (W,H,zs,X,Y,wr,()) pl b).2.2.1=Z'∧(gaD (W,H,zs,X,Y,wr,()) pl b).2.2.2.1=X'∧(gaD (W,H,zs,X,Y,wr,()) pl b).2.2.2.2.1=Y'∧(gaD (W,H,zs,X,Y,wr,()) pl b).2.2.2.2.2.1=wr':=fun h0=>by rw[ED,if_pos h0];exact⟨hz.symm,hX.symm,hY.symm,hw.symm⟩
 have EN:¬ 0 < rn→up (-32) (gaD (W,H,zs,X,Y,wr,()) pl b).2.2.1=Z∧(gaD (W,H,zs,X,Y,wr,()) pl b).2.2.2.1=X∧(gaD (W,H,zs,X,Y,wr,()) pl b).2.2.2.2.1=Y∧(gaD (W,H,zs,X,Y,wr,()) pl b).2.2.2.2.2.1=wr:=fun h0=>by rw[ED,if_neg h0];exact⟨hZ.symm,rfl,rfl,rfl⟩
 obtain⟨D,hD⟩:∃ D,D=gaD (W,H,zs,X,Y,wr,()) pl b:=⟨_,rfl⟩
 obtain⟨R,hR⟩:∃ R,R=gaP pl b:=⟨_,rfl⟩
 rw[← hD] at EZ EN ⊢
 rw[← hR] at EP ⊢
 rw[← hZ] at qp qr H1
 have HD:Hid ((0 < rn→up (-32) D.2.2.1=Z'∧D.2.2.2.1=X'∧D.2.2.2.2.1=Y'∧D.2.2.2.2.2.1=wr')∧(¬ 0 < rn→up (-32) D.2.2.1=Z∧D.2.2.2.1=X∧D.2.2.2.2.1=Y∧D.2.2.2.2.2.1=wr)∧(R=if bg=true then ql else [])):=⟨EZ,EN,EP⟩
 clear h hq hrv hrn hbg EP ED hX hY hw hz hqb hb hp hg hl hL hT hZ EZ EN hD hR hql
 go_enter Tryd.func92,Tryd.ntmps92
 go_wp2_with (at_builtin;refine wpList_append_lies _ rfl _ _ 25 rfl B 5 i0 (I .u8 0) 1 1 Tryd.underlying25 hi hz0 hz1 hz2 rfl (by decide) _ L _ rfl o1 ⟨w.heap.size,0,none⟩ 1 _ [I .u8 b] rfl rfl (World.news_of_block (heap_alloc_new w _)) (by simp;rfl) (by decide) ?c3 ?c4 (by simp;omega) _ rfl ?_)
 case c3=>unfold maxLen;omega
 case c4=>omega
 intro gb cb w2 o2 hg2 hx2 hlt2
 have hax:(Value.slice a0 L c0).ownBlock=some gb∨gb=w.heap.size+1:=by simpa using hx2
 have hgw:w.grownBy w2 (Value.slice a0 L c0).ownBlock:=(World.grownBy_alloc w (.cells #[I .u8 b] 5) _).trans hg2
 have hfa:∀ k,(Value.slice a0 L c0).ownBlock=some k→k≠t∧k≠p∧k≠g∧av.ownBlock≠some k:=fun k e=>⟨(H1.out.farP k e).1,(H1.out.farP k e).2.1,(H1.out.farP k e).2.2,fun e2=>H1.out.two k e2 e⟩
 have e1:pl.map (Value.int .u8)++[I .u8 b]=ql.map (Value.int .u8):=by rw[HQ.out];simp
 rw[e1,← HL.out] at o2
 have hTm:=H1.out.put_part (pv':=Sz (some ⟨gb,0,none⟩) ql.length cb) (pl':=ql) hgw hfa o2 (fun k e=>by
   simp[Value.ownBlock] at e
   subst e
   rcases hax with hh | hh
   · exact hfa _ hh
   · exact⟨by omega,by omega,by omega,fun e2=>by have:=har _ e2;omega⟩)
 have hb2:w2.heap[t]?=_:=(hgw.block t ht (fun e=>(hfa t e.symm).1 rfl)).trans H1.out.box
 have yy:w2.cell? ⟨t,3,none⟩=some (Sz a0 L c0):=bxc hb2 rfl
 have yf:w2.frozen? ⟨t,3,none⟩=false:=box_frozen hb2
 rw[HL.out] at hTm
 have hKp:Kp B w (w2.setCell ⟨t,3,none⟩ (Sz (some ⟨gb,0,none⟩) (L+1) cb)):=fun w0 hb=>(hb.grown hgw hB.2.2 (fun k e=>(H1.out.part.lt k e).1)).setCell (p:=⟨t,3,none⟩) H1.out.lo _
 have HF:Hid (TermAt (w2.setCell ⟨t,3,none⟩ (Sz (some ⟨gb,0,none⟩) (L+1) cb)) B t p g n W H X Y wr Z st av al (Sz (some ⟨gb,0,none⟩) (L+1) cb) ql be fv∧Kp B w (w2.setCell ⟨t,3,none⟩ (Sz (some ⟨gb,0,none⟩) (L+1) cb))):=⟨hTm,hKp⟩
 clear o1 o2 hg2 hx2 hgw e1 hTm hKp hax hfa y3 y3' hb2 hB hps har hlt2
 go_wp2_with fail
 refine(qr.out _ _ _ HF.out.1 HF.out.2).mono ?_
 rintro e w3 ⟨rfl,h3,k3⟩
 have z0:w3.cell? ⟨t,0,none⟩=some (.pointer (some ⟨p,0,none⟩)):=bxc h3.box rfl
 have z3:w3.cell? ⟨t,3,none⟩=some (Sz (some ⟨gb,0,none⟩) (L+1) cb):=bxc h3.box rfl
 have H3:Hid (_∧_):=⟨h3,k3⟩
 clear h3 k3 yy yf
 by_cases hn0:0 < rn
 · have d0:decide ((0:Int) < rn)=true:=decide_eq_true hn0
   go_wp2_with fail
   refine(qp.out _ _ H3.out.1).mono ?_
   rintro e w4 ⟨rfl,h4,k4⟩
   have z3':w4.cell? ⟨t,3,none⟩=some (Sz (some ⟨gb,0,none⟩) (L+1) cb):=bxc h4.box rfl
   have H4:Hid (_∧_):=⟨h4,H3.out.2.trans k4⟩
   clear h4 k4
   go_wp2_with fail
   refine(qb.out _ _ _ _ _ _ _ H4.out.1 H4.out.2).mono ?_
   rintro e w5 ⟨rfl,h5,k5⟩
   have u3:w5.cell? ⟨t,3,none⟩=some (Sz (some ⟨gb,0,none⟩) (L+1) cb):=bxc h5.box rfl
   have uf:w5.frozen? ⟨t,3,none⟩=false:=box_frozen h5.box
   have H5:Hid (_∧_):=⟨h5,k5⟩
   have H6:Hid (_∧_):=⟨h5.no_part,k5.trans (kp_set B w5 3 (Sz none 0 0) h5.lo)⟩
   clear h5 k5
   cases bg with
   | true =>
     go_wp2
     (try simp only[Exit.inBlock,Exit.then])
     refine bodyPost_end (v:=.tuple #[]) (by simp[results,Tryd.results92,go_sem]) rfl ⟨rfl,?_⟩
     obtain⟨q1,q2,q3,q4⟩:=HD.out.1 hn0
     rw[HD.out.2.2,q1,q2,q3,q4]
     exact⟨⟨_,H5.out.1⟩,H5.out.2⟩
   | false =>
     go_wp2
     (try simp only[Exit.inBlock,Exit.then])
     refine bodyPost_end (v:=.tuple #[]) (by simp[results,Tryd.results92,go_sem]) rfl ⟨rfl,?_⟩
     obtain⟨q1,q2,q3,q4⟩:=HD.out.1 hn0
     rw[HD.out.2.2,q1,q2,q3,q4]
     exact⟨⟨_,H6.out.1⟩,H6.out.2⟩
 · have d0:decide ((0:Int) < rn)=false:=decide_eq_false hn0
   go_wp2_with fail
   refine(qb.out _ _ _ _ _ _ _ H3.out.1 H3.out.2).mono ?_
   rintro e w5 ⟨rfl,h5,k5⟩
   have u3:w5.cell? ⟨t,3,none⟩=some (Sz (some ⟨gb,0,none⟩) (L+1) cb):=bxc h5.box rfl
   have uf:w5.frozen? ⟨t,3,none⟩=false:=box_frozen h5.box
   have H5:Hid (_∧_):=⟨h5,k5⟩
   have H6:Hid (_∧_):=⟨h5.no_part,k5.trans (kp_set B w5 3 (Sz none 0 0) h5.lo)⟩
   clear h5 k5
   cases bg with
   | true =>
     go_wp2
     (try simp only[Exit.inBlock,Exit.then])
     refine bodyPost_end (v:=.tuple #[]) (by simp[results,Tryd.results92,go_sem]) rfl ⟨rfl,?_⟩
     obtain⟨q1,q2,q3,q4⟩:=HD.out.2.1 hn0
     rw[HD.out.2.2,q1,q2,q3,q4]
     exact⟨⟨_,H5.out.1⟩,H5.out.2⟩
   | false =>
     go_wp2
     (try simp only[Exit.inBlock,Exit.then])
     refine bodyPost_end (v:=.tuple #[]) (by simp[results,Tryd.results92,go_sem]) rfl ⟨rfl,?_⟩
     obtain⟨q1,q2,q3,q4⟩:=HD.out.2.1 hn0
     rw[HD.out.2.2,q1,q2,q3,q4]
     exact⟨⟨_,H6.out.1⟩,H6.out.2⟩
theorem plain_hi(B t p g n:Nat)(W H X Y:Int)(wr:Bool)(zs:List Int)(st:Int)(av:Value)(al:List Int)(pv:Value)(pl:List Int)(be:Int)(fv:Value)(b:Int)(w:World)(h:TermAt w B t p g n W H X Y wr (up (-32) zs) st av al pv pl be fv)(hl:zs.length=n)(hg:gokB (W,H,zs,X,Y,wr,())=true)(hb:128≤b∧b≤255)(hp:∀ x ∈ pl,0≤x∧x≤255)(hpl:pl.length≤1000)(hT:∀ w',Kp B w w'→Tabs w'):
   Calls Tryd.prog 76 #[.pointer (some ⟨t,0,none⟩),I .u8 b] w fun e w'=>e=.returned (.tuple #[])∧(∃ pv',TermAt w' B t p g n W H (gaD (W,H,zs,X,Y,wr,()) pl b).2.2.2.1 (gaD (W,H,zs,X,Y,wr,()) pl b).2.2.2.2.1 (gaD (W,H,zs,X,Y,wr,()) pl b).2.2.2.2.2.1 (up (-32) (gaD (W,H,zs,X,Y,wr,()) pl b).2.2.1) st av al pv' (gaP pl b) be fv)∧Kp B w w':=by
 have q:=gather_any B t p g n W H X Y wr zs st av al pv pl be fv b w h hl hg (by omega) hp hpl hT
 obtain⟨D,hD⟩:∃ D,D=gaD (W,H,zs,X,Y,wr,()) pl b:=⟨_,rfl⟩
 obtain⟨R,hR⟩:∃ R,R=gaP pl b:=⟨_,rfl⟩
 rw[← hD,← hR] at q ⊢
 have Q:Hid (Calls Tryd.prog 92 #[.pointer (some ⟨t,0,none⟩),I .u8 b] w fun e w'=>e=.returned (.tuple #[])∧(∃ pv',TermAt w' B t p g n W H D.2.2.2.1 D.2.2.2.2.1 D.2.2.2.2.2.1 (up (-32) D.2.2.1) st av al pv' R be fv)∧Kp B w w'):=q
 have d0:decide ((128:Int)≤b)=true:=decide_eq_true hb.1
 clear q h hl hg hb hp hpl hT hD hR
 go_enter Tryd.func76,Tryd.ntmps76
 go_wp2_with fail
 refine Q.out.mono ?_
 rintro e w1 ⟨rfl,h1,k1⟩
 have HH:Hid (_∧_):=⟨h1,k1⟩
 clear h1 k1
 go_wp2
 (try simp only[Exit.inBlock,Exit.then])
 refine bodyPost_ret (v:=.tuple #[]) (by simp[results,Tryd.results76,go_sem]) rfl ⟨rfl,HH.out⟩
end Go.Proofs.YthodinpflcbklaaDoor
namespace Go.Proofs.YthodinpflcbklaaDoor
open Go.RowKit
def argB(n:Int):Bool:=decide (0≤n)&&decide (n≤9999)
def statB(s:Int):Bool:=decide (s=0)||decide (s=1)||decide (s=2)
def argsB(l:List Int)(s:Int):Bool:=l.all argB&&(decide (l.length=0)||(decide (s=2)&&decide (l.length≤4)))
def partB(p:List Int)(s:Int):Bool:=decide (p.length=0)||(decide (s=0)&&rbgB p)
def bellB(b:Int):Bool:=decide (0≤b)&&decide (b≤1000000)
def vtB(d:shVt.D):Bool:=gokB d.1&&(statB d.2.1&&(argsB d.2.2.1 d.2.1&&(partB d.2.2.2.1 d.2.1&&bellB d.2.2.2.2.1)))
theorem argsB_some{l:List Int}{s:Int}{i:Nat}(hi:i < l.length)(h:argB (l[i]?.getD 0)=false):argsB l s=false:=by
 have h1:l.all argB=false:=by
   rw[List.all_eq_false]
   refine⟨l[i],List.getElem_mem hi,?_⟩
   simpa [hi] using h
 unfold argsB
 rw[h1];rfl
theorem argsB_all{l:List Int}{s:Int}(h:∀ i,i < l.length→argB (l[i]?.getD 0)=true):argsB l s=(decide (l.length=0)||(decide (s=2)&&decide (l.length≤4))):=by
 have h1:l.all argB=true:=by
   rw[List.all_eq_true]
   intro x hx
   obtain⟨i,hi,rfl⟩:=List.getElem_of_mem hx
   simpa [hi] using h i hi
 unfold argsB
 rw[h1];rfl
theorem args_long{l:List Int}{s:Int}(h:4 < l.length):argsB l s=false:=by
 unfold argsB
 rw[decide_eq_false (by omega),decide_eq_false (p:=l.length≤4) (by omega),Bool.and_false];simp
theorem vt_no{d:shVt.D}(h:gokB d.1=false∨statB d.2.1=false∨argsB d.2.2.1 d.2.1=false∨partB d.2.2.2.1 d.2.1=false∨bellB d.2.2.2.2.1=false):vtB d=false:=by
 unfold vtB
 rcases h with h | h | h | h | h <;> simp[h]
theorem vt_yes{d:shVt.D}(h1:gokB d.1=true)(h2:statB d.2.1=true)(h3:argsB d.2.2.1 d.2.1=true)(h4:partB d.2.2.2.1 d.2.1=true)(h5:bellB d.2.2.2.2.1=true):vtB d=true:=by
 unfold vtB;rw[h1,h2,h3,h4,h5];rfl
theorem vt_parts{d:shVt.D}(h:vtB d=true):gokB d.1=true∧statB d.2.1=true∧argsB d.2.2.1 d.2.1=true∧partB d.2.2.2.1 d.2.1=true∧bellB d.2.2.2.2.1=true:=by
 unfold vtB at h
 simp only[Bool.and_eq_true] at h
 exact h
theorem stat_yes{s:Int}(h:0≤s∧s≤2):statB s=true:=by
 have:s=0∨s=1∨s=2:=by omega
 rcases this with rfl | rfl | rfl <;> rfl
theorem stat_no{s:Int}(h:s < 0∨2 < s):statB s=false:=by
 unfold statB
 rw[decide_eq_false (by omega),decide_eq_false (by omega),decide_eq_false (by omega)];rfl
theorem stat_bd{s:Int}(h:statB s=true):0≤s∧s≤2:=by
 unfold statB at h
 simp at h;omega
end Go.Proofs.YthodinpflcbklaaDoor
namespace Go.Proofs.YthodinpflcbklaaDoor
open Go.RowKit
def RowAns(g:Bool)(w':World)(B n:Nat)(R:GrD)(o:List Value):Prop:=
 g=true→∃ k kc,o=[I O R.1,I O R.2.1,Sz (some ⟨k,0,none⟩) n kc,I O R.2.2.2.1,I O R.2.2.2.2.1,.bool R.2.2.2.2.2.1]∧w'.ownsRow B 3 1 (Sz (some ⟨k,0,none⟩) n kc) n (R.2.2.1.map (Value.int .i64))
theorem specClamp_any(x m:Int)(w:World)(hm:0≤m):
   Calls Tryd.prog 63 #[I O x,I O m] w fun e w'=>e=.returned (I O (clampG x (m+1)))∧w'=w:=by
 by_cases h1:x < 0
 · have e:clampG x (m+1)=0:=by unfold clampG;omega
   rw[e];clear e
   go_enter Tryd.func63,Tryd.ntmps63
   go_wp2
   go_ret
   exact⟨rfl,rfl⟩
 · by_cases h2:m < x
   · have e:clampG x (m+1)=m:=by unfold clampG;omega
     rw[e];clear e
     go_enter Tryd.func63,Tryd.ntmps63
     go_wp2
     go_ret
     exact⟨rfl,rfl⟩
   · have e:clampG x (m+1)=x:=by unfold clampG;omega
     rw[e];clear e
     go_enter Tryd.func63,Tryd.ntmps63
     go_wp2
     go_ret
     exact⟨rfl,rfl⟩
set_option maxRecDepth 100000 in
theorem specGcopy_any (x0 x1 x3 x4:Int) (a:Option Addr) (n c:Nat) (x5:Bool) (zs:List Int) (w:World) (hr:Reads (.sl .int) w [Sz a n c] zs) (hn1:1≤n) (hn:n≤1048576) :
   Calls Tryd.prog 43 #[.agg #[I O x0,I O x1,Sz a n c,I O x3,I O x4,.bool x5]] w fun e w'=>∃ k kc,e=.returned (.agg #[I O x0,I O x1,Sz (some ⟨k,0,none⟩) n kc,I O x3,I O x4,.bool x5])∧w'.ownsRow w.heap.size 3 1 (Sz (some ⟨k,0,none⟩) n kc) n (zs.map (Value.int .i64))∧Below w.heap.size w w':=by
 obtain⟨i0,hi,hz0,hz1,hz2⟩:=info_parts Tryd.infoI
 obtain⟨hl,hrd,hc,hm⟩:=reads_ints hr
 unfold maxLen at hm
 have hne:zs≠[]:=by intro h';subst h';have h8:0=n:=hl;omega
 obtain⟨b,off,rfl,hb,hcc⟩:=hrd.resolve_left hne
 obtain⟨W1,hW1⟩:∃ V,V=(w.alloc (.cells #[I O x0,I O x1,Sz (some ⟨b,off,none⟩) n c,I O x3,I O x4,.bool x5] 29)).alloc (.cells #[I O 0,I O 0,Sz none 0 0,I O 0,I O 0,.bool false] 29):=⟨_,rfl⟩
 have bW1:Below w.heap.size w W1:=by rw[hW1];exact((Below.refl _ _).alloc (Nat.le_refl _) _).alloc (by simp) _
 have zW1:W1.heap.size=w.heap.size+1+1:=by rw[hW1];simp
 have hbox:W1.heap[w.heap.size]?=some (.cells #[I O x0,I O x1,Sz (some ⟨b,off,none⟩) n c,I O x3,I O x4,.bool x5] 29 (0,0)):=by
   rw[hW1,heap_alloc_old _ _ (by simp)];exact heap_alloc_new w _
 have hbox1:W1.heap[w.heap.size+1]?=some (.cells #[I O 0,I O 0,Sz none 0 0,I O 0,I O 0,.bool false] 29 (0,0)):=by
   rw[hW1]
   have:=heap_alloc_new (w.alloc (.cells #[I O x0,I O x1,Sz (some ⟨b,off,none⟩) n c,I O x3,I O x4,.bool x5] 29)) (.cells #[I O 0,I O 0,Sz none 0 0,I O 0,I O 0,.bool false] 29)
   simpa using this
 have hown0:=World.ownsRow_lit (base:=W1.heap.size) (e:=3) (size:=1) W1 #[] 0 (Nat.le_refl _) (Nat.zero_le _) rfl
 have hsrc:∀ (j:Nat) (u:Value),(zs.map (Value.int .i64))[j]?=some u→(W1.alloc (.cells #[] 3)).cell? ((⟨b,off,none⟩:Addr).add j)=some u:=by
   intro j u hu
   have hj:j < zs.length:=by have:=(List.getElem?_eq_some_iff.1 hu).1;simpa using this
   have e:(⟨b,off,none⟩:Addr).add j=⟨b,off+j,none⟩:=by cases j <;> simp[Addr.add]
   have h9:=hcc j hj
   have bA:Below w.heap.size w (W1.alloc (.cells #[] 3)):=bW1.alloc bW1.size _
   rw[e,(bA.cell (p:=⟨b,off+j,none⟩) hb).trans h9,← hu]
   simp[hj]
 have HC:Hid (∀ (j:Nat) (u:Value),(zs.map (Value.int .i64))[j]?=some u→(W1.alloc (.cells #[] 3)).cell? ((⟨b,off,none⟩:Addr).add j)=some u):=hsrc
 have HW:Hid (W1=_):=hW1
 have HB:Hid (W1.heap[w.heap.size]?=_∧W1.heap[w.heap.size+1]?=_):=⟨hbox,hbox1⟩
 have HN:Hid (zs.length=n):=hl
 have HB1:Hid (Below w.heap.size w W1):=bW1
 have zW:((w.alloc (.cells #[I O x0,I O x1,Sz (some ⟨b,off,none⟩) n c,I O x3,I O x4,.bool x5] 29)).alloc (.cells #[I O 0,I O 0,Sz none 0 0,I O 0,I O 0,.bool false] 29)).heap.size=W1.heap.size:=by rw[hW1]
 rw[zW1] at hown0
 rw[hW1] at hown0 hsrc
 clear hW1 hbox hbox1 hr hrd hl hcc hne hb zW bW1
 go_enter Tryd.func43,Tryd.ntmps43
 go_wp2_with (at_builtin;refine wpList_append_lies _ rfl _ _ 22 rfl (w.heap.size+1+1) 3 i0 (I O 0) 1 8 Tryd.underlying22 hi hz0 hz1 hz2 rfl (by decide) _ 0 _ rfl hown0 ⟨b,off,none⟩ n _ (zs.map (Value.int .i64)) rfl ?c0 hsrc ?c2 (by omega) ?c3 ?c4 ?c5 _ rfl ?_)
 case c0=>exact HN.out
 case c2=>intro z _;rfl
 case c3=>unfold maxLen;omega
 case c4=>omega
 intro k kc w3 hown3 hgrow3 hk1 hk2
 rw[← HW.out] at hgrow3
 have hb3:Below W1.heap.size W1 w3:=Below.grown ((Below.refl _ _).alloc (Nat.le_refl _) _) hgrow3 (by simp) (fun z h=>by cases h;show W1.heap.size≤w.heap.size+1+1;omega)
 have i0:w3.heap[w.heap.size]?=_:=(hb3.block _ (by rw[zW1];omega)).trans HB.out.1
 have i1:w3.heap[w.heap.size+1]?=_:=(hb3.block _ (by rw[zW1];omega)).trans HB.out.2
 have b3:=HB1.out.trans (hb3.mono HB1.out.size)
 have hkl:w.heap.size+1+1≤k:=(hown3.lt k rfl).1
 obtain⟨V,hV⟩:∃ V,V=w3.setCell ⟨w.heap.size,2,none⟩ (Sz (some ⟨k,0,none⟩) n kc):=⟨_,rfl⟩
 have y2:w3.cell? ⟨w.heap.size,2,none⟩=some (Sz (some ⟨b,off,none⟩) n c):=bxc i0 rfl
 have f2:w3.frozen? ⟨w.heap.size,2,none⟩=false:=box_frozen i0
 have j1:V.heap[w.heap.size]?=some (.cells #[I O x0,I O x1,Sz (some ⟨k,0,none⟩) n kc,I O x3,I O x4,.bool x5] 29 (0,0)):=by
   rw[hV];have:=box_set (j:=2) (Sz (some ⟨k,0,none⟩) n kc) i0;simpa using this
 have j0:V.heap[w.heap.size+1]?=some (.cells #[I O 0,I O 0,Sz none 0 0,I O 0,I O 0,.bool false] 29 (0,0)):=by rw[hV];exact(box_other _ (by omega)).trans i1
 have bV:Below w.heap.size w V:=by rw[hV];exact b3.setCell (p:=⟨w.heap.size,2,none⟩) (Nat.le_refl _) _
 have oV:V.ownsRow (w.heap.size+1+1) 3 1 (Sz (some ⟨k,0,none⟩) n kc) n (zs.map (Value.int .i64)):=by rw[hV];exact own_off hown3 w.heap.size 2 _ (by omega)
 have HV:Hid (V=_):=hV
 clear hV i0 i1 hown3 hgrow3 hk1 hk2 hb3 b3 hsrc hown0
 have HLD:(loadVar 29 ⟨w.heap.size+1,0,none⟩).run Tryd.prog (V.setRow (w.heap.size+1) #[I O x0,I O x1,Sz (some ⟨k,0,none⟩) n kc,I O x3,I O x4,.bool x5])=.ok (.agg #[I O x0,I O x1,Sz (some ⟨k,0,none⟩) n kc,I O x3,I O x4,.bool x5]) (V.setRow (w.heap.size+1) #[I O x0,I O x1,Sz (some ⟨k,0,none⟩) n kc,I O x3,I O x4,.bool x5]):=run_loadVar_row _ _ _ _ _ _ _ (setRow_heap _ _ _ _ _ _ j0) Tryd.underlying29 rfl (by kernel_rfl)
 have HO:Hid (_∧_):=⟨own_low (own_offR oV (w.heap.size+1) #[I O x0,I O x1,Sz (some ⟨k,0,none⟩) n kc,I O x3,I O x4,.bool x5] (by omega)) (show w.heap.size≤w.heap.size+1+1 by omega),below_setRow bV (Nat.le_add_right _ 1) #[I O x0,I O x1,Sz (some ⟨k,0,none⟩) n kc,I O x3,I O x4,.bool x5]⟩
 have j0':=j0
 have j1':=j1
 rw[HV.out] at j0' j1' HLD HO
 have g0:=bxc (j:=0) j1' rfl
 have g1:=bxc (j:=1) j1' rfl
 have g2:=bxc (j:=2) j1' rfl
 have g3:=bxc (j:=3) j1' rfl
 have g4:=bxc (j:=4) j1' rfl
 have g5:=bxc (j:=5) j1' rfl
 clear j1' j0 j1 oV bV
 go_wp2_with (refine wpList_store_row rfl _ _ _ rfl _ _ rfl rfl _ _ j0' (by kernel_rfl) rfl (by simp[Value.oneCell']) ?_)
 (try simp only[Exit.inBlock,Exit.then])
 refine bodyPost_ret (by simp[results,Tryd.results43,asAddr,Act.put,HLD];try rfl) rfl ?_
 exact⟨k,kc,rfl,HO.out.1,HO.out.2⟩
end Go.Proofs.YthodinpflcbklaaDoor
namespace Go.Proofs.YthodinpflcbklaaDoor
open Go.RowKit
abbrev VtD:Type:=shVt.D
theorem own_setRowLo{s:Sh}{w:World}{B b:Nat}{cs:List Value}{d:s.D}{F:List Nat}(h:Own s w B cs d F)(r:Array Value)(hb:b < B):Own s (w.setRow b r) B cs d F:=
 h.keep fun g hg=>setRow_other w b g _ (by have:=(h.lt g hg).1;omega)
end Go.Proofs.YthodinpflcbklaaDoor
namespace Go.Proofs.YthodinpflcbklaaDoor
open Go.RowKit
abbrev TD:Type:=GrD × Int × List Int × List Int × Int × Unit
def doD(g:GrD)(al:List Int)(b:Int):GrD:=doG al b g.1 g.2.1 g.2.2.2.1 g.2.2.2.2.1 g.2.2.2.2.2.1 g.2.2.1
def downD(g:GrD):GrD:=downG g.1 g.2.1 g.2.2.2.1 g.2.2.2.2.1 g.2.2.1
def goD(g:GrD)(x y:Int):GrD:=(g.1,g.2.1,g.2.2.1,clampG x g.1,clampG y g.2.1,false,())
def plainT(d:TD)(b:Int):TD:=
 if 128≤b then (gaD d.1 d.2.2.2.1 b,d.2.1,d.2.2.1,gaP d.2.2.2.1 b,d.2.2.2.2.1,())
 else if b=7 then (d.1,d.2.1,d.2.2.1,[],ringN d.2.2.2.2.1,())
 else if b=8 then (goD d.1 (d.1.2.2.2.1 - 1) d.1.2.2.2.2.1,d.2.1,d.2.2.1,[],d.2.2.2.2.1,())
 else if b=10 then (downD d.1,d.2.1,d.2.2.1,[],d.2.2.2.2.1,())
 else if b=13 then (goD d.1 0 d.1.2.2.2.2.1,d.2.1,d.2.2.1,[],d.2.2.2.2.1,())
 else if b=27 then (d.1,(1:Int),d.2.2.1,[],d.2.2.2.2.1,())
 else (putN d.1 b,d.2.1,d.2.2.1,[],d.2.2.2.2.1,())
def csiT(d:TD)(b:Int):TD:=
 if 48≤b∧b≤57 then (d.1,d.2.1,digA d.2.2.1 (b - 48),d.2.2.2.1,d.2.2.2.2.1,())
 else if b=59 then (d.1,d.2.1,semA d.2.2.1,d.2.2.2.1,d.2.2.2.2.1,())
 else (doD d.1 d.2.2.1 b,(0:Int),[],d.2.2.2.1,d.2.2.2.2.1,())
def escT(d:TD)(b:Int):TD:=(d.1,escN b,d.2.2.1,d.2.2.2.1,d.2.2.2.2.1,())
def byteT(d:TD)(b:Int):TD:=if d.2.1=0 then plainT d b else if d.2.1=1 then escT d b else csiT d b
def feedT(d:TD):List Int→TD
 | []=>d
 | b::l=>feedT (byteT d b) l
def goodT(d:TD):Prop:=vtB d=true∧∀ x ∈ d.2.2.2.1,0≤x∧x≤255
theorem args_bd{l:List Int}{s:Int}(h:argsB l s=true):∀ i,0≤at0 l i∧at0 l i≤9999:=by
 intro i
 unfold argsB at h
 simp only[Bool.and_eq_true] at h
 unfold at0
 by_cases hi:i < l.length
 · have h1:=List.all_eq_true.1 h.1 _ (List.getElem_mem hi)
   simp[hi]
   unfold argB at h1
   simp at h1
   exact h1
 · simp[hi]
theorem args_len{l:List Int}{s:Int}(h:argsB l s=true):l.length≤4:=by
 unfold argsB at h
 simp only[Bool.and_eq_true,Bool.or_eq_true,decide_eq_true_eq] at h
 omega
theorem args_nil{l:List Int}{s:Int}(h:argsB l s=true)(hs:s≠2):l=[]:=by
 unfold argsB at h
 simp only[Bool.and_eq_true,Bool.or_eq_true,decide_eq_true_eq] at h
 exact List.eq_nil_of_length_eq_zero (by omega)
theorem part_nil{l:List Int}{s:Int}(h:partB l s=true)(hs:s≠0):l=[]:=by
 unfold partB at h
 simp only[Bool.and_eq_true,Bool.or_eq_true,decide_eq_true_eq] at h
 exact List.eq_nil_of_length_eq_zero (by omega)
theorem part_or{l:List Int}{s:Int}(h:partB l s=true):l=[]∨rbgB l=true:=by
 unfold partB at h
 simp only[Bool.and_eq_true,Bool.or_eq_true,decide_eq_true_eq] at h
 rcases h with h | h
 · exact .inl (List.eq_nil_of_length_eq_zero h)
 · exact .inr h.2
theorem bytes_bt{l:List Int}(h:∀ x ∈ l,0≤x∧x≤255):∀ i,0≤bt l i∧bt l i≤255:=fun i=>bt_byte h i
theorem part_len3{l:List Int}(hb:∀ x ∈ l,0≤x∧x≤255)(h:l=[]∨rbgB l=true):l.length≤3:=by
 rcases h with rfl | h
 · exact Nat.zero_le _
 · exact((rbg_iff l (bytes_bt hb)).1 h).2.1
theorem mk_good{g:GrD}{st be:Int}{al pl:List Int}(h1:gokB g=true)(h2:statB st=true)(h3:argsB al st=true)(h4:partB pl st=true)(h5:bellB be=true)(h6:∀ x ∈ pl,0≤x∧x≤255):goodT (g,st,al,pl,be,()):=
 ⟨vt_yes (d:=(g,st,al,pl,be,())) h1 h2 h3 h4 h5,h6⟩
theorem nil_args(st:Int):argsB [] st=true:=by unfold argsB;simp
theorem nil_part(st:Int):partB [] st=true:=by unfold partB;simp
theorem nil_bytes:∀ x ∈ ([]:List Int),0≤x∧x≤255:=by simp
theorem ring_ok{be:Int}(h:bellB be=true):bellB (ringN be)=true:=by
 unfold bellB at h ⊢
 unfold ringN
 simp only[Bool.and_eq_true,decide_eq_true_eq] at h ⊢
 split <;> omega
theorem args_mk{l:List Int}(hb:∀ x ∈ l,0≤x∧x≤9999)(hl:l.length≤4):argsB l 2=true:=by
 unfold argsB
 simp only[Bool.and_eq_true,Bool.or_eq_true,decide_eq_true_eq]
 refine⟨List.all_eq_true.2 fun x hx=>?_,.inr ⟨trivial,hl⟩⟩
 have:=hb x hx
 unfold argB
 simp
 exact this
theorem args_mem{l:List Int}{s:Int}(h:argsB l s=true):∀ x ∈ l,0≤x∧x≤9999:=by
 intro x hx
 unfold argsB at h
 simp only[Bool.and_eq_true] at h
 have h1:=List.all_eq_true.1 h.1 x hx
 unfold argB at h1
 simp at h1
 exact h1
theorem beg_mem{l:List Int}(h:∀ x ∈ l,0≤x∧x≤9999):∀ x ∈ begA l,0≤x∧x≤9999:=by
 unfold begA
 split
 · simp
 · exact h
theorem sem_ok{l:List Int}(h:argsB l 2=true):argsB (semA l) 2=true:=by
 have hm:=beg_mem (args_mem h)
 have hl:=begA_len (args_len h)
 unfold semA
 split
 · refine args_mk (fun x hx=>?_) (by rw[List.length_append];simp;omega)
   rcases List.mem_append.1 hx with h1 | h1
   · exact hm x h1
   · rw[List.mem_singleton.1 h1];omega
 · exact args_mk hm hl
theorem dig_ok{l:List Int}{d:Int}(h:argsB l 2=true)(hd:0≤d):argsB (digA l d) 2=true:=by
 have hm:=beg_mem (args_mem h)
 have hl:=begA_len (args_len h)
 unfold digA
 refine args_mk (fun x hx=>?_) (by rw[List.length_set];exact hl)
 rcases List.mem_or_eq_of_mem_set hx with h1 | rfl
 · exact hm x h1
 · have h1:0≤at0 (begA l) ((begA l).length - 1):=by
     unfold at0
     have hp:=begA_pos l
     have hi:(begA l).length - 1 < (begA l).length:=by omega
     rw[List.getElem?_eq_getElem hi]
     exact(hm _ (List.getElem_mem hi)).1
   unfold capN
   split <;> omega
theorem ga_right{g:GrD}{pl:List Int}{b:Int}(h:gokB g=true):gokB (gaD g pl b)=true:=by
 unfold gaD
 split
 · exact put_right h
 · exact h
theorem ga_bytes{pl:List Int}{b:Int}(h:∀ x ∈ pl,0≤x∧x≤255)(hb:0≤b∧b≤255):∀ x ∈ gaP pl b,0≤x∧x≤255:=by
 unfold gaP
 split
 · intro x hx
   rcases List.mem_append.1 hx with h1 | h1
   · exact h x h1
   · rw[List.mem_singleton.1 h1];exact hb
 · simp
theorem ga_part(pl:List Int)(b:Int):partB (gaP pl b) 0=true:=by
 unfold gaP partB
 split
 · rename_i h;simp[h]
 · simp
theorem byte_good{d:TD}{b:Int}(h:goodT d)(hb:0≤b∧b≤255):goodT (byteT d b):=by
 obtain⟨g,st,al,pl,be,u⟩:=d
 obtain⟨hv,hp⟩:=h
 obtain⟨h1,h2,h3,h4,h5⟩:=vt_parts hv
 have h1:gokB g=true:=h1
 have h2:statB st=true:=h2
 have h3:argsB al st=true:=h3
 have h4:partB pl st=true:=h4
 have h5:bellB be=true:=h5
 have hp:∀ x ∈ pl,0≤x∧x≤255:=hp
 obtain⟨x0,x1,zs,x3,x4,x5,v⟩:=g
 have hg2:gokB (x0,x1,zs,x3,x4,x5,())=true:=h1
 unfold byteT
 by_cases s0:st=0
 · subst s0
   rw[if_pos rfl]
   have ha:al=[]:=args_nil h3 (show (0:Int)≠2 by decide)
   unfold plainT
   by_cases c1:128≤b
   · rw[if_pos c1];exact mk_good (ga_right h1) h2 h3 (ga_part pl b) h5 (ga_bytes hp hb)
   rw[if_neg c1]
   by_cases c2:b=7
   · rw[if_pos c2];exact mk_good h1 h2 h3 (nil_part _) (ring_ok h5) nil_bytes
   rw[if_neg c2]
   by_cases c3:b=8
   · rw[if_pos c3];exact mk_good (go_right hg2) h2 h3 (nil_part _) h5 nil_bytes
   rw[if_neg c3]
   by_cases c4:b=10
   · rw[if_pos c4];exact mk_good (down_right hg2) h2 h3 (nil_part _) h5 nil_bytes
   rw[if_neg c4]
   by_cases c5:b=13
   · rw[if_pos c5];exact mk_good (go_right hg2) h2 h3 (nil_part _) h5 nil_bytes
   rw[if_neg c5]
   by_cases c6:b=27
   · rw[if_pos c6]
     exact mk_good h1 (stat_yes (by omega)) (by show argsB al 1=true;rw[ha];exact nil_args _) (nil_part _) h5 nil_bytes
   rw[if_neg c6]
   exact mk_good (put_right h1) h2 h3 (nil_part _) h5 nil_bytes
 · have s0':¬ ((((x0,x1,zs,x3,x4,x5,v),st,al,pl,be,u):TD).2.1=0):=s0
   rw[if_neg s0']
   have hpl:pl=[]:=part_nil h4 s0
   have hsb:0≤st∧st≤2:=stat_bd h2
   by_cases s1:st=1
   · have s1':((((x0,x1,zs,x3,x4,x5,v),st,al,pl,be,u):TD).2.1=1):=s1
     rw[if_pos s1']
     have ha:al=[]:=args_nil h3 (show st≠2 by rw[s1];decide)
     unfold escT
     refine mk_good h1 (stat_yes ?_) (by show argsB al _=true;rw[ha];exact nil_args _) (by show partB pl _=true;rw[hpl];exact nil_part _) h5 hp
     unfold escN;split <;> omega
   · have s1':¬ ((((x0,x1,zs,x3,x4,x5,v),st,al,pl,be,u):TD).2.1=1):=s1
     rw[if_neg s1']
     have hs2:st=2:=by omega
     subst hs2
     unfold csiT
     by_cases c1:48≤b∧b≤57
     · rw[if_pos c1]
       exact mk_good h1 h2 (dig_ok h3 (by omega)) h4 h5 hp
     rw[if_neg c1]
     by_cases c2:b=59
     · rw[if_pos c2];exact mk_good h1 h2 (sem_ok h3) h4 h5 hp
     rw[if_neg c2]
     exact mk_good (do_right hg2) (stat_yes (by omega)) (nil_args _) (by show partB pl _=true;rw[hpl];exact nil_part _) h5 hp
theorem feed_nil(d:TD):feedT d []=d:=by simp only[feedT]
theorem feed_cons(d:TD)(b:Int)(l:List Int):feedT d (b::l)=feedT (byteT d b) l:=by simp only[feedT]
theorem feed_good{l:List Int}:∀ {d:TD},goodT d→(∀ x ∈ l,0≤x∧x≤255)→goodT (feedT d l):=by
 induction l with
 | nil=>intro d h _;rw[feed_nil];exact h
 | cons b l ih =>
   intro d h hb
   rw[feed_cons]
   exact ih (byte_good h (hb b (by simp))) (fun x hx=>hb x (by simp[hx]))
theorem feed_append(l m:List Int):∀ d:TD,feedT d (l++m)=feedT (feedT d l) m:=by
 induction l with
 | nil=>intro d;rw[List.nil_append,feed_nil]
 | cons b l ih=>intro d;rw[List.cons_append,feed_cons,feed_cons];exact ih (byteT d b)
theorem feed_one(d:TD)(l:List Int)(b:Int):feedT d (l++[b])=byteT (feedT d l) b:=by rw[feed_append,feed_cons,feed_nil]
end Go.Proofs.YthodinpflcbklaaDoor
namespace Go.Proofs.YthodinpflcbklaaDoor
open Go.RowKit
set_option maxRecDepth 100000 in
theorem specGridGo_row (x0 x1 x3 x4:Int) (a:Option Addr) (n c:Nat) (x5:Bool) (zs:List Int) (x:Int) (y:Int) (R:GrD) (hR:R=ansG (x0,x1,zs,x3,x4,x5,()) (x0,x1,zs,clampG x x0,clampG y x1,false,())) (w:World) (hr:Reads (.sl .int) w [Sz a n c] zs) :
   Calls Tryd.prog 44 #[.agg #[I O x0,I O x1,Sz a n c,I O x3,I O x4,.bool x5],I O x,I O y] w fun e w'=>∃ o F,e=.returned (.agg o.toArray)∧Own shGrid w' w.heap.size o R F∧F.Nodup∧Below w.heap.size w w'∧RowAns (gokB (x0,x1,zs,x3,x4,x5,())) w' w.heap.size n R o:=by
 have HRR:Hid (R=_):=hR
 clear hR
 obtain⟨hl,hrd,hc,hm⟩:=reads_ints hr
 unfold maxLen at hm
 obtain⟨W1,hW1⟩:∃ W,W=(w.alloc (.cells #[I O x0,I O x1,Sz a n c,I O x3,I O x4,.bool x5] 29)).alloc (.cells #[I O 0,I O 0,Sz none 0 0,I O 0,I O 0,.bool false] 29):=⟨_,rfl⟩
 have bW1:Below w.heap.size w W1:=by rw[hW1];exact((Below.refl _ _).alloc (Nat.le_refl _) _).alloc (by simp) _
 have zW1:W1.heap.size=w.heap.size+1+1:=by rw[hW1];simp
 have hbox:W1.heap[w.heap.size]?=some (.cells #[I O x0,I O x1,Sz a n c,I O x3,I O x4,.bool x5] 29 (0,0)):=by
   rw[hW1,heap_alloc_old _ _ (by simp)];exact heap_alloc_new w _
 have hbox1:W1.heap[w.heap.size+1]?=some (.cells #[I O 0,I O 0,Sz none 0 0,I O 0,I O 0,.bool false] 29 (0,0)):=by
   rw[hW1]
   have:=heap_alloc_new (w.alloc (.cells #[I O x0,I O x1,Sz a n c,I O x3,I O x4,.bool x5] 29)) (.cells #[I O 0,I O 0,Sz none 0 0,I O 0,I O 0,.bool false] 29)
   simpa using this
 have HBX:Hid (∀ w',Below W1.heap.size W1 w'→w'.heap[w.heap.size]?=some (.cells #[I O x0,I O x1,Sz a n c,I O x3,I O x4,.bool x5] 29 (0,0))):=fun w' h'=>(h'.block _ (by omega)).trans hbox
 have HBR:Hid (∀ w',Below W1.heap.size W1 w'→w'.heap[w.heap.size+1]?=some (.cells #[I O 0,I O 0,Sz none 0 0,I O 0,I O 0,.bool false] 29 (0,0))):=fun w' h'=>(h'.block _ (by omega)).trans hbox1
 have HR:Hid (Reads (.sl .int) w [Sz a n c] zs):=hr
 have qg:Hid (∀ w',Below w.heap.size w w'→Calls Tryd.prog 52 #[.agg #[I O x0,I O x1,Sz a n c,I O x3,I O x4,.bool x5]] w' fun e w''=>e=.returned (.bool (gokB (x0,x1,zs,x3,x4,x5,())))∧Below w'.heap.size w' w''):=fun w' h'=>specGok_any x0 x1 x3 x4 a n c x5 zs w' (hr.later h')
 have HW:Hid (W1=_):=hW1
 have HB1:Hid (Below w.heap.size w W1):=bW1
 have hb00:Below W1.heap.size W1 W1:=Below.refl _ _
 have i_W1:=HBX.out W1 hb00
 have y0:W1.cell? ⟨w.heap.size,0,none⟩=some (I O x0):=bxc i_W1 rfl
 have y1:W1.cell? ⟨w.heap.size,1,none⟩=some (I O x1):=bxc i_W1 rfl
 have y2:W1.cell? ⟨w.heap.size,2,none⟩=some (Sz a n c):=bxc i_W1 rfl
 have y3:W1.cell? ⟨w.heap.size,3,none⟩=some (I O x3):=bxc i_W1 rfl
 have y4:W1.cell? ⟨w.heap.size,4,none⟩=some (I O x4):=bxc i_W1 rfl
 have y5:W1.cell? ⟨w.heap.size,5,none⟩=some (.bool x5):=bxc i_W1 rfl
 clear i_W1
 clear hW1 hbox hbox1 hr hrd hl hb00
 by_cases hg:gokB (x0,x1,zs,x3,x4,x5,())=true
 rotate_left
 · have hg':gokB (x0,x1,zs,x3,x4,x5,())=false:=by simpa using hg
   have HG:Hid (gokB (x0,x1,zs,x3,x4,x5,())=false):=hg'
   rw[hg'] at qg
   clear hg hg'
   go_enter Tryd.func44,Tryd.ntmps44
   go_wp2_with fail
   rw[← HW.out]
   refine(qg.out _ HB1.out).mono ?_
   rintro e w2 ⟨rfl,hb2⟩
   have b2:=HB1.out.trans (hb2.mono HB1.out.size)
   have j0:=HBR.out w2 hb2
   have HLD:(loadVar 29 ⟨w.heap.size+1,0,none⟩).run Tryd.prog (w2.setRow (w.heap.size+1) #[I O 0,I O 0,Sz none 0 0,I O 0,I O 0,.bool false])=.ok (.agg #[I O 0,I O 0,Sz none 0 0,I O 0,I O 0,.bool false]) (w2.setRow (w.heap.size+1) #[I O 0,I O 0,Sz none 0 0,I O 0,I O 0,.bool false]):=run_loadVar_row _ _ _ _ _ _ _ (setRow_heap _ _ _ _ _ _ j0) Tryd.underlying29 rfl (by kernel_rfl)
   have HO:Hid (_):=below_setRow b2 (Nat.le_add_right _ 1) #[I O 0,I O 0,Sz none 0 0,I O 0,I O 0,.bool false]
   clear hb2 b2 y0 y1 y2 y3 y4 y5
   go_wp2_with (refine wpList_store_row rfl _ _ _ rfl _ _ rfl rfl _ _ j0 (by kernel_rfl) rfl (by simp[Value.oneCell']) ?_)
   (try simp only[Exit.inBlock,Exit.then])
   refine bodyPost_ret (by simp[results,Tryd.results44,asAddr,Act.put,HLD];try rfl) rfl ?_
   refine⟨_,[],rfl,?_,List.nodup_nil,HO.out,fun h=>by rw[HG.out] at h;cases h⟩
   rw[HRR.out,ansG_no HG.out]
   exact own_zeroG _ _
 · have HG:Hid (gokB (x0,x1,zs,x3,x4,x5,())=true):=hg
   rw[hg] at qg
   obtain⟨W,H,rfl,rfl,g1,g2,g3,g4,g5,hlen,hcl,hcu⟩:=gok_parts hg
   have hl:=(reads_ints HR.out).1
   have hn:n=W*H:=by omega
   have hmb:=mul_bd (x:=W) (y:=H) (by omega) (by omega) (by omega) (by omega)
   have hpr:(W:Int)*(H:Int)=(n:Int):=by rw[hn];simp
   rw[hpr] at hmb
   have HN:Hid (n=W*H∧zs.length=n∧cellsB zs W (W*H)=true∧cursB W H x3 x4 x5=true):=⟨hn,hl,hcl,hcu⟩
   have hn8:n≤8000:=by omega
   have qc:Hid (∀ w',Below w.heap.size w w'→Calls Tryd.prog 43 #[.agg #[I O W,I O H,Sz a n c,I O x3,I O x4,.bool x5]] w' fun e w''=>∃ k kc,e=.returned (.agg #[I O W,I O H,Sz (some ⟨k,0,none⟩) n kc,I O x3,I O x4,.bool x5])∧w''.ownsRow w'.heap.size 3 1 (Sz (some ⟨k,0,none⟩) n kc) n (zs.map (Value.int .i64))∧Below w'.heap.size w' w''):=fun w' h'=>specGcopy_any W H x3 x4 a n c x5 zs w' (HR.out.later h') (by omega) (by omega)
   clear hg hn hl hlen hcl hcu g5 hpr
   go_enter Tryd.func44,Tryd.ntmps44
   go_wp2_with fail
   rw[← HW.out]
   refine(qg.out _ HB1.out).mono ?_
   rintro e w2 ⟨rfl,hb2⟩
   have b2:=HB1.out.trans (hb2.mono HB1.out.size)
   have z2:=hb2.size
   clear y0 y1 y2 y3 y4 y5
   have i_w2:=HBX.out w2 hb2
   have y0:w2.cell? ⟨w.heap.size,0,none⟩=some (I O W):=bxc i_w2 rfl
   have y1:w2.cell? ⟨w.heap.size,1,none⟩=some (I O H):=bxc i_w2 rfl
   have y2:w2.cell? ⟨w.heap.size,2,none⟩=some (Sz a n c):=bxc i_w2 rfl
   have y3:w2.cell? ⟨w.heap.size,3,none⟩=some (I O x3):=bxc i_w2 rfl
   have y4:w2.cell? ⟨w.heap.size,4,none⟩=some (I O x4):=bxc i_w2 rfl
   have y5:w2.cell? ⟨w.heap.size,5,none⟩=some (.bool x5):=bxc i_w2 rfl
   clear i_w2
   have HB2:Hid (Below W1.heap.size W1 w2):=hb2
   clear hb2
   go_wp2_with fail
   refine(qc.out _ b2).mono ?_
   rintro e w3 ⟨k,kc,rfl,ho3,hb3⟩
   have HB3:Hid (Below W1.heap.size W1 w3):=HB2.out.trans (hb3.mono HB2.out.size)
   have z3:=hb3.size
   have hk3:w2.heap.size≤k∧k < w3.heap.size:=ho3.lt k rfl
   have HO3:Hid (w3.ownsRow w2.heap.size 3 1 (Sz (some ⟨k,0,none⟩) n kc) n (zs.map (Value.int .i64))):=ho3
   clear ho3 hb3 y0 y1 y2 y3 y4 y5
   have i_w3:=HBX.out w3 HB3.out
   have y0:w3.cell? ⟨w.heap.size,0,none⟩=some (I O W):=bxc i_w3 rfl
   have y1:w3.cell? ⟨w.heap.size,1,none⟩=some (I O H):=bxc i_w3 rfl
   clear i_w3
   have wW:IntKind.i64.wrap ((W:Int) - 1)=(W:Int) - 1:=wrap_i64_in _ (by omega) (by omega)
   have wH:IntKind.i64.wrap ((H:Int) - 1)=(H:Int) - 1:=wrap_i64_in _ (by omega) (by omega)
   obtain⟨X,hX⟩:∃ X,X=clampG x W:=⟨_,rfl⟩
   obtain⟨Y,hY⟩:∃ Y,Y=clampG y H:=⟨_,rfl⟩
   have qx:Hid (∀ w',Calls Tryd.prog 63 #[I O x,I O ((W:Int) - 1)] w' fun e w''=>e=.returned (I O X)∧w''=w'):=fun w'=>by
     have:=specClamp_any x ((W:Int) - 1) w' (by omega);rw[Int.sub_add_cancel,← hX] at this;exact this
   have qy:Hid (∀ w',Calls Tryd.prog 63 #[I O y,I O ((H:Int) - 1)] w' fun e w''=>e=.returned (I O Y)∧w''=w'):=fun w'=>by
     have:=specClamp_any y ((H:Int) - 1) w' (by omega);rw[Int.sub_add_cancel,← hY] at this;exact this
   have HX:Hid (X=clampG x W∧Y=clampG y H):=⟨hX,hY⟩
   clear hX hY
   have zl:w.heap.size < w3.heap.size:=by omega
   have zl1:w.heap.size+1 < w3.heap.size:=by omega
   have HV:Hid (∀ u3 u4 u5,(w3.alloc (.cells #[I O W,I O H,Sz (some ⟨k,0,none⟩) n kc,u3,u4,u5] 29)).heap[w.heap.size+1]?=some (.cells #[I O 0,I O 0,Sz none 0 0,I O 0,I O 0,.bool false] 29 (0,0))):=fun u3 u4 u5=>(heap_alloc_old _ _ zl1).trans (HBR.out w3 HB3.out)
   have j0:=HV.out (I O X) (I O Y) (.bool false)
   have bV:Below w.heap.size w (w3.alloc (.cells #[I O W,I O H,Sz (some ⟨k,0,none⟩) n kc,I O X,I O Y,.bool false] 29)):=(HB1.out.trans (HB3.out.mono HB1.out.size)).alloc (by omega) _
   have oV:(w3.alloc (.cells #[I O W,I O H,Sz (some ⟨k,0,none⟩) n kc,I O X,I O Y,.bool false] 29)).ownsRow w2.heap.size 3 1 (Sz (some ⟨k,0,none⟩) n kc) n (zs.map (Value.int .i64)):=HO3.out.alloc _
   have HLD:(loadVar 29 ⟨w.heap.size+1,0,none⟩).run Tryd.prog ((w3.alloc (.cells #[I O W,I O H,Sz (some ⟨k,0,none⟩) n kc,I O X,I O Y,.bool false] 29)).setRow (w.heap.size+1) #[I O W,I O H,Sz (some ⟨k,0,none⟩) n kc,I O X,I O Y,.bool false])=.ok (.agg #[I O W,I O H,Sz (some ⟨k,0,none⟩) n kc,I O X,I O Y,.bool false]) ((w3.alloc (.cells #[I O W,I O H,Sz (some ⟨k,0,none⟩) n kc,I O X,I O Y,.bool false] 29)).setRow (w.heap.size+1) #[I O W,I O H,Sz (some ⟨k,0,none⟩) n kc,I O X,I O Y,.bool false]):=run_loadVar_row _ _ _ _ _ _ _ (setRow_heap _ _ _ _ _ _ j0) Tryd.underlying29 rfl (by kernel_rfl)
   have HO:Hid (_∧_):=⟨own_low (own_offR oV (w.heap.size+1) #[I O W,I O H,Sz (some ⟨k,0,none⟩) n kc,I O X,I O Y,.bool false] (by omega)) (show w.heap.size≤w2.heap.size by omega),below_setRow bV (Nat.le_add_right _ 1) #[I O W,I O H,Sz (some ⟨k,0,none⟩) n kc,I O X,I O Y,.bool false]⟩
   clear bV oV
   go_wp2_with fail
   refine(qx.out _).mono ?_
   rintro e w4 ⟨rfl,rfl⟩
   go_wp2_with fail
   refine(qy.out _).mono ?_
   rintro e w4 ⟨rfl,rfl⟩
   go_wp2_with ((refine wpList_store_row rfl _ _ _ rfl _ _ rfl rfl _ _ j0 (by kernel_rfl) rfl (by simp[Value.oneCell']) ?_))
   (try simp only[Exit.inBlock,Exit.then])
   refine bodyPost_ret (by simp[results,Tryd.results44,asAddr,Act.put,HLD];try rfl) rfl ?_
   refine⟨_,[k]++[],rfl,?_,by simp,HO.out.2,fun _=>by rw[HRR.out,ansG_yes HG.out,← HX.out.1,← HX.out.2];exact⟨k,kc,rfl,HO.out.1⟩⟩
   rw[HRR.out,ansG_yes HG.out,← HX.out.1,← HX.out.2]
   exact own_Grid (d:=((W:Int),(H:Int),zs,X,Y,false,())) (F2:=[k]) (own_ints HN.out.2.1 HO.out.1)
end Go.Proofs.YthodinpflcbklaaDoor
