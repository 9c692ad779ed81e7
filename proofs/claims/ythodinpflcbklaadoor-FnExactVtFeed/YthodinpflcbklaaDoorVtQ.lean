/-
  What the laws of VtByte and VtFeed share: the three rows of a value that reads as a terminal; sizes of right terminals.
-/
import Derived.Test.YthodinpflcbklaaDoorM38VB
import Derived.Test.YthodinpflcbklaaDoorM34VB
open Go.Value renaming int → I,slice → Sz
open Go.IntKind renaming i64 → O
open List renaming setIfInBounds_toArray → lA,getElem_toArray → lB,getElem_cons_succ → lC,getElem_cons_zero → lD,set_cons_zero → lE,set_cons_succ → lF
set_option linter.unusedVariables false
set_option linter.unusedSimpArgs false
set_option maxHeartbeats 40000000
namespace Go.Proofs.YthodinpflcbklaaDoor
open Go.RowKit
set_option maxRecDepth 100000
theorem vt_rows{w:World}{x0 x1 x3 x4 x6 x9:Int}{x5:Bool}{b2 b7 b8:Option Addr}{m2 k2 m7 k7 m8 k8:Nat}{d:TD}(h:Reads shVt w [I O x0,I O x1,Sz b2 m2 k2,I O x3,I O x4,.bool x5,I O x6,Sz b7 m7 k7,Sz b8 m8 k8,I O x9] d):Reads (.sl .int) w [Sz b2 m2 k2] d.1.2.2.1∧Reads (.sl .int) w [Sz b7 m7 k7] d.2.2.1∧Reads (.sl .u8) w [Sz b8 m8 k8] d.2.2.2.1:=by
 obtain⟨a2,n2,c2,a7,n7,c7,a8,n8,c8,hcs,hG,hA,hP⟩:=open_Vt h
 obtain⟨a',n',c',hg,hR⟩:=open_Grid hG
 simp only[List.cons.injEq,Value.slice.injEq] at hcs hg
 obtain⟨_,_,⟨rfl,rfl,rfl⟩,_,_,_,_,⟨rfl,rfl,rfl⟩,⟨rfl,rfl,rfl⟩,_⟩:=hcs
 obtain⟨_,_,⟨rfl,rfl,rfl⟩,_⟩:=hg
 exact⟨hR,hA,hP⟩
theorem part_lenB{a:Option Addr}{n c:Nat}{w:World}{d:shVt.D}(h:Reads (.sl .u8) w [Sz a n c] d.2.2.2.1)(hs:shVt.sz d≤1048576):n≤1048576:=by
 have h1:=sz_Vt d
 have h2:=(reads_bytes h).1
 have h3:List.length (α:=Int) d.2.2.2.1≤Sh.sz (.sl .u8) d.2.2.2.1:=Nat.le_add_right _ _
 omega
theorem nil_own{s:Sh}{w:World}{B:Nat}{a:Option Addr}{n c:Nat}{l:List s.D}{F:List Nat}(h:Own (.sl s) w B [Sz a n c] l F):a=none→n=0∧c=0:=by
 rintro rfl
 rcases h with ⟨h1,_⟩ | ⟨g,cap,hv⟩
 · simp at h1;exact h1
 · obtain⟨t,cur,Cs,Fs,he,_⟩:=hv
   simp at he
theorem sz_u8s(d:List Int):Sh.sz (.sl .u8) d=d.length:=by
 show List.length d+(List.map (fun _=>0) d).sum=d.length
 rw[sum_zero];rfl
theorem sz_good{D:TD}(h:goodT D):shVt.sz D≤1048576:=by
 obtain⟨⟨x0,x1,zs,x3,x4,x5,u⟩,st,al,pl,be,u2⟩:=D
 obtain⟨hv,hp⟩:=h
 obtain⟨p1,p2,p3,p4,p5⟩:=vt_parts hv
 have p1:gokB (x0,x1,zs,x3,x4,x5,())=true:=p1
 have p3:argsB al st=true:=p3
 have p4:partB pl st=true:=p4
 have hp:∀ x ∈ pl,0≤x∧x≤255:=hp
 have a3:=args_len p3
 have a4:=part_len3 hp (part_or p4)
 have a5:zs.length≤1000000:=by
   obtain⟨W',H',eW,eH,g1,g2,g3,g4,g5,hlen,hcl,hcu⟩:=gok_parts p1
   have q2:W'*H'≤1000*1000:=Nat.mul_le_mul (by omega) (by omega)
   omega
 have h1:=sz_Vt ((x0,x1,zs,x3,x4,x5,u),st,al,pl,be,u2)
 have h4:=sz_Grid (x0,x1,zs,x3,x4,x5,u)
 have h5:Sh.sz (.sl .int) zs=zs.length:=sz_ints _
 have h6:Sh.sz (.sl .int) al=al.length:=sz_ints _
 have h7:Sh.sz (.sl .u8) pl=pl.length:=sz_u8s _
 have h1:shVt.sz ((x0,x1,zs,x3,x4,x5,u),st,al,pl,be,u2)=shGrid.sz (x0,x1,zs,x3,x4,x5,u)+Sh.sz (.sl .int) al+Sh.sz (.sl .u8) pl:=h1
 have h4:shGrid.sz (x0,x1,zs,x3,x4,x5,u)=Sh.sz (.sl .int) zs:=h4
 show shVt.sz ((x0,x1,zs,x3,x4,x5,u),st,al,pl,be,u2)≤1048576
 rw[h1,h4,h5,h6,h7]
 omega
theorem good_reads{w:World}{c:List Value}{d:shVt.D}(h:Reads shVt w c d)(hv:vtB d=true):goodT d:=by
 obtain⟨a2,n2,c2,a7,n7,c7,a8,n8,c8,rfl,h0,h2,h3⟩:=open_Vt h
 exact⟨hv,byte_bt (fun i=>(reads_bytes h3).2.1.1 i)⟩
end Go.Proofs.YthodinpflcbklaaDoor
