/-
  Parts of the road to VB, joined: Mk, MkB, VB, Ints, IMarks, VI.
-/
import Derived.Test.YthodinpflcbklaaDoorM0VB
import Derived.Test.YthodinpflcbklaaDoorRows
import Derived.WalkKit
import Derived.WalkSpells
import Derived.WalkLawsBesides
import Derived.Laws.BytesArg
import Derived.Deep.QuietTactic
import Derived.BigQuiet
open Go.Value renaming int → I,slice → Sz
open Go.IntKind renaming i64 → O
open List renaming setIfInBounds_toArray → lA,getElem_toArray → lB,getElem_cons_succ → lC,getElem_cons_zero → lD,set_cons_zero → lE,set_cons_succ → lF
set_option linter.unusedVariables false
set_option linter.unusedSimpArgs false
set_option maxHeartbeats 40000000
namespace Go.Proofs.YthodinpflcbklaaDoor
open Go.RowKit
theorem cnt_le(s:Sh)(d:s.D):s.cnt d≤s.wd*(s.sz d+1):=s.cnt_le d
theorem cntV_le(s:Sh)(d:s.D):s.cntV d≤s.cnt d:=s.cntV_le d
def cntTo(e:Sh)(d:List e.D)(i:Nat):Nat:=((d.take i).map e.cnt).sum
theorem at_some{e:Sh}{d:List e.D}{i:Nat}{x:e.D}(h:e.at d i=some x):∃ hi:i < d.length,d[i]=x:=by
 have hk:i < d.length:=by
   rcases Nat.lt_or_ge i d.length with h' | h'
   · exact h'
   · rw[show e.at d i=none from List.getElem?_eq_none h'] at h;cases h
 refine⟨hk,?_⟩
 have:d[i]?=some x:=h
 rw[List.getElem?_eq_getElem hk] at this
 exact Option.some.inj this
def mkTo(e:Sh)(d:List e.D)(k i:Nat):List e.D:=mkRow e.mk e.cnt (d.take i) k++d.drop i
theorem mkRow_length{α:Type}(f:α→Nat→α)(c:α→Nat):∀ (l:List α) (k:Nat),(mkRow f c l k).length=l.length
 | [],_=>rfl
 | x::l,k=>by simp[mkRow,mkRow_length f c l]
theorem mkRow_snoc{α:Type}(f:α→Nat→α)(c:α→Nat):∀ (l:List α) (x:α) (k:Nat),mkRow f c (l++[x]) k=mkRow f c l k++[f x (k+(l.map c).sum)]
 | [],x,k=>by simp[mkRow]
 | y::l,x,k=>by
   simp only[List.cons_append,mkRow,mkRow_snoc f c l x]
   simp[Nat.add_assoc]
theorem mkTo_zero(e:Sh)(d:List e.D)(k:Nat):mkTo e d k 0=d:=by simp[mkTo,mkRow]
theorem mkTo_all(e:Sh)(d:List e.D)(k i:Nat)(h:d.length≤i):mkTo e d k i=Sh.mk (.sl e) d k:=by
 unfold mkTo;rw[List.take_of_length_le h,List.drop_eq_nil_of_le h,List.append_nil];rfl
theorem mkTo_length(e:Sh)(d:List e.D)(k i:Nat):(mkTo e d k i).length=d.length:=by
 unfold mkTo;rw[List.length_append,mkRow_length,List.length_take,List.length_drop];omega
theorem mkTo_set(e:Sh)(d:List e.D)(k i:Nat)(x:e.D)(h:e.at d i=some x):List.set (mkTo e d k i) i (e.mk x (k+cntTo e d i))=mkTo e d k (i+1):=by
 obtain⟨hk,hx⟩:=at_some h
 have e2:d.take (i+1)=d.take i++[x]:=by rw[List.take_succ_eq_append_getElem hk,hx]
 have hl:(mkRow e.mk e.cnt (d.take i) k).length=i:=by rw[mkRow_length,List.length_take];omega
 unfold mkTo
 rw[e2,mkRow_snoc,List.set_append_right _ _ (by omega),hl,Nat.sub_self,List.append_assoc]
 congr 1
 rw[show d.drop i=x::d.drop (i+1) by rw[List.drop_eq_getElem_cons hk,hx]]
 rfl
theorem mk_at(e:Sh)(d:List e.D)(k i:Nat)(x:e.D)(h:e.at d i=some x):e.at (Sh.mk (.sl e) d k) i=some (e.mk x (k+cntTo e d i)):=by
 obtain⟨hk,hx⟩:=at_some h
 have h1:=mkTo_set e d k i x h
 have key:∀ j,i+1≤j→j≤d.length→(mkTo e d k j)[i]?=some (e.mk x (k+cntTo e d i)):=by
   intro j hj
   induction j with
   | zero=>omega
   | succ j ih =>
     intro hjl
     by_cases hji:j=i
     · subst hji
       rw[← h1]
       rw[List.getElem?_set,if_pos rfl,if_pos (by rw[mkTo_length];omega)]
     · have hj':e.at d j=some d[j]:=List.getElem?_eq_getElem (by omega)
       rw[← mkTo_set e d k j _ hj',List.getElem?_set,if_neg hji]
       exact ih (by omega) (by omega)
 have:=key d.length (by omega) (Nat.le_refl _)
 rw[mkTo_all _ _ _ _ (Nat.le_refl _)] at this
 exact this
theorem lt_heap{w:World}{g:Nat}{o:Obj}(h:w.heap[g]?=some o):g < w.heap.size:=by
 rcases Nat.lt_or_ge g w.heap.size with h' | h'
 · exact h'
 · rw[Array.getElem?_eq_none h'] at h;cases h
end Go.Proofs.YthodinpflcbklaaDoor
namespace Go.Proofs.YthodinpflcbklaaDoor
open Go.RowKit
theorem set_toArray1(cur:Array Value)(i:Nat)(v:Value):cur.setIfInBounds i v=(setRow cur.toList (i*1) [v]).toArray:=by
 apply Array.ext'
 simp[setRow]
theorem cnt_bytes(d:List Int):Sh.cnt (.sl .u8) d=d.length:=by
 show (List.map (fun _=>1) d).sum=d.length
 induction d with
 | nil=>rfl
 | cons a l ih=>simp[ih];omega
theorem cntTo_bytes(d:List Int)(i:Nat)(h:i≤d.length):cntTo .u8 d i=i:=by
 have h1:cntTo .u8 d i=Sh.cnt (.sl .u8) (List.take (α:=Int) i d):=rfl
 exact h1.trans ((cnt_bytes (List.take (α:=Int) i d)).trans (by rw[List.length_take];omega))
theorem own_len{e:Sh}{w:World}{B:Nat}{a:Option Addr}{n cap:Nat}{d:List e.D}{F:List Nat}(h:Own (.sl e) w B [Sz a n cap] d F):d.length=n∧n≤maxLen∧(n=0∨∃ g,a=some ⟨g,0,none⟩):=by
 rcases h with ⟨h1,h2,_⟩ | ⟨g,cp,t,cur,Cs,Fs,h1,_,_,h2,h3,_⟩
 · simp only[List.cons.injEq,Value.slice.injEq,and_true] at h1
   obtain⟨_,rfl,_⟩:=h1
   exact⟨h2,Nat.zero_le _,.inl rfl⟩
 · simp only[List.cons.injEq,Value.slice.injEq,and_true] at h1
   obtain⟨rfl,rfl,rfl⟩:=h1
   exact⟨rfl,Nat.le_trans h2 h3,.inr ⟨g,rfl⟩⟩
set_option maxRecDepth 100000 in
theorem markByteS_own (a:Option Addr) (n cap B k:Nat) (d:List Int) (F:List Nat) (w:World) (ho:Own (.sl .u8) w B [Sz a n cap] d F) (hnd:F.Nodup) (hk:k+Sh.cnt (.sl .u8) d≤1000000000000) :
   Calls Tryd.prog 17 #[Sz a n cap,I O k] w fun e w'=>e=.returned (I O ((k+Sh.cnt (.sl .u8) d:Nat):Int))∧Own (.sl .u8) w' B [Sz a n cap] (Sh.mk (.sl .u8) d k) F∧Touch w w' F:=by
 obtain⟨hl0,hm,hg⟩:=own_len ho
 have hl:List.length (α:=Int) d=n:=hl0
 rw[cnt_bytes] at hk ⊢
 have HO:Hid (Own (.sl .u8) w B [Sz a n cap] d F∧F.Nodup):=⟨ho,hnd⟩
 have HL:Hid (d.length=n):=hl
 rw[hl] at hk ⊢
 clear ho hnd hl hl0
 unfold maxLen at hm
 go_enter Tryd.func17,Tryd.ntmps17
 go_wp2
 go_loopw [1,5] (fun m i wr=>∃ j:Nat,j≤n∧m=I O ((k+j:Nat):Int)∧i=I O j∧Hid (Own (.sl .u8) wr B [Sz a n cap] (mkTo .u8 d k j) F)∧Touch w wr F) (fun _ i _=>n - (intOf i).toNat)
 case atStart=>exact⟨0,Nat.zero_le _,by simp,rfl,(congrArg (fun z=>Own (.sl .u8) w B [Sz a n cap] z F) (mkTo_zero .u8 d k)).mpr HO.out.1,Touch.refl _ _⟩
 case round =>
   obtain⟨j,hj,rfl,rfl,ho,ht⟩:=hrel
   by_cases hlt:j < n
   · obtain⟨g,rfl⟩:=hg.resolve_left (by omega)
     have hxd:Sh.at .u8 d j=some (d[j]'(by have:=HL.out;omega)):=List.getElem?_eq_getElem _
     obtain⟨t,cur,c,x,f,hh,hx,hoe,hnf,hgf,hfF,hgF,hBg,hcur,hclose⟩:=own_elem ho.out HO.out.2 j hlt
     obtain⟨⟨rfl,_⟩,rfl⟩:=hoe
     have hc0:wr.cell? ⟨g,j,none⟩=some (I .u8 x):=bxc hh (by have:=hcur 0 (by decide);simpa [Sh.size_u8] using this)
     have hf0:wr.frozen? ⟨g,j,none⟩=false:=box_frozen hh
     have hset:Own (.sl .u8) (wr.setCell ⟨g,j,none⟩ (I .u8 (((k+j:Nat):Int) % 256))) B [Sz (some ⟨g,0,none⟩) n cap] (mkTo .u8 d k (j+1)) F:=by
       have h1:=mkTo_set .u8 d k j _ hxd
       rw[cntTo_bytes d j (by have:=HL.out;omega)] at h1
       rw[← h1]
       refine hclose _ [I .u8 (((k+j:Nat):Int) % 256)] _ ⟨⟨?_,?_⟩,rfl⟩ ?_ ?_
       · show [_]=[Value.int .u8 ((((k+j) % 256:Nat)):Int)]
         simp
       · show isByte ((((k+j) % 256:Nat)):Int)
         unfold isByte;omega
       · rw[box_set _ hh,set_toArray1];rfl
       · intro y _ hy _;exact box_other _ hy
     have ht2:Touch w (wr.setCell ⟨g,j,none⟩ (I .u8 (((k+j:Nat):Int) % 256))) F:=ht.trans (Touch.set wr g j _ hgF)
     have HH:Hid (_∧_):=⟨hset,ht2⟩
     clear hh hx hcur hclose hset ht2 hfF hgF hBg hnf hgf ho ht hxd
     go_wp2
     go_roundw
     case rel=>exact⟨j+1,by omega,by congr 1,by go_num,HH.out.1,HH.out.2⟩
     case measure=>simp[intOf];omega
   · have e:j=n:=by omega
     subst e
     have hfin:Own (.sl .u8) wr B [Sz a j cap] (Sh.mk (.sl .u8) d k) F:=(congrArg (fun z=>Own (.sl .u8) wr B [Sz a j cap] z F) (mkTo_all .u8 d k j (Nat.le_of_eq HL.out))).mp ho.out
     have HH:Hid (Own (.sl .u8) wr B [Sz a j cap] (Sh.mk (.sl .u8) d k) F):=hfin
     clear hfin ho
     go_wp2
     go_ret
     exact⟨rfl,HH.out,ht⟩
set_option maxRecDepth 100000 in
theorem heldByteS_own (a:Option Addr) (n cap B k:Nat) (d:List Int) (F:List Nat) (w:World) (ho:Own (.sl .u8) w B [Sz a n cap] (Sh.mk (.sl .u8) d k) F) (hk:k+Sh.cnt (.sl .u8) d≤1000000000000) :
   Calls Tryd.prog 37 #[Sz a n cap,I O k] w fun e w'=>e=.returned (I O ((k+Sh.cnt (.sl .u8) d:Nat):Int))∧Below w.heap.size w w':=by
 obtain⟨hl0,hm,hg⟩:=own_len ho
 have hl:List.length (α:=Int) d=n:=by rw[← hl0];exact(mkRow_length _ _ _ _).symm
 rw[cnt_bytes] at hk ⊢
 have HR:Hid (Reads (.sl .u8) w [Sz a n cap] (Sh.mk (.sl .u8) d k)):=ho.reads
 have HL:Hid (d.length=n):=hl
 rw[hl] at hk ⊢
 clear ho hl hl0 hg
 unfold maxLen at hm
 go_enter Tryd.func37,Tryd.ntmps37
 go_wp2
 go_loop [1,5] (fun m i=>∃ j:Nat,j≤n∧m=I O ((k+j:Nat):Int)∧i=I O j) (fun _ i=>n - (intOf i).toNat)
 case atStart=>exact⟨0,Nat.zero_le _,by simp,rfl⟩
 case round =>
   obtain⟨j,hj,rfl,rfl⟩:=hrel
   by_cases hlt:j < n
   · obtain⟨b,off,c,x,rfl,hb,hx,hrx,hcell⟩:=reads_elem HR.out j hlt
     have hxd:Sh.at .u8 d j=some (d[j]'(by have:=HL.out;omega)):=List.getElem?_eq_getElem _
     have hx2:=mk_at .u8 d k j _ hxd
     rw[cntTo_bytes d j (by have:=HL.out;omega)] at hx2
     have hxe:=Option.some.inj (hx.symm.trans hx2)
     obtain⟨rfl,_⟩:=hrx
     have hc0:w.cell? ⟨b,off+j,none⟩=some (I .u8 (((k+j:Nat):Int) % 256)):=by
       have:=hcell 0 (by decide)
       simp only[Sh.size_u8,Nat.mul_one,Nat.add_zero] at this
       rw[this,hxe]
       show some (Value.int .u8 ((((k+j) % 256:Nat)):Int))=_
       simp
     have hne:((((k+j:Nat):Int) % 256) != (((k+j:Nat):Int) % 256))=false:=by simp
     clear hx hcell hxd hx2 hxe
     go_wp2
     go_round
     case rel=>exact⟨j+1,by omega,by congr 1,by go_num⟩
     case measure=>simp[intOf];omega
   · have e:j=n:=by omega
     subst e
     go_wp2
     go_ret
     exact⟨rfl,Below.refl _ _⟩
end Go.Proofs.YthodinpflcbklaaDoor
namespace Go.Proofs.YthodinpflcbklaaDoor
open Go.RowKit
theorem own_val{e:Sh}{w:World}{B:Nat}{v:Value}{d:List e.D}{F:List Nat}(h:Own (.sl e) w B [v] d F):∃ a c,v=Sz a d.length c∧d.length≤c∧c≤maxLen∧(a=none→c=0):=by
 rcases h with ⟨h1,h2,_⟩ | ⟨g,cp,t,cur,Cs,Fs,h1,_,_,h2,h3,_⟩
 · simp only[List.cons.injEq,and_true] at h1
   have h2':d.length=0:=h2
   exact⟨none,0,by rw[h2',h1],by omega,Nat.zero_le _,fun _=>rfl⟩
 · simp only[List.cons.injEq,and_true] at h1
   exact⟨_,cp,h1,h2,h3,fun h=>by cases h⟩
theorem reads_val{e:Sh}{w:World}{v:Value}{d:List e.D}(h:Reads (.sl e) w [v] d):∃ a c,v=Sz a d.length c∧d.length≤c∧c≤maxLen:=by
 obtain⟨ad,cp,h1,h2,h3,_⟩:=h
 simp only[List.cons.injEq,and_true] at h1
 exact⟨ad,cp,h1,h2,h3⟩
theorem reads_mk{w:World}{a:Option Addr}{n cap:Nat}{zs:List Int}(h:Rd w a zs)(hl:zs.length=n)(hc:n≤cap)(hm:cap≤maxLen):Reads (.sl .u8) w [Sz a n cap] zs:=by
 refine⟨a,cap,by subst hl;rfl,?_,hm,?_⟩
 · show zs.length≤cap;omega
 · rcases h.2 with h0 | ⟨b,off,h1,h2,h3⟩
   · left;show zs.length=0;rw[h0];rfl
   · right
     refine⟨b,off,h1,h2,fun i x hx=>?_⟩
     have hx':zs[i]?=some x:=hx
     have hi:i < zs.length:=(List.getElem?_eq_some_iff.1 hx').1
     refine⟨[I .u8 x],rfl,fun j hj=>?_,rfl,?_⟩
     · have hj0:j=0:=by have:j < 1:=hj;omega
       subst hj0
       have h5:w.cell? ⟨b,off+i,none⟩=some (I .u8 x):=by rw[h3 i hi,hx'];rfl
       simpa [Sh.size_u8] using h5
     · have:=h.1 i
       rw[hx'] at this
       exact this
theorem reads_row{w:World}{a:Option Addr}{len cap:Nat}{zs:List Int}
   (h:(a=none∧len=0∧cap=0∧zs=[]) ∨
     ∃ x,a=some x∧len≤cap∧cap≤maxLen∧zs.length=cap∧(∀ i,i < zs.length→w.cell? (x.add i)=some (I .u8 (zs.getD i 0)))∧∀ n ∈ zs,(Lit.int .u8 n).wf=true):Reads (.sl .u8) w [Sz a len cap] (zs.take len):=by
 have h1:=rd_of h
 rcases h with ⟨_,rfl,rfl,_⟩ | ⟨x,_,h2,h3,_⟩
 · exact reads_mk h1.1 h1.2.1 (Nat.le_refl _) (Nat.zero_le _)
 · exact reads_mk h1.1 h1.2.1 h2 h3
theorem own_row{w:World}{B n:Nat}{v:Value}{d:List Int}(hl:d.length=n)(hb:∀ i:Nat,0≤d[i]?.getD 0∧d[i]?.getD 0≤255)(h:w.ownsRow B 5 1 v n (d.map (Value.int .u8))):∃ F,Own (.sl .u8) w B [v] d F∧F.Nodup:=by
 rcases h.2 with ⟨h1,h2⟩ | ⟨g,cap,cur,hv,_⟩
 · refine⟨[],.inl ⟨by rw[h1],?_,rfl⟩,by simp⟩
   show d.length=0;omega
 · subst hv
   exact⟨[g],own_bytes hl hb h,by simp⟩
theorem toByteS_v(v:Value)(d:List Int)(w:World)(hr:Reads (.sl .u8) w [v] d)(hs:d.length≤1048576):
   Calls Tryd.prog 14 #[v] w fun e w'=>∃ v' F,e=.returned v'∧Own (.sl .u8) w' w.heap.size [v'] d F∧F.Nodup∧Below w.heap.size w w':=by
 obtain⟨a,c,rfl,_,_⟩:=reads_val hr
 have e:Sh.sz (.sl .u8) d=d.length:=by show List.length d+(List.map (fun _=>0) d).sum=d.length;rw[sum_zero];rfl
 refine(toByteS_own a _ c d w hr (by omega)).mono ?_
 rintro e w' ⟨g,F,rfl,ho,hn,hb⟩
 exact⟨_,F,rfl,ho,hn,hb⟩
theorem eqByteS_v(v1 v2:Value)(d:List Int)(w:World)(h1:Reads (.sl .u8) w [v1] d)(h2:Reads (.sl .u8) w [v2] d)(hs:d.length≤16777216):
   Calls Tryd.prog 16 #[v1,v2] w fun e w'=>e=.returned (.bool true)∧Below w.heap.size w w':=by
 obtain⟨a,c,rfl,_,_⟩:=reads_val h1
 obtain⟨b,c2,rfl,_,_⟩:=reads_val h2
 obtain⟨hl,hrd1,hc1,hc2⟩:=reads_bytes h1
 obtain⟨_,hrd2,_,_⟩:=reads_bytes h2
 exact eqByteS_true a b _ c c2 d w rfl hrd1 hrd2 hs
theorem markByteS_v(v:Value)(B:Nat)(k:Int)(kn:Nat)(d:List Int)(F:List Nat)(w:World)(hkn:k=kn)(ho:Own (.sl .u8) w B [v] d F)(hnd:F.Nodup)(hk0:1≤kn)(hk:kn+Sh.cnt (.sl .u8) d≤1000000000000):
   Calls Tryd.prog 17 #[v,I O k] w fun e w'=>e=.returned (I O ((kn+Sh.cnt (.sl .u8) d:Nat):Int))∧Own (.sl .u8) w' B [v] (Sh.mk (.sl .u8) d kn) F∧Touch w w' F:=by
 obtain⟨a,c,rfl,_,_⟩:=own_val ho
 subst hkn
 exact markByteS_own a _ c B kn d F w ho hnd hk
theorem heldByteS_v(v:Value)(B:Nat)(k:Int)(kn:Nat)(d:List Int)(F:List Nat)(w:World)(hkn:k=kn)(ho:Own (.sl .u8) w B [v] (Sh.mk (.sl .u8) d kn) F)(hnd:F.Nodup)(hk0:1≤kn)(hk:kn+Sh.cnt (.sl .u8) d≤1000000000000):
   Calls Tryd.prog 37 #[v,I O k] w fun e w'=>e=.returned (I O ((kn+Sh.cnt (.sl .u8) d:Nat):Int))∧Below w.heap.size w w':=by
 obtain⟨a,c,rfl,_,_⟩:=own_val ho
 subst hkn
 exact heldByteS_own a _ c B kn d F w ho hk
theorem cnt_byteS(d:List Int):Sh.cnt (.sl .u8) d=d.length:=cnt_bytes d
end Go.Proofs.YthodinpflcbklaaDoor
namespace Go.Proofs.YthodinpflcbklaaDoor
open Go.RowKit
theorem Tryd.infoI:(Tryd.prog.info? 3).map (fun i=>(i.zero,i.size,i.bytes))=some (some (I O 0),1,8):=by kernel_rfl
def RdI(w:World)(a:Option Addr)(zs:List Int):Prop:=
 (zs=[]∨∃ b off,a=some ⟨b,off,none⟩∧b < w.heap.size∧∀ i,i < zs.length→w.cell? ⟨b,off+i,none⟩=some (I O (zs[i]?.getD 0)))
theorem RdI.later{w w':World}{a:Option Addr}{zs:List Int}(h:RdI w a zs)(hb:Below w.heap.size w w'):RdI w' a zs:=by
 rcases h with h2 | ⟨b,off,ha,hlt,hc⟩
 · exact .inl h2
 · exact .inr ⟨b,off,ha,Nat.lt_of_lt_of_le hlt hb.size,fun i hi=>(hb.cell (p:=⟨b,off+i,none⟩) hlt).trans (hc i hi)⟩
def halfI(zs:List Int)(n k:Nat):List Int:=(List.range n).map fun i=>if i < k then zs[i]?.getD 0 else 0
theorem halfI_zero(zs:List Int)(n:Nat):(madeCells #[Value.int .i64 0] n).toList=(halfI zs n 0).map (Value.int .i64):=by
 rw[toList_madeCells_one]
 apply List.ext_getElem
 · simp[halfI]
 · intro i h1 h2
   simp[halfI]
theorem halfI_full(zs:List Int)(n:Nat)(h:zs.length=n):halfI zs n n=zs:=by
 apply List.ext_getElem
 · simp[halfI,h]
 · intro i h1 h2
   simp[halfI] at h1
   simp[halfI,h1,h2]
theorem halfI_set(zs:List Int)(n k:Nat)(hk:k < n):((halfI zs n k).map (Value.int .i64)).set k (I O (zs[k]?.getD 0))=(halfI zs n (k+1)).map (Value.int .i64):=by
 apply List.ext_getElem
 · simp[halfI]
 · intro i h1 h2
   simp[halfI] at h1 h2
   rw[List.getElem_set]
   by_cases e:k=i
   · subst e;simp[halfI]
   · by_cases h:i < k
     · simp[halfI,e,h,Nat.lt_succ_of_lt h]
     · have:¬ i < k+1:=by omega
       simp[halfI,e,h,this]
theorem toIntS_any(a:Option Addr)(n cap:Nat)(zs:List Int)(w:World)(hl:Hid (zs.length=n))(hr:RdI w a zs)(hn:n≤1048576):
   Calls Tryd.prog 30 #[Sz a n cap] w fun e w'=>e=.returned (Sz (some ⟨w.heap.size,0,none⟩) n n) ∧
     w'.ownsRow w.heap.size 3 1 (Sz (some ⟨w.heap.size,0,none⟩) n n) n (zs.map (Value.int .i64))∧Below w.heap.size w w':=by
 obtain⟨i0,hi,hz0,hz1,hz2⟩:=info_parts Tryd.infoI
 go_enter Tryd.func30,Tryd.ntmps30
 go_wp2_with (at_make;refine wpList_make_full _ rfl _ _ 22 rfl w.heap.size 3 i0 (I O 0) 1 Tryd.underlying22 hi hz0 hz1 _ _ _ _ n rfl rfl rfl rfl ?b2 ?b3 (Nat.le_refl _) ?_)
 case b2=>rw[hz2];omega
 case b3=>unfold maxLen;omega
 intro w0 hown0 hgrow0
 rw[halfI_zero zs] at hown0
 go_wp2
 go_loopw [4] (fun i wr=>∃ k:Nat,k≤n∧i=I O k∧wr.ownsRow w.heap.size 3 1 (Sz (some ⟨w.heap.size,0,none⟩) n n) n ((halfI zs n k).map (Value.int .i64))∧Below w.heap.size w wr)
   (fun i _=>n - (intOf i).toNat)
 case atStart=>exact⟨0,Nat.zero_le _,rfl,hown0,(Below.refl _ _).grown hgrow0 (Nat.le_refl _) (fun k h=>by cases h)⟩
 case round =>
   obtain⟨k,hk,rfl,hown,hb⟩:=hrel
   by_cases hlt:k < n
   · obtain⟨b,off,rfl,hbl,hc⟩:∃ b off,a=some ⟨b,off,none⟩∧b < w.heap.size∧∀ i,i < n→w.cell? ⟨b,off+i,none⟩=some (I O (zs[i]?.getD 0)):=by
       rcases hr with h | ⟨b,off,h1,h2,h3⟩
       · have:=hl.out;subst h;simp at this;omega
       · exact⟨b,off,h1,h2,fun i hi=>h3 i (by have:=hl.out;omega)⟩
     have hcr:wr.cell? ⟨b,off+k,none⟩=some (I O (zs[k]?.getD 0)):=(hb.cell (p:=⟨b,off+k,none⟩) hbl).trans (hc k hlt)
     have hfz:=hown.frozenAt k
     have hco:∃ u,wr.cell? ⟨w.heap.size,k,none⟩=some u:=by rw[hown.cellAt k (by omega)];exact⟨_,List.getElem?_eq_getElem (by simp[halfI];omega)⟩
     obtain⟨u,hco⟩:=hco
     have hst:=hown.stored k (I O (zs[k]?.getD 0))
     rw[halfI_set zs n k hlt] at hst
     have HS:Hid (_∧_):=hst
     have hbs:Below w.heap.size w (wr.setCell ⟨w.heap.size,k,none⟩ (I O (zs[k]?.getD 0))):=hb.setCell (Nat.le_refl _) _
     clear hst hc
     go_wp2
     go_roundw
     case rel=>exact⟨k+1,by omega,by go_num,HS.out.1,hbs⟩
     case measure=>simp[intOf];omega
   · have e:k=n:=by omega
     subst e
     rw[halfI_full zs k hl.out] at hown
     go_wp2
     go_ret
     exact⟨rfl,hown,hb⟩
end Go.Proofs.YthodinpflcbklaaDoor
namespace Go.Proofs.YthodinpflcbklaaDoor
open Go.RowKit
theorem eqIntS_same(a b:Option Addr)(n ca cb:Nat)(zs:List Int)(w:World)(hl:Hid (zs.length=n))(hra:RdI w a zs)(hrb:RdI w b zs)(hn:n≤2097152):
   Calls Tryd.prog 32 #[Sz a n ca,Sz b n cb] w fun e w'=>e=.returned (.bool true)∧∃ q,w'=w.drewN q:=by
 have hnn:((n:Int) != (n:Int))=false:=by simp
 go_enter Tryd.func32,Tryd.ntmps32
 go_wp2
 go_loopw [5] (fun i wr=>∃ k:Nat,k≤n∧i=I O k∧∃ q,wr=w.drewN q) (fun i _=>n - (intOf i).toNat)
 case atStart=>exact⟨0,Nat.zero_le _,rfl,0,rfl⟩
 case round =>
   obtain⟨k,hk,rfl,q,rfl⟩:=hrel
   by_cases hlt:k < n
   · have hne:zs≠[]:=by intro h;have:=hl.out;subst h;simp at this;omega
     obtain⟨b1,o1,rfl,hb1,hc1⟩:=hra.resolve_left hne
     obtain⟨b2,o2,rfl,hb2,hc2⟩:=hrb.resolve_left hne
     have g1:w.cell? ⟨b1,o1+k,none⟩=some (I O (zs[k]?.getD 0)):=hc1 k (by have:=hl.out;omega)
     have g2:w.cell? ⟨b2,o2+k,none⟩=some (I O (zs[k]?.getD 0)):=hc2 k (by have:=hl.out;omega)
     have hlt':(k:Int) < (n:Int):=by omega
     clear hc1 hc2 hne hra hrb
     go_wp2
     go_quiet (fail)
     go_wp2
     go_roundw
     case rel=>exact⟨k+1,by omega,by go_num,_,rfl⟩
     case measure=>simp[intOf];omega
   · go_wp2
     go_ret
     exact⟨rfl,q,rfl⟩
theorem rdI_own{w:World}{base g n cap:Nat}{zs:List Int}(hl:zs.length=n)
   (h:w.ownsRow base 3 1 (Sz (some ⟨g,0,none⟩) n cap) n (zs.map (Value.int .i64))):RdI w (some ⟨g,0,none⟩) zs:=by
 refine .inr ⟨g,0,rfl,(h.lt g rfl).2,fun i hi=>?_⟩
 rw[Nat.zero_add,h.cellAt i (by omega)]
 simp[hi]
end Go.Proofs.YthodinpflcbklaaDoor
namespace Go.Proofs.YthodinpflcbklaaDoor
open Go.RowKit
theorem cnt_ints(d:List Int):Sh.cnt (.sl .int) d=d.length:=by
 show (List.map (fun _=>1) d).sum=d.length
 induction d with
 | nil=>rfl
 | cons a l ih=>simp[ih];omega
theorem cntTo_ints(d:List Int)(i:Nat)(h:i≤d.length):cntTo .int d i=i:=by
 have h1:cntTo .int d i=Sh.cnt (.sl .int) (List.take (α:=Int) i d):=rfl
 exact h1.trans ((cnt_ints (List.take (α:=Int) i d)).trans (by rw[List.length_take];omega))
theorem sz_ints(d:List Int):Sh.sz (.sl .int) d=d.length:=by
 show List.length d+(List.map (fun _=>0) d).sum=d.length
 rw[sum_zero];rfl
theorem reads_ints{w:World}{a:Option Addr}{n cap:Nat}{d:List Int}(h:Reads (.sl .int) w [Value.slice a n cap] d):List.length d=n∧RdI w a d∧n≤cap∧cap≤maxLen:=by
 obtain⟨ad,cp,e,hl,hm,h0⟩:=h
 simp only[List.cons.injEq,Value.slice.injEq,and_true] at e
 obtain⟨rfl,hn,rfl⟩:=e
 refine⟨hn.symm,?_,by omega,hm⟩
 rcases h0 with h | ⟨b,off,ha,hlt,hx⟩
 · exact .inl (List.eq_nil_of_length_eq_zero h)
 · refine .inr ⟨b,off,ha,hlt,fun i hi=>?_⟩
   obtain⟨c,hc,hcell,hr⟩:=hx i d[i] (List.getElem?_eq_getElem hi)
   have h1:=hcell 0 (by decide)
   obtain rfl:=hr
   simp only[Sh.size_int,Nat.mul_one,Nat.add_zero] at h1
   rw[h1];simp[hi]
theorem reads_mkI{w:World}{a:Option Addr}{n cap:Nat}{zs:List Int}(h:RdI w a zs)(hl:zs.length=n)(hc:n≤cap)(hm:cap≤maxLen):Reads (.sl .int) w [Sz a n cap] zs:=by
 refine⟨a,cap,by subst hl;rfl,?_,hm,?_⟩
 · show zs.length≤cap;omega
 · rcases h with h0 | ⟨b,off,h1,h2,h3⟩
   · left;show zs.length=0;rw[h0];rfl
   · right
     refine⟨b,off,h1,h2,fun i x hx=>?_⟩
     have hx':zs[i]?=some x:=hx
     have hi:i < zs.length:=(List.getElem?_eq_some_iff.1 hx').1
     refine⟨[I O x],rfl,fun j hj=>?_,rfl⟩
     have hj0:j=0:=by have:j < 1:=hj;omega
     subst hj0
     have h5:w.cell? ⟨b,off+i,none⟩=some (I O x):=by rw[h3 i hi,hx'];rfl
     simpa [Sh.size_int] using h5
theorem own_ints{w:World}{B g n cap:Nat}{d:List Int}(hl:d.length=n)(h:w.ownsRow B 3 1 (Sz (some ⟨g,0,none⟩) n cap) n (d.map (Value.int .i64))):
   Own (.sl .int) w B [Sz (some ⟨g,0,none⟩) n cap] d [g]:=by
 rcases h.2 with ⟨h1,_⟩ | ⟨g',cap',cur,hv,hg,hh,h1,h2,h3,h4⟩
 · simp at h1
 · simp only[Value.slice.injEq,Option.some.injEq,Addr.mk.injEq,and_true,true_and] at hv
   obtain⟨rfl,rfl⟩:=hv
   refine .inr ⟨g,cap,3,cur,d.map (fun x=>[Value.int .i64 x]),d.map (fun _=>[]),?_,hg,hh,?_,h2,h3,?_,?_,?_,?_,?_⟩
   · show _=[Value.slice _ d.length cap];rw[hl]
   · show d.length≤cap;omega
   · show cur.toList.take (d.length*1)=_
     rw[hl,h4]
     exact(flatten_single (Value.int .i64) d).symm
   · show (d.map _).length=d.length;simp
   · show (d.map _).length=d.length;simp
   · have:∀ l:List Int,(l.map fun _=>([]:List Nat)).flatten=[]:=by
       intro l;induction l with
       | nil=>rfl
       | cons a l ih=>simp[ih]
     rw[this]
   · intro i c x f hc hx hf
     have hx':d[i]?=some x:=hx
     rw[List.getElem?_map,hx'] at hc hf
     obtain rfl:[Value.int .i64 x]=c:=Option.some.inj hc
     obtain rfl:[]=f:=Option.some.inj hf
     exact⟨rfl,rfl⟩
theorem own_rowI{w:World}{B n:Nat}{v:Value}{d:List Int}(hl:d.length=n)(h:w.ownsRow B 3 1 v n (d.map (Value.int .i64))):∃ F,Own (.sl .int) w B [v] d F∧F.Nodup:=by
 rcases h.2 with ⟨h1,h2⟩ | ⟨g,cap,cur,hv,_⟩
 · refine⟨[],.inl ⟨by rw[h1],?_,rfl⟩,by simp⟩
   show d.length=0;omega
 · subst hv
   exact⟨[g],own_ints hl h,by simp⟩
theorem szIntS_any(a:Option Addr)(n cap:Nat)(d:List Int)(left:Int)(w:World)(hr:Reads (.sl .int) w [Sz a n cap] d)(h0:0≤left)(h1:left≤1048576):
   Calls Tryd.prog 24 #[Sz a n cap,I O left] w fun e w'=>e=.returned (I O (szAns (Sh.sz (.sl .int) d) left))∧Below w.heap.size w w':=by
 obtain⟨hl,_,hc1,hc2⟩:=reads_ints hr
 have hs:Sh.sz (.sl .int) d=n:=by rw[sz_ints,hl]
 rw[hs]
 unfold maxLen at hc2
 clear hr hs
 by_cases h:(n:Int)≤left
 · rw[szAns_yes h]
   have h2:¬ (left - (n:Int) < 0):=by omega
   go_enter Tryd.func24,Tryd.ntmps24
   go_wp2
   go_ret
   exact⟨rfl,Below.refl _ _⟩
 · rw[szAns_no h]
   have h2:(left - (n:Int) < 0):=by omega
   go_enter Tryd.func24,Tryd.ntmps24
   go_wp2
   go_ret
   exact⟨rfl,Below.refl _ _⟩
theorem toIntS_own(a:Option Addr)(n cap:Nat)(d:List Int)(w:World)(hr:Reads (.sl .int) w [Sz a n cap] d)(hn:Sh.sz (.sl .int) d≤1048576):
   Calls Tryd.prog 30 #[Sz a n cap] w fun e w'=>∃ (g:Nat) (F:List Nat),e=.returned (Sz (some ⟨g,0,none⟩) n n)∧Own (.sl .int) w' w.heap.size [Sz (some ⟨g,0,none⟩) n n] d F∧F.Nodup∧Below w.heap.size w w':=by
 obtain⟨hl,hrd,hc1,hc2⟩:=reads_ints hr
 have hs:Sh.sz (.sl .int) d=n:=by rw[sz_ints,hl]
 refine(toIntS_any a n cap d w hl hrd (by omega)).mono ?_
 rintro e w' ⟨rfl,ho,hb⟩
 exact⟨_,_,rfl,own_ints hl ho,by simp,hb⟩
theorem eqIntS_reads(a b:Option Addr)(n ca cb:Nat)(d:List Int)(w:World)(hr1:Reads (.sl .int) w [Sz a n ca] d)(hr2:Reads (.sl .int) w [Sz b n cb] d)(hn:Sh.sz (.sl .int) d≤1048576):
   Calls Tryd.prog 32 #[Sz a n ca,Sz b n cb] w fun e w'=>e=.returned (.bool true)∧Below w.heap.size w w':=by
 obtain⟨hl,hrd1,hc1,hc2⟩:=reads_ints hr1
 obtain⟨_,hrd2,_,_⟩:=reads_ints hr2
 have hs:Sh.sz (.sl .int) d=n:=by rw[sz_ints,hl]
 refine(eqIntS_same a b n ca cb d w hl hrd1 hrd2 (by omega)).mono ?_
 rintro e w' ⟨rfl,q,rfl⟩
 exact⟨rfl,(Below.refl _ _).trans ⟨rfl,rfl,rfl,Nat.le_refl _,fun _ _=>rfl⟩⟩
theorem toIntS_v(v:Value)(d:List Int)(w:World)(hr:Reads (.sl .int) w [v] d)(hs:d.length≤1048576):
   Calls Tryd.prog 30 #[v] w fun e w'=>∃ v' F,e=.returned v'∧Own (.sl .int) w' w.heap.size [v'] d F∧F.Nodup∧Below w.heap.size w w':=by
 obtain⟨a,c,rfl,_,_⟩:=reads_val hr
 refine(toIntS_own a _ c d w hr (by rw[sz_ints];exact hs)).mono ?_
 rintro e w' ⟨g,F,rfl,ho,hn,hb⟩
 exact⟨_,F,rfl,ho,hn,hb⟩
theorem eqIntS_v(v1 v2:Value)(d:List Int)(w:World)(h1:Reads (.sl .int) w [v1] d)(h2:Reads (.sl .int) w [v2] d)(hs:d.length≤1048576):
   Calls Tryd.prog 32 #[v1,v2] w fun e w'=>e=.returned (.bool true)∧Below w.heap.size w w':=by
 obtain⟨a,c,rfl,_,_⟩:=reads_val h1
 obtain⟨b,c2,rfl,_,_⟩:=reads_val h2
 exact eqIntS_reads a b _ c c2 d w h1 h2 (by rw[sz_ints];exact hs)
set_option maxRecDepth 100000 in
theorem markIntS_own (a:Option Addr) (n cap B k:Nat) (d:List Int) (F:List Nat) (w:World) (ho:Own (.sl .int) w B [Sz a n cap] d F) (hnd:F.Nodup) (hk:k+Sh.cnt (.sl .int) d≤1000000000000) :
   Calls Tryd.prog 34 #[Sz a n cap,I O k] w fun e w'=>e=.returned (I O ((k+Sh.cnt (.sl .int) d:Nat):Int))∧Own (.sl .int) w' B [Sz a n cap] (Sh.mk (.sl .int) d k) F∧Touch w w' F:=by
 obtain⟨hl0,hm,hg⟩:=own_len ho
 have hl:List.length (α:=Int) d=n:=hl0
 rw[cnt_ints] at hk ⊢
 have HO:Hid (Own (.sl .int) w B [Sz a n cap] d F∧F.Nodup):=⟨ho,hnd⟩
 have HL:Hid (d.length=n):=hl
 rw[hl] at hk ⊢
 clear ho hnd hl hl0
 unfold maxLen at hm
 go_enter Tryd.func34,Tryd.ntmps34
 go_wp2
 go_loopw [1,5] (fun m i wr=>∃ j:Nat,j≤n∧m=I O ((k+j:Nat):Int)∧i=I O j∧Hid (Own (.sl .int) wr B [Sz a n cap] (mkTo .int d k j) F)∧Touch w wr F) (fun _ i _=>n - (intOf i).toNat)
 case atStart=>exact⟨0,Nat.zero_le _,by simp,rfl,(congrArg (fun z=>Own (.sl .int) w B [Sz a n cap] z F) (mkTo_zero .int d k)).mpr HO.out.1,Touch.refl _ _⟩
 case round =>
   obtain⟨j,hj,rfl,rfl,ho,ht⟩:=hrel
   by_cases hlt:j < n
   · obtain⟨g,rfl⟩:=hg.resolve_left (by omega)
     have hxd:Sh.at .int d j=some (d[j]'(by have:=HL.out;omega)):=List.getElem?_eq_getElem _
     obtain⟨t,cur,c,x,f,hh,hx,hoe,hnf,hgf,hfF,hgF,hBg,hcur,hclose⟩:=own_elem ho.out HO.out.2 j hlt
     obtain⟨rfl,rfl⟩:=hoe
     have hc0:wr.cell? ⟨g,j,none⟩=some (I O x):=bxc hh (by have:=hcur 0 (by decide);simpa [Sh.size_int] using this)
     have hf0:wr.frozen? ⟨g,j,none⟩=false:=box_frozen hh
     have hset:Own (.sl .int) (wr.setCell ⟨g,j,none⟩ (I O ((k+j:Nat):Int))) B [Sz (some ⟨g,0,none⟩) n cap] (mkTo .int d k (j+1)) F:=by
       have h1:=mkTo_set .int d k j _ hxd
       rw[cntTo_ints d j (by have:=HL.out;omega)] at h1
       rw[← h1]
       refine hclose _ [I O ((k+j:Nat):Int)] _ ⟨rfl,rfl⟩ ?_ ?_
       · rw[box_set _ hh,set_toArray1];rfl
       · intro y _ hy _;exact box_other _ hy
     have ht2:Touch w (wr.setCell ⟨g,j,none⟩ (I O ((k+j:Nat):Int))) F:=ht.trans (Touch.set wr g j _ hgF)
     have HH:Hid (_∧_):=⟨hset,ht2⟩
     clear hh hx hcur hclose hset ht2 hfF hgF hBg hnf hgf ho ht hxd
     go_wp2
     go_roundw
     case rel=>exact⟨j+1,by omega,by congr 1,by go_num,HH.out.1,HH.out.2⟩
     case measure=>simp[intOf];omega
   · have e:j=n:=by omega
     subst e
     have hfin:Own (.sl .int) wr B [Sz a j cap] (Sh.mk (.sl .int) d k) F:=(congrArg (fun z=>Own (.sl .int) wr B [Sz a j cap] z F) (mkTo_all .int d k j (Nat.le_of_eq HL.out))).mp ho.out
     have HH:Hid (Own (.sl .int) wr B [Sz a j cap] (Sh.mk (.sl .int) d k) F):=hfin
     clear hfin ho
     go_wp2
     go_ret
     exact⟨rfl,HH.out,ht⟩
set_option maxRecDepth 100000 in
theorem heldIntS_own (a:Option Addr) (n cap B k:Nat) (d:List Int) (F:List Nat) (w:World) (ho:Own (.sl .int) w B [Sz a n cap] (Sh.mk (.sl .int) d k) F) (hk:k+Sh.cnt (.sl .int) d≤1000000000000) :
   Calls Tryd.prog 36 #[Sz a n cap,I O k] w fun e w'=>e=.returned (I O ((k+Sh.cnt (.sl .int) d:Nat):Int))∧Below w.heap.size w w':=by
 obtain⟨hl0,hm,hg⟩:=own_len ho
 have hl:List.length (α:=Int) d=n:=by rw[← hl0];exact(mkRow_length _ _ _ _).symm
 rw[cnt_ints] at hk ⊢
 have HR:Hid (Reads (.sl .int) w [Sz a n cap] (Sh.mk (.sl .int) d k)):=ho.reads
 have HL:Hid (d.length=n):=hl
 rw[hl] at hk ⊢
 clear ho hl hl0 hg
 unfold maxLen at hm
 go_enter Tryd.func36,Tryd.ntmps36
 go_wp2
 go_loop [1,5] (fun m i=>∃ j:Nat,j≤n∧m=I O ((k+j:Nat):Int)∧i=I O j) (fun _ i=>n - (intOf i).toNat)
 case atStart=>exact⟨0,Nat.zero_le _,by simp,rfl⟩
 case round =>
   obtain⟨j,hj,rfl,rfl⟩:=hrel
   by_cases hlt:j < n
   · obtain⟨b,off,c,x,rfl,hb,hx,hrx,hcell⟩:=reads_elem HR.out j hlt
     have hxd:Sh.at .int d j=some (d[j]'(by have:=HL.out;omega)):=List.getElem?_eq_getElem _
     have hx2:=mk_at .int d k j _ hxd
     rw[cntTo_ints d j (by have:=HL.out;omega)] at hx2
     have hxe:=Option.some.inj (hx.symm.trans hx2)
     obtain rfl:=hrx
     have hc0:w.cell? ⟨b,off+j,none⟩=some (I O ((k+j:Nat):Int)):=by
       have:=hcell 0 (by decide)
       simp only[Sh.size_int,Nat.mul_one,Nat.add_zero] at this
       rw[this,hxe]
       rfl
     have hne:(((k+j:Nat):Int) != ((k+j:Nat):Int))=false:=by simp
     clear hx hcell hxd hx2 hxe
     go_wp2
     go_round
     case rel=>exact⟨j+1,by omega,by congr 1,by go_num⟩
     case measure=>simp[intOf];omega
   · have e:j=n:=by omega
     subst e
     go_wp2
     go_ret
     exact⟨rfl,Below.refl _ _⟩
theorem markIntS_v(v:Value)(B:Nat)(k:Int)(kn:Nat)(d:List Int)(F:List Nat)(w:World)(hkn:k=kn)(ho:Own (.sl .int) w B [v] d F)(hnd:F.Nodup)(hk0:1≤kn)(hk:kn+Sh.cnt (.sl .int) d≤1000000000000):
   Calls Tryd.prog 34 #[v,I O k] w fun e w'=>e=.returned (I O ((kn+Sh.cnt (.sl .int) d:Nat):Int))∧Own (.sl .int) w' B [v] (Sh.mk (.sl .int) d kn) F∧Touch w w' F:=by
 obtain⟨a,c,rfl,_,_⟩:=own_val ho
 subst hkn
 exact markIntS_own a _ c B kn d F w ho hnd hk
theorem heldIntS_v(v:Value)(B:Nat)(k:Int)(kn:Nat)(d:List Int)(F:List Nat)(w:World)(hkn:k=kn)(ho:Own (.sl .int) w B [v] (Sh.mk (.sl .int) d kn) F)(hnd:F.Nodup)(hk0:1≤kn)(hk:kn+Sh.cnt (.sl .int) d≤1000000000000):
   Calls Tryd.prog 36 #[v,I O k] w fun e w'=>e=.returned (I O ((kn+Sh.cnt (.sl .int) d:Nat):Int))∧Below w.heap.size w w':=by
 obtain⟨a,c,rfl,_,_⟩:=own_val ho
 subst hkn
 exact heldIntS_own a _ c B kn d F w ho hk
end Go.Proofs.YthodinpflcbklaaDoor
