/-
  Parts of the road to VB, joined: Bytes, Marks, Open, Keep, Shp, OwnD, TyBase, OwnM.
-/
import Derived.Test.YthodinpflcbklaaDoorRows
import Derived.WalkKit
import Derived.WalkSpells
import Derived.WalkLawsBesides
import Derived.Deep.QuietTactic
import Derived.BigQuiet
import Derived.ChangeArms
import Derived.Laws.BytesArg
import Derived.Deep.Slices
open Go.Value renaming int → I,slice → Sz
open Go.IntKind renaming i64 → O
open List renaming setIfInBounds_toArray → lA,getElem_toArray → lB,getElem_cons_succ → lC,getElem_cons_zero → lD,set_cons_zero → lE,set_cons_succ → lF
set_option linter.unusedVariables false
set_option linter.unusedSimpArgs false
set_option maxHeartbeats 40000000
namespace Go.Proofs.YthodinpflcbklaaDoor
open Go.RowKit
theorem Tryd.infoB:(Tryd.prog.info? 5).map (fun i=>(i.zero,i.size,i.bytes))=some (some (I .u8 0),1,1):=by kernel_rfl
def Rd(w:World)(a:Option Addr)(zs:List Int):Prop:=
 (∀ i:Nat,0≤zs[i]?.getD 0∧zs[i]?.getD 0≤255)∧(zs=[]∨∃ b off,a=some ⟨b,off,none⟩∧b < w.heap.size∧∀ i,i < zs.length→w.cell? ⟨b,off+i,none⟩=some (I .u8 (zs[i]?.getD 0)))
theorem Rd.later{w w':World}{a:Option Addr}{zs:List Int}(h:Rd w a zs)(hb:Below w.heap.size w w'):Rd w' a zs:=by
 obtain⟨h1,h2⟩:=h
 refine⟨h1,?_⟩
 rcases h2 with h2 | ⟨b,off,ha,hlt,hc⟩
 · exact .inl h2
 · exact .inr ⟨b,off,ha,Nat.lt_of_lt_of_le hlt hb.size,fun i hi=>(hb.cell (p:=⟨b,off+i,none⟩) hlt).trans (hc i hi)⟩
def half(zs:List Int)(n k:Nat):List Int:=(List.range n).map fun i=>if i < k then zs[i]?.getD 0 else 0
theorem half_zero(zs:List Int)(n:Nat):(madeCells #[Value.int .u8 0] n).toList=(half zs n 0).map (Value.int .u8):=by
 rw[toList_madeCells_one]
 apply List.ext_getElem
 · simp[half]
 · intro i h1 h2
   simp[half]
theorem half_full(zs:List Int)(n:Nat)(h:zs.length=n):half zs n n=zs:=by
 apply List.ext_getElem
 · simp[half,h]
 · intro i h1 h2
   simp[half] at h1
   simp[half,h1,h2]
theorem half_set(zs:List Int)(n k:Nat)(hk:k < n):((half zs n k).map (Value.int .u8)).set k (I .u8 (zs[k]?.getD 0))=(half zs n (k+1)).map (Value.int .u8):=by
 apply List.ext_getElem
 · simp[half]
 · intro i h1 h2
   simp[half] at h1 h2
   rw[List.getElem_set]
   by_cases e:k=i
   · subst e;simp[half]
   · by_cases h:i < k
     · simp[half,e,h,Nat.lt_succ_of_lt h]
     · have:¬ i < k+1:=by omega
       simp[half,e,h,this]
theorem toByteS_any(a:Option Addr)(n cap:Nat)(zs:List Int)(w:World)(hl:Hid (zs.length=n))(hr:Rd w a zs)(hn:n≤1048576):
   Calls Tryd.prog 14 #[Sz a n cap] w fun e w'=>e=.returned (Sz (some ⟨w.heap.size,0,none⟩) n n) ∧
     w'.ownsRow w.heap.size 5 1 (Sz (some ⟨w.heap.size,0,none⟩) n n) n (zs.map (Value.int .u8))∧Below w.heap.size w w':=by
 obtain⟨i0,hi,hz0,hz1,hz2⟩:=info_parts Tryd.infoB
 go_enter Tryd.func14,Tryd.ntmps14
 go_wp2_with (at_make;refine wpList_make_full _ rfl _ _ 25 rfl w.heap.size 5 i0 (I .u8 0) 1 Tryd.underlying25 hi hz0 hz1 _ _ _ _ n rfl rfl rfl rfl ?b2 ?b3 (Nat.le_refl _) ?_)
 case b2=>rw[hz2];omega
 case b3=>unfold maxLen;omega
 intro w0 hown0 hgrow0
 rw[half_zero zs] at hown0
 go_wp2
 go_loopw [4] (fun i wr=>∃ k:Nat,k≤n∧i=I O k∧wr.ownsRow w.heap.size 5 1 (Sz (some ⟨w.heap.size,0,none⟩) n n) n ((half zs n k).map (Value.int .u8))∧Below w.heap.size w wr)
   (fun i _=>n - (intOf i).toNat)
 case atStart=>exact⟨0,Nat.zero_le _,rfl,hown0,(Below.refl _ _).grown hgrow0 (Nat.le_refl _) (fun k h=>by cases h)⟩
 case round =>
   obtain⟨k,hk,rfl,hown,hb⟩:=hrel
   by_cases hlt:k < n
   · obtain⟨b,off,rfl,hbl,hc⟩:∃ b off,a=some ⟨b,off,none⟩∧b < w.heap.size∧∀ i,i < n→w.cell? ⟨b,off+i,none⟩=some (I .u8 (zs[i]?.getD 0)):=by
       rcases hr.2 with h | ⟨b,off,h1,h2,h3⟩
       · have:=hl.out;subst h;simp at this;omega
       · exact⟨b,off,h1,h2,fun i hi=>h3 i (by have:=hl.out;omega)⟩
     have hcr:wr.cell? ⟨b,off+k,none⟩=some (I .u8 (zs[k]?.getD 0)):=(hb.cell (p:=⟨b,off+k,none⟩) hbl).trans (hc k hlt)
     have hfz:=hown.frozenAt k
     have hco:∃ u,wr.cell? ⟨w.heap.size,k,none⟩=some u:=by rw[hown.cellAt k (by omega)];exact⟨_,List.getElem?_eq_getElem (by simp[half];omega)⟩
     obtain⟨u,hco⟩:=hco
     have hst:=hown.stored k (I .u8 (zs[k]?.getD 0))
     rw[half_set zs n k hlt] at hst
     have HS:Hid (_∧_):=hst
     have hbs:Below w.heap.size w (wr.setCell ⟨w.heap.size,k,none⟩ (I .u8 (zs[k]?.getD 0))):=hb.setCell (Nat.le_refl _) _
     clear hst hc
     go_wp2
     go_roundw
     case rel=>exact⟨k+1,by omega,by go_num,HS.out.1,hbs⟩
     case measure=>simp[intOf];omega
   · have e:k=n:=by omega
     subst e
     rw[half_full zs k hl.out] at hown
     go_wp2
     go_ret
     exact⟨rfl,hown,hb⟩
end Go.Proofs.YthodinpflcbklaaDoor
namespace Go.Proofs.YthodinpflcbklaaDoor
open Go.RowKit
theorem eqByteS_same(a b:Option Addr)(n ca cb:Nat)(zs:List Int)(w:World)(hl:Hid (zs.length=n))(hra:Rd w a zs)(hrb:Rd w b zs)(hn:n≤16777216):
   Calls Tryd.prog 16 #[Sz a n ca,Sz b n cb] w fun e w'=>e=.returned (.bool true)∧∃ q,w'=w.drewN q:=by
 have hnn:((n:Int) != (n:Int))=false:=by simp
 go_enter Tryd.func16,Tryd.ntmps16
 go_wp2
 go_loopw [5] (fun i wr=>∃ k:Nat,k≤n∧i=I O k∧∃ q,wr=w.drewN q) (fun i _=>n - (intOf i).toNat)
 case atStart=>exact⟨0,Nat.zero_le _,rfl,0,rfl⟩
 case round =>
   obtain⟨k,hk,rfl,q,rfl⟩:=hrel
   by_cases hlt:k < n
   · have hne:zs≠[]:=by intro h;have:=hl.out;subst h;simp at this;omega
     obtain⟨b1,o1,rfl,hb1,hc1⟩:=hra.2.resolve_left hne
     obtain⟨b2,o2,rfl,hb2,hc2⟩:=hrb.2.resolve_left hne
     have g1:w.cell? ⟨b1,o1+k,none⟩=some (I .u8 (zs[k]?.getD 0)):=hc1 k (by have:=hl.out;omega)
     have g2:w.cell? ⟨b2,o2+k,none⟩=some (I .u8 (zs[k]?.getD 0)):=hc2 k (by have:=hl.out;omega)
     have hlt':(k:Int) < (n:Int):=by omega
     clear hc1 hc2 hne hra hrb
     go_wp2
     go_quiet (fail)
     go_wp2
     go_roundw
     case rel=>exact⟨k+1,by omega,by go_num,_,rfl⟩
     case measure=>simp[intOf];omega
   · go_wp2
     go_ret
     exact⟨rfl,q,rfl⟩
end Go.Proofs.YthodinpflcbklaaDoor
namespace Go.Proofs.YthodinpflcbklaaDoor
open Go.RowKit
theorem rd_of{w:World}{a:Option Addr}{len cap:Nat}{zs:List Int}
   (h:(a=none∧len=0∧cap=0∧zs=[]) ∨
     ∃ x,a=some x∧len≤cap∧cap≤maxLen∧zs.length=cap∧(∀ i,i < zs.length→w.cell? (x.add i)=some (I .u8 (zs.getD i 0)))∧∀ n ∈ zs,(Lit.int .u8 n).wf=true) :
   Rd w a (zs.take len)∧(zs.take len).length=len∧len≤maxLen:=by
 rcases h with ⟨rfl,rfl,rfl,rfl⟩ | ⟨x,rfl,hl,hm,hz,hc,hw⟩
 · exact⟨⟨fun i=>by simp,.inl rfl⟩,rfl,Nat.zero_le _⟩
 · refine⟨⟨fun i=>?_,?_⟩,by rw[List.length_take];omega,by omega⟩
   · by_cases h:i < len
     · have hi:i < zs.length:=by omega
       have:=hw zs[i] (List.getElem_mem hi)
       simp[Lit.wf,IntKind.min,IntKind.max,IntKind.signed,IntKind.bits] at this
       simp[h,hi]
       exact this
     · simp[List.getElem?_take,h]
   · by_cases h0:len=0
     · left;subst h0;rfl
     · right
       obtain⟨b,off,spot⟩:=x
       have h1:=hc 0 (by omega)
       have hspot:spot=none:=by simpa [Addr.add] using World.cell?_spot h1
       subst hspot
       refine⟨b,off,rfl,?_,?_⟩
       · exact World.block_lt_of_cell? w _ h1
       · intro i hi
         rw[List.length_take] at hi
         have h2:=hc i (by omega)
         have h3:i < len:=by omega
         have h4:i < zs.length:=by omega
         have e:(⟨b,off,none⟩:Addr).add i=⟨b,off+i,none⟩:=by cases i <;> simp[Addr.add]
         rw[e] at h2
         simpa [h3,h4] using h2
theorem rd_own{w:World}{base g n cap:Nat}{zs:List Int}(hl:zs.length=n)(hz:∀ i:Nat,0≤zs[i]?.getD 0∧zs[i]?.getD 0≤255)
   (h:w.ownsRow base 5 1 (Sz (some ⟨g,0,none⟩) n cap) n (zs.map (Value.int .u8))):Rd w (some ⟨g,0,none⟩) zs:=by
 refine⟨hz,.inr ⟨g,0,rfl,(h.lt g rfl).2,fun i hi=>?_⟩⟩
 rw[Nat.zero_add,h.cellAt i (by omega)]
 simp[hi]
end Go.Proofs.YthodinpflcbklaaDoor
namespace Go.Proofs.YthodinpflcbklaaDoor
open Go.RowKit
theorem below_grown{w w':World}(h:Below w.heap.size w w'):w.grownBy w' none:=⟨h.os,h.tape,h.output,h.size,fun k hk _=>h.block k hk⟩
theorem own_later{w w':World}{base:Nat}{e:TypeId}{size:Nat}{v:Value}{n:Nat}{xs:List Value}(h:w.ownsRow base e size v n xs)(hb:Below w.heap.size w w'):w'.ownsRow base e size v n xs:=by
 refine h.kept (below_grown hb) ?_
 cases v.ownBlock with
 | none=>exact .inl rfl
 | some x=>exact .inr (by simp)
theorem own_form{w:World}{base:Nat}{e:TypeId}{size:Nat}{v:Value}{n:Nat}{xs:List Value}(h:w.ownsRow base e size v n xs)(hn:0 < n):∃ g cap,v=Sz (some ⟨g,0,none⟩) n cap∧base≤g∧g < w.heap.size:=by
 rcases h.2 with ⟨_,h0⟩ | ⟨g,cap,cur,hv,hg,_⟩
 · omega
 · exact⟨g,cap,hv,hg,(h.lt g (by rw[hv];rfl)).2⟩
theorem eqByteS_true(a b:Option Addr)(n ca cb:Nat)(zs:List Int)(w:World)(hl:Hid (zs.length=n))(hra:Rd w a zs)(hrb:Rd w b zs)(hn:n≤16777216):
   Calls Tryd.prog 16 #[Sz a n ca,Sz b n cb] w fun e w'=>e=.returned (.bool true)∧Below w.heap.size w w':=by
 refine(eqByteS_same a b n ca cb zs w hl hra hrb hn).mono ?_
 rintro e w' ⟨rfl,q,rfl⟩
 exact⟨rfl,below_drewN (Below.refl _ _) q⟩
end Go.Proofs.YthodinpflcbklaaDoor
namespace Go.Proofs.YthodinpflcbklaaDoor
open Go.RowKit
open Go.ChangeShapes Go.WideShapes
def mkRow{α:Type}(f:α→Nat→α)(c:α→Nat):List α→Nat→List α
 | [],_=>[]
 | x::l,k=>f x k::mkRow f c l (k+c x)
theorem sum_le{α:Type}(f g:α→Nat)(l:List α)(h:∀ x ∈ l,f x≤g x):(l.map f).sum≤(l.map g).sum:=by
 induction l with
 | nil=>simp
 | cons a l ih =>
   have h1:=h a (by simp)
   have h2:=ih fun x hx=>h x (by simp[hx])
   simp;omega
theorem sum_mul{α:Type}(f:α→Nat)(c:Nat)(l:List α):(l.map fun x=>c*(f x+1)).sum=c*((l.map f).sum+l.length):=by
 induction l with
 | nil=>simp
 | cons a l ih =>
   have e:c*((f a+(l.map f).sum)+(l.length+1))=c*(f a+1)+c*((l.map f).sum+l.length):=by rw[← Nat.mul_add];congr 1;omega
   simp only[List.map_cons,List.sum_cons,List.length_cons]
   rw[ih,e]
theorem mem_flatten_get{l:List (List Nat)}{x:Nat}(h:x ∈ l.flatten):∃ (i:Nat) (f:List Nat),l[i]?=some f∧x ∈ f:=by
 obtain⟨f,hf,hx⟩:=List.mem_flatten.1 h
 obtain⟨i,hi,rfl⟩:=List.mem_iff_getElem.1 hf
 exact⟨i,l[i],List.getElem?_eq_getElem hi,hx⟩
theorem flatten_get{n:Nat}:∀ {l:List (List Value)} {i j:Nat} {c:List Value},(∀ (k:Nat) (d:List Value),l[k]?=some d→d.length=n)→l[i]?=some c→j < n→l.flatten[i*n+j]?=c[j]?
 | [],i,j,c,_,h,_=>by simp at h
 | d::l,0,j,c,hl,h,hj=>by
   simp at h;subst h
   have:=hl 0 d rfl
   rw[List.flatten_cons,List.getElem?_append_left (by omega)]
   simp
 | d::l,i+1,j,c,hl,h,hj=>by
   have hd:=hl 0 d rfl
   rw[List.flatten_cons,List.getElem?_append_right (by rw[hd,Nat.add_mul];omega),hd]
   have e:(i+1)*n+j - n=i*n+j:=by rw[Nat.add_mul];omega
   rw[e]
   exact flatten_get (fun k d hk=>hl (k+1) d (by simpa using hk)) (by simpa using h) hj
def isByte(z:Int):Prop:=0≤z∧z≤255
structure Sh where shape ::
 D:Type
 size:Nat
 sz:D→Nat
 Rd:World→List Value→D→Prop
 Ow:World→Nat→List Value→D→List Nat→Prop
 cnt:D→Nat
 mk:D→Nat→D
 cntV:D→Nat
 mkV:D→Nat→D
 wd:Nat
 rd_length:∀ {w:World} {cs:List Value} {d:D},Rd w cs d→cs.length=size
 rd_later:∀ {w w':World} {cs:List Value} {d:D},Rd w cs d→Below w.heap.size w w'→Rd w' cs d
 ow_length:∀ {w:World} {B:Nat} {cs:List Value} {d:D} {F:List Nat},Ow w B cs d F→cs.length=size
 ow_lt:∀ {w:World} {B:Nat} {cs:List Value} {d:D} {F:List Nat},Ow w B cs d F→∀ g ∈ F,B≤g∧g < w.heap.size
 ow_keep:∀ {w w':World} {B:Nat} {cs:List Value} {d:D} {F:List Nat},Ow w B cs d F→(∀ g ∈ F,w'.heap[g]?=w.heap[g]?)→Ow w' B cs d F
 ow_base:∀ {w:World} {B B':Nat} {cs:List Value} {d:D} {F:List Nat},Ow w B cs d F→B'≤B→Ow w B' cs d F
 ow_reads:∀ {w:World} {B:Nat} {cs:List Value} {d:D} {F:List Nat},Ow w B cs d F→Rd w cs d
 cnt_le:∀ d:D,cnt d≤wd*(sz d+1)
 cntV_le:∀ d:D,cntV d≤cnt d
def Sh.leaf(D:Type)(z:D→Nat)(R:List Value→D→Prop)(m:D→Nat→D)(hl:∀ cs d,R cs d→cs.length=1):Sh where
 D:=D
 size:=1
 sz:=z
 Rd:=fun _ cs d=>R cs d
 Ow:=fun _ _ cs d F=>R cs d∧F=[]
 cnt:=fun _=>1
 mk:=m
 cntV:=fun _=>0
 mkV:=fun d _=>d
 wd:=1
 rd_length:=fun h=>hl _ _ h
 rd_later:=fun h _=>h
 ow_length:=fun h=>hl _ _ h.1
 ow_lt:=fun h g hg=>by rw[h.2] at hg;cases hg
 ow_keep:=fun h _=>h
 ow_base:=fun h _=>h
 ow_reads:=fun h=>h.1
 cnt_le:=fun _=>by omega
 cntV_le:=fun _=>by omega
def Sh.int:Sh:=Sh.leaf Int (fun _=>0) (fun cs d=>cs=[Value.int .i64 d]) (fun _ k=>((k:Nat):Int)) (fun cs d h=>by rw[h];rfl)
def Sh.bool:Sh:=Sh.leaf Bool (fun _=>0) (fun cs d=>cs=[Value.bool d]) (fun _ k=>decide (k % 3=0)) (fun cs d h=>by rw[h];rfl)
def Sh.u8:Sh:=Sh.leaf Int (fun _=>0) (fun cs d=>cs=[Value.int .u8 d]∧isByte d) (fun _ k=>(((k % 256:Nat)):Int)) (fun cs d h=>by rw[h.1];rfl)
def Sh.none:Sh where
 D:=Unit
 size:=0
 sz:=fun _=>0
 Rd:=fun _ cs _=>cs=[]
 Ow:=fun _ _ cs _ F=>cs=[]∧F=[]
 cnt:=fun _=>0
 mk:=fun d _=>d
 cntV:=fun _=>0
 mkV:=fun d _=>d
 wd:=0
 rd_length:=fun h=>by rw[h];rfl
 rd_later:=fun h _=>h
 ow_length:=fun h=>by rw[h.1];rfl
 ow_lt:=fun h g hg=>by rw[h.2] at hg;cases hg
 ow_keep:=fun h _=>h
 ow_base:=fun h _=>h
 ow_reads:=fun h=>h.1
 cnt_le:=fun _=>by omega
 cntV_le:=fun _=>by omega
def Sh.pair(a b:Sh):Sh where
 D:=a.D × b.D
 size:=a.size+b.size
 sz:=fun d=>a.sz d.1+b.sz d.2
 Rd:=fun w cs d=>∃ c1 c2,cs=c1++c2∧a.Rd w c1 d.1∧b.Rd w c2 d.2
 Ow:=fun w B cs d F=>∃ c1 c2 F1 F2,cs=c1++c2∧F=F1++F2∧a.Ow w B c1 d.1 F1∧b.Ow w B c2 d.2 F2
 cnt:=fun d=>a.cnt d.1+b.cnt d.2
 mk:=fun d k=>(a.mk d.1 k,b.mk d.2 (k+a.cnt d.1))
 cntV:=fun d=>a.cntV d.1+b.cntV d.2
 mkV:=fun d k=>(a.mkV d.1 k,b.mkV d.2 (k+a.cntV d.1))
 wd:=a.wd+b.wd
 rd_length:=fun ⟨c1,c2,e,h1,h2⟩=>by rw[e,List.length_append,a.rd_length h1,b.rd_length h2]
 rd_later:=fun ⟨c1,c2,e,h1,h2⟩ hb=>⟨c1,c2,e,a.rd_later h1 hb,b.rd_later h2 hb⟩
 ow_length:=fun ⟨c1,c2,F1,F2,e,_,h1,h2⟩=>by rw[e,List.length_append,a.ow_length h1,b.ow_length h2]
 ow_lt:=fun ⟨c1,c2,F1,F2,_,e,h1,h2⟩ g hg=>by
   rw[e] at hg
   rcases List.mem_append.1 hg with h | h
   · exact a.ow_lt h1 g h
   · exact b.ow_lt h2 g h
 ow_keep:=fun ⟨c1,c2,F1,F2,e,eF,h1,h2⟩ hk=>⟨c1,c2,F1,F2,e,eF,a.ow_keep h1 fun g hg=>hk g (by rw[eF];exact List.mem_append_left _ hg),b.ow_keep h2 fun g hg=>hk g (by rw[eF];exact List.mem_append_right _ hg)⟩
 ow_base:=fun ⟨c1,c2,F1,F2,e,eF,h1,h2⟩ hk=>⟨c1,c2,F1,F2,e,eF,a.ow_base h1 hk,b.ow_base h2 hk⟩
 ow_reads:=fun ⟨c1,c2,F1,F2,e,_,h1,h2⟩=>⟨c1,c2,e,a.ow_reads h1,b.ow_reads h2⟩
 cnt_le:=fun d=>by
   have h1:=a.cnt_le d.1
   have h2:=b.cnt_le d.2
   have h3:a.wd*(a.sz d.1+1)≤a.wd*(a.sz d.1+b.sz d.2+1):=Nat.mul_le_mul_left _ (by omega)
   have h4:b.wd*(b.sz d.2+1)≤b.wd*(a.sz d.1+b.sz d.2+1):=Nat.mul_le_mul_left _ (by omega)
   rw[Nat.add_mul]
   omega
 cntV_le:=fun d=>by
   have h1:=a.cntV_le d.1
   have h2:=b.cntV_le d.2
   omega
def Sh.sl(e:Sh):Sh where
 D:=List e.D
 size:=1
 sz:=fun d=>List.length d+(List.map e.sz d).sum
 Rd:=fun w cs d=>∃ ad cap,cs=[Value.slice ad (List.length d) cap]∧List.length d≤cap∧cap≤maxLen ∧
     (List.length d=0∨∃ b off,ad=some ⟨b,off,Option.none⟩∧b < w.heap.size ∧
       ∀ (i:Nat) (x:e.D),d[i]?=some x→∃ c:List Value,c.length=e.size∧(∀ j,j < e.size→w.cell? ⟨b,off+(i*e.size+j),Option.none⟩=c[j]?)∧e.Rd w c x)
 Ow:=fun w B cs d F=>(cs=[Value.slice Option.none 0 0]∧List.length d=0∧F=[]) ∨
     ∃ (g cap:Nat) (t:TypeId) (cur:Array Value) (Cs:List (List Value)) (Fs:List (List Nat)),cs=[Value.slice (some ⟨g,0,Option.none⟩) (List.length d) cap]∧B≤g∧w.heap[g]?=some (.cells cur t (0,0)) ∧
       List.length d≤cap∧cap≤maxLen∧cur.size=cap*e.size∧cur.toList.take (List.length d*e.size)=Cs.flatten∧Cs.length=List.length d∧Fs.length=List.length d∧F=g::Fs.flatten ∧
       ∀ (i:Nat) (c:List Value) (x:e.D) (f:List Nat),Cs[i]?=some c→d[i]?=some x→Fs[i]?=some f→e.Ow w B c x f
 cnt:=fun d=>(List.map e.cnt d).sum
 mk:=fun d k=>mkRow e.mk e.cnt d k
 cntV:=fun d=>(List.map e.cnt d).sum
 mkV:=fun d k=>mkRow e.mk e.cnt d k
 wd:=e.wd
 rd_length:=fun ⟨ad,cap,h,_⟩=>by rw[h];rfl
 rd_later:=fun ⟨ad,cap,h,hl,hm,h0⟩ hb=>⟨ad,cap,h,hl,hm,h0.imp (fun h=>h) fun ⟨b,off,ha,hlt,hx⟩ =>
     ⟨b,off,ha,Nat.lt_of_lt_of_le hlt hb.size,fun i x hi=>by
       obtain⟨c,hc,hcell,hr⟩:=hx i x hi
       exact⟨c,hc,fun j hj=>(hb.cell (p:=⟨b,off+(i*e.size+j),Option.none⟩) hlt).trans (hcell j hj),e.rd_later hr hb⟩⟩⟩
 ow_length:=fun h=>by
   rcases h with ⟨h,_⟩ | ⟨g,cap,t,cur,Cs,Fs,h,_⟩
   · rw[h];rfl
   · rw[h];rfl
 ow_lt:=fun {w B cs d F} h x hx=>by
   rcases h with ⟨_,_,h⟩ | ⟨g,cap,t,cur,Cs,Fs,_,hB,hh,_,_,_,_,hC,hF,hFF,he⟩
   · rw[h] at hx;cases hx
   · rw[hFF] at hx
     rcases List.mem_cons.1 hx with rfl | h
     · refine⟨hB,?_⟩
       rcases Nat.lt_or_ge x w.heap.size with h | h
       · exact h
       · rw[Array.getElem?_eq_none h] at hh;cases hh
     · obtain⟨i,f,hi,hxf⟩:=mem_flatten_get h
       have hil:i < Fs.length:=by
         rcases Nat.lt_or_ge i Fs.length with h | h
         · exact h
         · rw[List.getElem?_eq_none h] at hi;cases hi
       have hd:i < List.length d:=by omega
       exact e.ow_lt (he i Cs[i] (List.get d ⟨i,hd⟩) f (List.getElem?_eq_getElem (by omega)) (List.getElem?_eq_getElem hd) hi) x hxf
 ow_keep:=fun h hk=>by
   rcases h with h | ⟨g,cap,t,cur,Cs,Fs,hcs,hB,hh,h1,h2,h3,h4,h5,h6,hFF,he⟩
   · exact .inl h
   · exact .inr ⟨g,cap,t,cur,Cs,Fs,hcs,hB,(hk g (by rw[hFF];exact List.mem_cons_self)).trans hh,h1,h2,h3,h4,h5,h6,hFF,fun i c x f hc hx hf =>
       e.ow_keep (he i c x f hc hx hf) fun y hy=>hk y (by rw[hFF];exact List.mem_cons_of_mem _ (List.mem_flatten.2 ⟨f,List.mem_of_getElem? hf,hy⟩))⟩
 ow_base:=fun h hk=>by
   rcases h with h | ⟨g,cap,t,cur,Cs,Fs,hcs,hB,hh,h1,h2,h3,h4,h5,h6,hFF,he⟩
   · exact .inl h
   · exact .inr ⟨g,cap,t,cur,Cs,Fs,hcs,Nat.le_trans hk hB,hh,h1,h2,h3,h4,h5,h6,hFF,fun i c x f hc hx hf=>e.ow_base (he i c x f hc hx hf) hk⟩
 ow_reads:=fun {w B cs d F} h=>by
   rcases h with ⟨h,h0,_⟩ | ⟨g,cap,t,cur,Cs,Fs,hcs,hB,hh,h1,h2,h3,h4,h5,h6,hFF,he⟩
   · exact⟨Option.none,0,by rw[h,h0],by omega,Nat.zero_le _,.inl h0⟩
   · refine⟨some ⟨g,0,Option.none⟩,cap,hcs,h1,h2,.inr ⟨g,0,rfl,?_,fun i x hx=>?_⟩⟩
     · rcases Nat.lt_or_ge g w.heap.size with h | h
       · exact h
       · rw[Array.getElem?_eq_none h] at hh;cases hh
     · have hi:i < List.length d:=by
         rcases Nat.lt_or_ge i (List.length d) with h | h
         · exact h
         · rw[List.getElem?_eq_none h] at hx;cases hx
       have hC:Cs[i]?=some Cs[i]:=List.getElem?_eq_getElem (by omega)
       have hF:Fs[i]?=some Fs[i]:=List.getElem?_eq_getElem (by omega)
       have ho:=he i _ x _ hC hx hF
       have hall:∀ (k:Nat) (c:List Value),Cs[k]?=some c→c.length=e.size:=by
         intro k c hk
         have hkl:k < Cs.length:=by
           rcases Nat.lt_or_ge k Cs.length with h | h
           · exact h
           · rw[List.getElem?_eq_none h] at hk;cases hk
         have hkd:k < List.length d:=by omega
         exact e.ow_length (he k c (List.get d ⟨k,hkd⟩) Fs[k] hk (List.getElem?_eq_getElem hkd) (List.getElem?_eq_getElem (by omega)))
       refine⟨Cs[i],e.ow_length ho,fun j hj=>?_,e.ow_reads ho⟩
       have hf:=flatten_get hall hC hj
       have hlt:i*e.size+j < List.length d*e.size:=by
         have:(i+1)*e.size≤List.length d*e.size:=Nat.mul_le_mul_right _ hi
         rw[Nat.add_mul] at this;omega
       rw[← h4,List.getElem?_take_of_lt hlt] at hf
       rw[← hf,Nat.zero_add]
       simp[World.cell?,hh]
 cnt_le:=fun d=>by
   have h1:=sum_le e.cnt (fun x=>e.wd*(e.sz x+1)) d fun x _=>e.cnt_le x
   have h3:=sum_mul e.sz e.wd (show List e.D from d)
   have h1:(List.map e.cnt d).sum≤e.wd*((List.map e.sz d).sum+List.length d):=Nat.le_trans h1 (Nat.le_of_eq h3)
   have h2:e.wd*((List.map e.sz d).sum+List.length d)≤e.wd*(List.length d+(List.map e.sz d).sum+1):=Nat.mul_le_mul_left _ (by omega)
   exact Nat.le_trans h1 h2
 cntV_le:=fun d=>Nat.le_refl _
theorem Sh.size_int:Sh.int.size=1:=rfl
theorem Sh.size_u8:Sh.u8.size=1:=rfl
def Sh.at(e:Sh)(d:List e.D)(i:Nat):Option e.D:=d[i]?
def Reads(s:Sh)(w:World)(cs:List Value)(d:s.D):Prop:=s.Rd w cs d
def Own(s:Sh)(w:World)(B:Nat)(cs:List Value)(d:s.D)(F:List Nat):Prop:=s.Ow w B cs d F
theorem Reads.length{s:Sh}{w:World}{cs:List Value}{d:s.D}(h:Reads s w cs d):cs.length=s.size:=s.rd_length h
theorem Reads.later{s:Sh}{w w':World}{cs:List Value}{d:s.D}(h:Reads s w cs d)(hb:Below w.heap.size w w'):Reads s w' cs d:=s.rd_later h hb
theorem Own.length{s:Sh}{w:World}{B:Nat}{cs:List Value}{d:s.D}{F:List Nat}(h:Own s w B cs d F):cs.length=s.size:=s.ow_length h
theorem Own.lt{s:Sh}{w:World}{B:Nat}{cs:List Value}{d:s.D}{F:List Nat}(h:Own s w B cs d F):∀ g ∈ F,B≤g∧g < w.heap.size:=s.ow_lt h
theorem Own.keep{s:Sh}{w w':World}{B:Nat}{cs:List Value}{d:s.D}{F:List Nat}(h:Own s w B cs d F)(hk:∀ g ∈ F,w'.heap[g]?=w.heap[g]?):Own s w' B cs d F:=s.ow_keep h hk
theorem Own.base{s:Sh}{w:World}{B B':Nat}{cs:List Value}{d:s.D}{F:List Nat}(h:Own s w B cs d F)(hk:B'≤B):Own s w B' cs d F:=s.ow_base h hk
theorem Own.reads{s:Sh}{w:World}{B:Nat}{cs:List Value}{d:s.D}{F:List Nat}(h:Own s w B cs d F):Reads s w cs d:=s.ow_reads h
theorem reads_bytes{w:World}{a:Option Addr}{n cap:Nat}{d:List Int}(h:Reads (.sl .u8) w [Value.slice a n cap] d):List.length d=n∧Rd w a d∧n≤cap∧cap≤maxLen:=by
 obtain⟨ad,cp,e,hl,hm,h0⟩:=h
 simp only[List.cons.injEq,Value.slice.injEq,and_true] at e
 obtain⟨rfl,hn,rfl⟩:=e
 have hbd:List.length d=0∨∃ b off,a=some ⟨b,off,Option.none⟩∧b < w.heap.size∧∀ (i:Nat) (x:Int),d[i]?=some x→w.cell? ⟨b,off+i,Option.none⟩=some (I .u8 x)∧0≤x∧x≤255:=by
   refine h0.imp id fun ⟨b,off,ha,hlt,hx⟩=>⟨b,off,ha,hlt,fun i x hi=>?_⟩
   obtain⟨c,hc,hcell,hr⟩:=hx i x hi
   have h1:=hcell 0 (by decide)
   obtain⟨rfl,hx0,hx1⟩:=hr
   simp only[Sh.size_u8,Nat.mul_one,Nat.add_zero] at h1
   exact⟨by simpa using h1,hx0,hx1⟩
 refine⟨hn.symm,⟨fun i=>?_,?_⟩,by omega,hm⟩
 · rcases hbd with h | ⟨b,off,ha,hlt,hx⟩
   · have:d=[]:=List.eq_nil_of_length_eq_zero h
     subst this;simp
   · by_cases hi:i < List.length d
     · have h1:=(hx i d[i] (List.getElem?_eq_getElem hi)).2
       simpa [hi] using h1
     · simp[hi]
 · rcases hbd with h | ⟨b,off,ha,hlt,hx⟩
   · exact .inl (List.eq_nil_of_length_eq_zero h)
   · exact .inr ⟨b,off,ha,hlt,fun i hi=>by rw[(hx i d[i] (List.getElem?_eq_getElem hi)).1];simp[hi]⟩
section
variable {H:Type} {enc:TypeId × Value→H} {P:Program} {w:World} {spare:Nat→Bool} {held:Bool}
def Opens(enc:TypeId × Value→H)(P:Program)(w:World)(spare:Nat→Bool)(held:Bool)(t:TypeId)(s:Sh):Prop:=
 P.cellsOf t=s.size∧∀ (fuel:Nat) (cs:List Value) (x:DataW H × List MemPlace),DataW.trod enc P w 0 spare held fuel t cs=some x→∃ d:s.D,Reads s w cs d
theorem opens_int{t:TypeId}(ht:P.underlying t=some (.int .i64))(hc:P.cellsOf t=1):Opens enc P w spare held t .int:=
 ⟨hc,fun fuel cs x h=>by obtain⟨n,e,_⟩:=DataW.trod_int ht h;exact⟨n,e⟩⟩
theorem opens_u8{t:TypeId}(ht:P.underlying t=some (.int .u8))(hc:P.cellsOf t=1):Opens enc P w spare held t .u8:=
 ⟨hc,fun fuel cs x h=>by
   obtain⟨n,e,_,hw⟩:=DataW.trod_int ht h
   simp[Lit.wf,IntKind.min,IntKind.max,IntKind.signed,IntKind.bits] at hw
   exact⟨n,e,hw.1,hw.2⟩⟩
theorem opens_bool{t:TypeId}(ht:P.underlying t=some .bool)(hc:P.cellsOf t=1):Opens enc P w spare held t .bool:=
 ⟨hc,fun fuel cs x h=>by obtain⟨n,e,_⟩:=DataW.trod_bool ht h;exact⟨n,e⟩⟩
theorem opens_sl{t e:TypeId}{s:Sh}(ht:P.underlying t=some (.slice e))(hc:P.cellsOf t=1)(h0:0 < s.size)(he:Opens enc P w spare held e s):Opens enc P w spare held t (.sl s):=by
 refine⟨hc,fun fuel cs x h=>?_⟩
 rcases Go.Deep.open_slice ht h with ⟨rfl,_⟩ | ⟨a,len,cap,m,n,D,Pl,rfl,_,hl,hm,hme,_,hx⟩
 · exact⟨([]:List s.D),Option.none,0,rfl,Nat.le_refl _,Nat.zero_le _,.inl rfl⟩
 · have hlm:len≤m:=by rw[hme];split <;> omega
   have each:∀ i,i < len→∃ (c:List Value) (d:s.D),w.cells? 0 (a.add (i*P.cellsOf e)) (P.cellsOf e)=some c∧Reads s w c d:=by
     intro i hi
     obtain⟨c,h1,h2⟩:=hx i (by omega)
     obtain⟨d,hd⟩:=he.2 _ _ _ h2
     exact⟨c,d,h1,hd⟩
   have pick:∀ k,k≤len→∃ d:List s.D,List.length d=k∧∀ (i:Nat) (x:s.D),d[i]?=some x→∃ c:List Value,w.cells? 0 (a.add (i*P.cellsOf e)) (P.cellsOf e)=some c∧Reads s w c x:=by
     intro k
     induction k with
     | zero=>exact fun _=>⟨[],rfl,fun i x h=>by simp at h⟩
     | succ k ih =>
       intro hk
       obtain⟨d,hdl,hd⟩:=ih (by omega)
       obtain⟨c,y,hc1,hy⟩:=each k (by omega)
       refine⟨d++[y],by simp[hdl],fun i x h=>?_⟩
       rw[List.getElem?_append] at h
       split at h
       · exact hd i x h
       · have hi:i=k:=by
           rcases Nat.lt_or_ge k i with h' | h'
           · rw[List.getElem?_eq_none (by simp;omega)] at h;cases h
           · omega
         subst hi
         have:i - d.length=0:=by omega
         rw[this] at h
         simp at h
         subst h
         exact⟨c,hc1,hy⟩
   obtain⟨d,hdl,hd⟩:=pick len (Nat.le_refl _)
   refine⟨d,some a,cap,by rw[hdl],by omega,hm,?_⟩
   by_cases hz:len=0
   · exact .inl (by omega)
   · right
     obtain⟨b,off,spot⟩:=a
     have hsz:P.cellsOf e=s.size:=he.1
     have h00:=each 0 (by omega)
     obtain⟨c0,d0,hc0,hr0⟩:=h00
     have hlt:b < w.heap.size:=by
       have:=World.cells?_block hc0 (by omega)
       simpa [Addr.add] using this
     have hspot:spot=Option.none:=by
       obtain⟨_,h1,h2⟩:=World.cells?_some hc0
       have h3:=h2 0 (by omega)
       rw[List.getElem?_eq_getElem (by omega)] at h3
       have:=World.cell?_spot h3
       simpa [Addr.add] using this
     subst hspot
     refine⟨b,off,rfl,hlt,fun i x hi=>?_⟩
     obtain⟨c,hc1,hr⟩:=hd i x hi
     refine⟨c,hr.length,fun j hj=>?_,hr⟩
     obtain⟨_,h1,h2⟩:=World.cells?_some hc1
     have h3:=h2 j (by omega)
     rw[hsz] at h3
     rw[← h3]
     congr 1
     cases hq:i*s.size <;> cases j <;> simp[Addr.add] <;> omega
def Sh.ofL:List Sh→Sh
 | []=>.none
 | s::l=>.pair s (Sh.ofL l)
theorem Sh.ofL_size:∀ l:List Sh,(Sh.ofL l).size=(l.map Sh.size).sum
 | []=>rfl
 | s::l=>by
   show s.size+(Sh.ofL l).size=_
   rw[Sh.ofL_size l]
   simp
theorem opens_fields{cs:List Value}{fs:Array Field}{n:Nat}{xs:List (DataW H × List MemPlace)}
   (hf:∀ (i:Nat) (f:Field),fs[i]?=some f→DataW.trod enc P w 0 spare held n f.type ((cs.drop f.offset).take (P.cellsOf f.type))=xs[i]?) (hx:xs.length=fs.size) :
   ∀ (l:List Sh) (k off:Nat),(∀ i s,l[i]?=some s→∃ f,fs[k+i]?=some f∧Opens enc P w spare held f.type s∧f.offset=off+((l.take i).map Sh.size).sum) →
     cs.length=off+(l.map Sh.size).sum→∃ d:(Sh.ofL l).D,Reads (Sh.ofL l) w (cs.drop off) d
 | [],k,off,_,hlen=>⟨(),List.drop_eq_nil_of_le (by simp at hlen;omega)⟩
 | s::l,k,off,hl,hlen=>by
   obtain⟨f,hfk,ho,hoff⟩:=hl 0 s rfl
   simp only[Nat.add_zero] at hfk
   simp at hoff
   have hk:k < fs.size:=by
     rcases Nat.lt_or_ge k fs.size with h | h
     · exact h
     · rw[Array.getElem?_eq_none h] at hfk;cases hfk
   have h1:=hf k f hfk
   rw[List.getElem?_eq_getElem (by omega)] at h1
   obtain⟨d1,hd1⟩:=ho.2 _ _ _ h1
   obtain⟨d2,hd2⟩:=opens_fields hf hx l (k+1) (off+s.size) (fun i s' hi=>by
     obtain⟨f',h2,h3,h4⟩:=hl (i+1) s' (by simpa using hi)
     refine⟨f',by rw[← h2];congr 1;omega,h3,?_⟩
     rw[h4]
     simp
     omega) (by simp at hlen;omega)
   refine⟨(d1,d2),_,_,?_,hd1,hd2⟩
   rw[hoff,ho.1]
   have e:cs.drop (off+s.size)=(cs.drop off).drop s.size:=by rw[List.drop_drop]
   rw[e,List.take_append_drop]
theorem opens_struct{t:TypeId}{fs:Array Field}(l:List Sh)(ht:P.underlying t=some (.struct fs))(hc:P.cellsOf t=(Sh.ofL l).size)
   (hl:∀ i s,l[i]?=some s→∃ f,fs[i]?=some f∧Opens enc P w spare held f.type s∧f.offset=((l.take i).map Sh.size).sum):Opens enc P w spare held t (Sh.ofL l):=by
 refine⟨hc,fun fuel cs x h=>?_⟩
 obtain⟨xs,n,_,_,hlen,hx,hf⟩:=DataW.trod_struct ht h
 have:=opens_fields hf hx l 0 0 (fun i s hi=>by
   obtain⟨f,h1,h2,h3⟩:=hl i s hi
   exact⟨f,by simpa using h1,h2,by simpa using h3⟩) (by rw[hlen,hc,Sh.ofL_size];omega)
 simpa using this
end
end Go.Proofs.YthodinpflcbklaaDoor
namespace Go.Proofs.YthodinpflcbklaaDoor
open Go.RowKit
theorem Own.later{s:Sh}{w w':World}{B:Nat}{cs:List Value}{d:s.D}{F:List Nat}(h:Own s w B cs d F)(hb:Below w.heap.size w w'):Own s w' B cs d F:=
 h.keep fun g hg=>hb.block g (h.lt g hg).2
theorem alloc3_heap(w:World)(o0 o1 o2:Obj):(((w.alloc o0).alloc o1).alloc o2).heap[w.heap.size]?=some o0∧(((w.alloc o0).alloc o1).alloc o2).heap[w.heap.size+1]?=some o1 ∧
   (((w.alloc o0).alloc o1).alloc o2).heap[w.heap.size+1+1]?=some o2∧(((w.alloc o0).alloc o1).alloc o2).heap.size=w.heap.size+1+1+1:=by
 have e1:(w.alloc o0).heap.size=w.heap.size+1:=by simp
 have e2:((w.alloc o0).alloc o1).heap.size=w.heap.size+1+1:=by simp
 refine⟨?_,?_,?_,by simp⟩
 · rw[heap_alloc_old _ _ (by rw[e2];omega),heap_alloc_old _ _ (by rw[e1];omega)];exact heap_alloc_new w o0
 · rw[heap_alloc_old _ _ (by rw[e2];omega),← e1];exact heap_alloc_new (w.alloc o0) o1
 · rw[← e2];exact heap_alloc_new ((w.alloc o0).alloc o1) o2
theorem bxc{w:World}{b j:Nat}{cs:Array Value}{t:TypeId}{v:Value}(h:w.heap[b]?=some (.cells cs t (0,0)))(hv:cs[j]?=some v):w.cell? ⟨b,j,none⟩=some v:=by
 simp[World.cell?,h,hv]
theorem box_frozen{w:World}{b j:Nat}{cs:Array Value}{t:TypeId}(h:w.heap[b]?=some (.cells cs t (0,0))):w.frozen? ⟨b,j,none⟩=false:=by
 simp[World.frozen?,h]
theorem box_set{w:World}{b j:Nat}{cs:Array Value}{t:TypeId}(v:Value)(h:w.heap[b]?=some (.cells cs t (0,0))):(w.setCell ⟨b,j,none⟩ v).heap[b]?=some (.cells (cs.setIfInBounds j v) t (0,0)):=by
 simp[World.setCell,Array.getElem?_modify,h]
theorem box_other{w:World}{b j:Nat}(v:Value){k:Nat}(hk:k≠b):(w.setCell ⟨b,j,none⟩ v).heap[k]?=w.heap[k]?:=heap_setCell_other w ⟨b,j,none⟩ k v (fun e=>hk e)
end Go.Proofs.YthodinpflcbklaaDoor
namespace Go.Proofs.YthodinpflcbklaaDoor
open Go.RowKit
def szAns(c:Nat)(left:Int):Int:=if (c:Int)≤left then left - c else -1
theorem szAns_yes{c:Nat}{left:Int}(h:(c:Int)≤left):szAns c left=left - c:=if_pos h
theorem szAns_no{c:Nat}{left:Int}(h:¬ (c:Int)≤left):szAns c left=-1:=if_neg h
theorem sum_zero{α:Type}(l:List α):(l.map fun _=>0).sum=0:=by
 induction l with
 | nil=>rfl
 | cons a l ih=>simp[ih]
theorem reads_elem{e:Sh}{w:World}{ad:Option Addr}{n cap:Nat}{d:List e.D}(h:Reads (.sl e) w [Sz ad n cap] d)(k:Nat)(hk:k < n):
   ∃ b off c x,ad=some ⟨b,off,none⟩∧b < w.heap.size∧e.at d k=some x∧Reads e w c x∧∀ j,j < e.size→w.cell? ⟨b,off+(k*e.size+j),none⟩=c[j]?:=by
 obtain⟨a,cp,e1,hl,hm,h0⟩:=h
 simp only[List.cons.injEq,Value.slice.injEq,and_true] at e1
 obtain⟨rfl,hn,rfl⟩:=e1
 rcases h0 with h0 | ⟨b,off,rfl,hlt,hx⟩
 · omega
 · have hk':k < d.length:=by omega
   have hx1:e.at d k=some d[k]:=List.getElem?_eq_getElem hk'
   obtain⟨c,hc,hcell,hr⟩:=hx k _ hx1
   exact⟨b,off,c,d[k],rfl,hlt,hx1,hr,hcell⟩
theorem reads_len{e:Sh}{w:World}{ad:Option Addr}{n cap:Nat}{d:List e.D}(h:Reads (.sl e) w [Sz ad n cap] d):d.length=n∧n≤cap∧cap≤maxLen:=by
 obtain⟨a,cp,e1,hl,hm,h0⟩:=h
 simp only[List.cons.injEq,Value.slice.injEq,and_true] at e1
 obtain⟨rfl,hn,rfl⟩:=e1
 exact⟨hn.symm,by omega,hm⟩
theorem szByteS_any(a:Option Addr)(n cap:Nat)(d:List Int)(left:Int)(w:World)(hr:Reads (.sl .u8) w [Sz a n cap] d)(h0:0≤left)(h1:left≤1048576):
   Calls Tryd.prog 25 #[Sz a n cap,I O left] w fun e w'=>e=.returned (I O (szAns (Sh.sz (.sl .u8) d) left))∧Below w.heap.size w w':=by
 obtain⟨hl,_,hc1,hc2⟩:=reads_bytes hr
 have hs:Sh.sz (.sl .u8) d=n:=by show List.length d+(List.map (fun _=>0) d).sum=n;rw[sum_zero,hl];rfl
 rw[hs]
 unfold maxLen at hc2
 clear hr hs
 by_cases h:(n:Int)≤left
 · rw[szAns_yes h]
   have h2:¬ (left - (n:Int) < 0):=by omega
   go_enter Tryd.func25,Tryd.ntmps25
   go_wp2
   go_ret
   exact⟨rfl,Below.refl _ _⟩
 · rw[szAns_no h]
   have h2:(left - (n:Int) < 0):=by omega
   go_enter Tryd.func25,Tryd.ntmps25
   go_wp2
   go_ret
   exact⟨rfl,Below.refl _ _⟩
theorem flatten_single{α β:Type}(f:α→β)(l:List α):(l.map fun x=>[f x]).flatten=l.map f:=by
 induction l with
 | nil=>rfl
 | cons a l ih=>simp[ih]
theorem own_bytes{w:World}{B g n cap:Nat}{d:List Int}(hl:d.length=n)(hb:∀ i:Nat,0≤d[i]?.getD 0∧d[i]?.getD 0≤255)(h:w.ownsRow B 5 1 (Sz (some ⟨g,0,none⟩) n cap) n (d.map (Value.int .u8))):
   Own (.sl .u8) w B [Sz (some ⟨g,0,none⟩) n cap] d [g]:=by
 rcases h.2 with ⟨h1,_⟩ | ⟨g',cap',cur,hv,hg,hh,h1,h2,h3,h4⟩
 · simp at h1
 · simp only[Value.slice.injEq,Option.some.injEq,Addr.mk.injEq,and_true,true_and] at hv
   obtain⟨rfl,rfl⟩:=hv
   refine .inr ⟨g,cap,5,cur,d.map (fun x=>[Value.int .u8 x]),d.map (fun _=>[]),?_,hg,hh,?_,h2,h3,?_,?_,?_,?_,?_⟩
   · show _=[Value.slice _ d.length cap];rw[hl]
   · show d.length≤cap;omega
   · show cur.toList.take (d.length*1)=_
     rw[hl,h4]
     exact(flatten_single (Value.int .u8) d).symm
   · show (d.map _).length=d.length;simp
   · show (d.map _).length=d.length;simp
   · have:∀ l:List Int,(l.map fun _=>([]:List Nat)).flatten=[]:=by
       intro l;induction l with
       | nil=>rfl
       | cons a l ih=>simp[ih]
     rw[this]
   · intro i c x f hc hx hf
     have hx':d[i]?=some x:=hx
     rw[List.getElem?_map,hx'] at hc hf
     obtain rfl:[Value.int .u8 x]=c:=Option.some.inj hc
     obtain rfl:[]=f:=Option.some.inj hf
     have:=hb i
     rw[hx'] at this
     exact⟨⟨rfl,this⟩,rfl⟩
theorem toByteS_own(a:Option Addr)(n cap:Nat)(d:List Int)(w:World)(hr:Reads (.sl .u8) w [Sz a n cap] d)(hn:Sh.sz (.sl .u8) d≤1048576):
   Calls Tryd.prog 14 #[Sz a n cap] w fun e w'=>∃ (g:Nat) (F:List Nat),e=.returned (Sz (some ⟨g,0,none⟩) n n)∧Own (.sl .u8) w' w.heap.size [Sz (some ⟨g,0,none⟩) n n] d F∧F.Nodup∧Below w.heap.size w w':=by
 obtain⟨hl,hrd,hc1,hc2⟩:=reads_bytes hr
 have hs:Sh.sz (.sl .u8) d=n:=by show List.length d+(List.map (fun _=>0) d).sum=n;rw[sum_zero,hl];rfl
 refine(toByteS_any a n cap d w hl hrd (by omega)).mono ?_
 rintro e w' ⟨rfl,ho,hb⟩
 exact⟨_,_,rfl,own_bytes hl hrd.1 ho,by simp,hb⟩
theorem eqByteS_reads(a b:Option Addr)(n ca cb:Nat)(d:List Int)(w:World)(hr1:Reads (.sl .u8) w [Sz a n ca] d)(hr2:Reads (.sl .u8) w [Sz b n cb] d)(hn:Sh.sz (.sl .u8) d≤1048576):
   Calls Tryd.prog 16 #[Sz a n ca,Sz b n cb] w fun e w'=>e=.returned (.bool true)∧Below w.heap.size w w':=by
 obtain⟨hl,hrd1,hc1,hc2⟩:=reads_bytes hr1
 obtain⟨_,hrd2,_,_⟩:=reads_bytes hr2
 have hs:Sh.sz (.sl .u8) d=n:=by show List.length d+(List.map (fun _=>0) d).sum=n;rw[sum_zero,hl];rfl
 exact eqByteS_true a b n ca cb d w hl hrd1 hrd2 (by omega)
structure Fill (e:Sh) (t:TypeId) (w:World) (B g n k:Nat) (d:List e.D):Prop where
 len:d.length=n
 le:k≤n
 row:∃ (Cs:List (List Value)) (Fs:List (List Nat)) (zs:List Value),Cs.length=k∧Fs.length=k∧zs.length=(n - k)*e.size∧w.heap[g]?=some (.cells (Cs.flatten++zs).toArray t (0,0))∧(g::Fs.flatten).Nodup∧(∀ x ∈ Fs.flatten,B≤x) ∧
   (∀ (i:Nat) (c:List Value) (x:e.D) (f:List Nat),Cs[i]?=some c→e.at d i=some x→Fs[i]?=some f→Own e w B c x f)
 bg:B≤g
 small:n≤maxLen
def setRow(l:List Value)(p:Nat):List Value→List Value
 | []=>l
 | v::vs=>setRow (l.set p v) (p+1) vs
theorem setRow_at:∀ (c A Z:List Value),c.length≤Z.length→setRow (A++Z) A.length c=A++(c++Z.drop c.length)
 | [],A,Z,_=>by simp[setRow]
 | v::vs,A,[],h=>by simp at h
 | v::vs,A,z::Z,h=>by
   have e:(A++z::Z).set A.length v=(A++[v])++Z:=by simp
   have:=setRow_at vs (A++[v]) Z (by simpa using h)
   simp only[setRow]
   rw[e,show A.length+1=(A++[v]).length by simp,this]
   simp
theorem Fill.zero{e:Sh}{t:TypeId}{w:World}{B g n:Nat}{d:List e.D}{cur:Array Value}(hl:d.length=n)(hm:n≤maxLen)(hB:B≤g)(hh:w.heap[g]?=some (.cells cur t (0,0)))(hc:cur.size=n*e.size):Fill e t w B g n 0 d:=
 ⟨hl,Nat.zero_le _,⟨[],[],cur.toList,rfl,rfl,by simp[hc],by simpa using hh,by simp,fun x hx=>by simp at hx,fun i c x f hc=>by simp at hc⟩,hB,hm⟩
theorem Fill.later{e:Sh}{t:TypeId}{w w':World}{B g n k:Nat}{d:List e.D}(h:Fill e t w B g n k d)(hb:Below w.heap.size w w'):Fill e t w' B g n k d:=by
 obtain⟨Cs,Fs,zs,hC,hF,hz,hh,hnd,hBF,ho⟩:=h.row
 refine⟨h.len,h.le,⟨Cs,Fs,zs,hC,hF,hz,?_,hnd,hBF,fun i c x f hc hx hf=>(ho i c x f hc hx hf).later hb⟩,h.bg,h.small⟩
 have hg:g < w.heap.size:=by
   rcases Nat.lt_or_ge g w.heap.size with h' | h'
   · exact h'
   · rw[Array.getElem?_eq_none h'] at hh;cases hh
 rw[hb.block g hg];exact hh
theorem Fill.flat{e:Sh}{t:TypeId}{w:World}{B g n k:Nat}{d:List e.D}(h:Fill e t w B g n k d):∃ l:List Value,l.length=n*e.size∧w.heap[g]?=some (.cells l.toArray t (0,0)):=by
 obtain⟨Cs,Fs,zs,hC,hFs,hz,hh,hnd,hBF,hown⟩:=h.row
 refine⟨_,?_,hh⟩
 have hall:∀ c ∈ Cs,c.length=e.size:=by
   intro c hc
   obtain⟨i,hi,rfl⟩:=List.mem_iff_getElem.1 hc
   have hid:i < d.length:=by have:=h.len;have:=h.le;omega
   exact(hown i Cs[i] d[i] Fs[i] (List.getElem?_eq_getElem hi) (List.getElem?_eq_getElem hid) (List.getElem?_eq_getElem (by omega))).length
 have hfl:Cs.flatten.length=k*e.size:=by
   rw[List.length_flatten]
   have:Cs.map List.length=Cs.map fun _=>e.size:=List.map_congr_left hall
   rw[this]
   simp[List.map_const',hC]
 have hk:=h.le
 rw[List.length_append,hfl,hz,← Nat.add_mul]
 congr 1;omega
theorem Fill.cell{e:Sh}{t:TypeId}{w:World}{B g n k:Nat}{d:List e.D}(h:Fill e t w B g n k d)(j:Nat)(hj:j < n*e.size):(∃ u,w.cell? ⟨g,j,none⟩=some u)∧w.frozen? ⟨g,j,none⟩=false:=by
 obtain⟨l,hl,hh⟩:=h.flat
 exact⟨⟨l[j],bxc hh (by simp)⟩,box_frozen hh⟩
theorem Fill.lt{e:Sh}{t:TypeId}{w:World}{B g n k:Nat}{d:List e.D}(h:Fill e t w B g n k d):g < w.heap.size:=by
 obtain⟨l,_,hh⟩:=h.flat
 rcases Nat.lt_or_ge g w.heap.size with h' | h'
 · exact h'
 · rw[Array.getElem?_eq_none h'] at hh;cases hh
end Go.Proofs.YthodinpflcbklaaDoor
namespace Go.Proofs.YthodinpflcbklaaDoor
open Go.RowKit
structure Touch (w w':World) (F:List Nat):Prop where
 os:w'.os=w.os
 tape:w'.tape=w.tape
 output:w'.output=w.output
 size:w.heap.size≤w'.heap.size
 block:∀ i,i < w.heap.size→i ∉ F→w'.heap[i]?=w.heap[i]?
theorem Touch.refl(w:World)(F:List Nat):Touch w w F:=⟨rfl,rfl,rfl,Nat.le_refl _,fun _ _ _=>rfl⟩
theorem Touch.trans{a b c:World}{F:List Nat}(h:Touch a b F)(k:Touch b c F):Touch a c F:=
 ⟨k.os.trans h.os,k.tape.trans h.tape,k.output.trans h.output,Nat.le_trans h.size k.size,fun i hi hf=>(k.block i (Nat.lt_of_lt_of_le hi h.size) hf).trans (h.block i hi hf)⟩
theorem Touch.mono{a b:World}{F G:List Nat}(h:Touch a b F)(hs:∀ x ∈ F,x ∈ G):Touch a b G:=
 ⟨h.os,h.tape,h.output,h.size,fun i hi hf=>h.block i hi fun hm=>hf (hs i hm)⟩
theorem Touch.of_below{w w':World}(h:Below w.heap.size w w')(F:List Nat):Touch w w' F:=⟨h.os,h.tape,h.output,h.size,fun i hi _=>h.block i hi⟩
theorem Touch.set(w:World)(g j:Nat)(v:Value){F:List Nat}(hg:g ∈ F):Touch w (w.setCell ⟨g,j,none⟩ v) F:=
 ⟨rfl,rfl,rfl,by simp,fun i _ hf=>box_other v fun e=>hf (e ▸ hg)⟩
theorem Touch.below{B:Nat}{a w w':World}{F:List Nat}(h:Touch w w' F)(hb:Below B a w)(hB:B≤w.heap.size)(hF:∀ g ∈ F,B≤g):Below B a w':=
 ⟨h.os.trans hb.os,h.tape.trans hb.tape,h.output.trans hb.output,Nat.le_trans hb.size h.size,fun i hi=>(h.block i (by omega) fun hm=>by have:=hF i hm;omega).trans (hb.block i hi)⟩
theorem Touch.own{s:Sh}{w w':World}{B:Nat}{cs:List Value}{d:s.D}{F G:List Nat}(h:Touch w w' F)(ho:Own s w B cs d G)(hd:∀ g ∈ G,g ∉ F):Own s w' B cs d G:=
 ho.keep fun g hg=>h.block g (ho.lt g hg).2 (hd g hg)
theorem disj_flatten:∀ {L:List (List Nat)} {i k:Nat} {a b:List Nat},L.flatten.Nodup→L[i]?=some a→L[k]?=some b→i≠k→∀ x ∈ a,x ∉ b
 | [],i,k,a,b,_,h,_,_=>by simp at h
 | l::L,0,0,a,b,_,_,_,hne=>absurd rfl hne
 | l::L,0,k+1,a,b,hn,ha,hb,_=>by
   intro x hx hxb
   simp at ha;subst ha
   rw[List.flatten_cons,List.nodup_append] at hn
   exact hn.2.2 x hx x (List.mem_flatten.2 ⟨b,List.mem_of_getElem? (by simpa using hb),hxb⟩) rfl
 | l::L,i+1,0,a,b,hn,ha,hb,_=>by
   intro x hx hxb
   simp at hb;subst hb
   rw[List.flatten_cons,List.nodup_append] at hn
   exact hn.2.2 x hxb x (List.mem_flatten.2 ⟨a,List.mem_of_getElem? (by simpa using ha),hx⟩) rfl
 | l::L,i+1,k+1,a,b,hn,ha,hb,hne=>by
   rw[List.flatten_cons,List.nodup_append] at hn
   exact disj_flatten hn.2.1 (by simpa using ha) (by simpa using hb) (by omega)
theorem nodup_of_flatten:∀ {L:List (List Nat)} {i:Nat} {a:List Nat},L.flatten.Nodup→L[i]?=some a→a.Nodup
 | [],i,a,_,h=>by simp at h
 | l::L,0,a,hn,h=>by
   simp at h;subst h
   rw[List.flatten_cons,List.nodup_append] at hn
   exact hn.1
 | l::L,i+1,a,hn,h=>by
   rw[List.flatten_cons,List.nodup_append] at hn
   exact nodup_of_flatten hn.2.1 (by simpa using h)
theorem take_mid(A c Z:List Value)(m:Nat)(h:A.length+c.length≤m):(A++(c++Z)).take m=A++(c++Z.take (m - (A.length+c.length))):=by
 rw[← List.append_assoc,List.take_append,List.take_of_length_le (by simp;omega),List.length_append,List.append_assoc]
theorem flatten_take{n:Nat}:∀ {l:List (List Value)} (i:Nat),(∀ d ∈ l,d.length=n)→l.flatten.take (i*n)=(l.take i).flatten
 | [],i,_=>by simp
 | d::l,0,_=>by simp
 | d::l,i+1,h=>by
   have hd:=h d (by simp)
   rw[List.flatten_cons,List.take_succ_cons,List.flatten_cons,Nat.add_mul,Nat.one_mul,Nat.add_comm,← hd,List.take_length_add_append,hd,flatten_take i (fun x hx=>h x (by simp[hx]))]
theorem flatten_drop{n:Nat}:∀ {l:List (List Value)} (i:Nat),(∀ d ∈ l,d.length=n)→l.flatten.drop (i*n)=(l.drop i).flatten
 | [],i,_=>by simp
 | d::l,0,_=>by simp
 | d::l,i+1,h=>by
   have hd:=h d (by simp)
   rw[List.flatten_cons,List.drop_succ_cons,Nat.add_mul,Nat.one_mul,Nat.add_comm,← hd,List.drop_length_add_append,hd,flatten_drop i (fun x hx=>h x (by simp[hx]))]
theorem setRow_eq(l c:List Value)(p:Nat)(h:p+c.length≤l.length):setRow l p c=l.take p++(c++l.drop (p+c.length)):=by
 have e:l=l.take p++l.drop p:=(List.take_append_drop p l).symm
 have hl:(l.take p).length=p:=by rw[List.length_take];omega
 have:=setRow_at c (l.take p) (l.drop p) (by rw[List.length_drop];omega)
 rw[hl,← e] at this
 rw[this,List.drop_drop]
theorem set_flatten{l:List (List Value)}{i:Nat}{c:List Value}(hi:i < l.length):(l.set i c).flatten=(l.take i).flatten++(c++(l.drop (i+1)).flatten):=by
 rw[List.set_eq_take_append_cons_drop,if_pos hi,List.flatten_append,List.flatten_cons]
theorem own_elem{e:Sh}{w:World}{B g n cap:Nat}{d:List e.D}{F:List Nat}(h:Own (.sl e) w B [Sz (some ⟨g,0,none⟩) n cap] d F)(hnd:F.Nodup)(i:Nat)(hi:i < n):
   ∃ (t:TypeId) (cur:Array Value) (c:List Value) (x:e.D) (f:List Nat),w.heap[g]?=some (.cells cur t (0,0))∧e.at d i=some x∧Own e w B c x f∧f.Nodup∧g ∉ f∧(∀ y ∈ f,y ∈ F)∧g ∈ F∧B≤g ∧
     (∀ j,j < e.size→cur[i*e.size+j]?=c[j]?) ∧
     ∀ (w2:World) (c':List Value) (x':e.D),Own e w2 B c' x' f→w2.heap[g]?=some (.cells (setRow cur.toList (i*e.size) c').toArray t (0,0))→(∀ y ∈ F,y≠g→y ∉ f→w2.heap[y]?=w.heap[y]?) →
       Own (.sl e) w2 B [Sz (some ⟨g,0,none⟩) n cap] (List.set d i x') F:=by
 rcases h with ⟨h1,_⟩ | ⟨g',cap',t,cur,Cs,Fs,hcs,hB,hh,h1,h2,h3,h4,h5,h6,hFF,he⟩
 · simp at h1
 · simp only[List.cons.injEq,Value.slice.injEq,Option.some.injEq,Addr.mk.injEq,and_true] at hcs
   obtain⟨rfl,hn,rfl⟩:=hcs
   have h1:d.length≤cap:=h1
   have h4:cur.toList.take (d.length*e.size)=Cs.flatten:=h4
   have h5:Cs.length=d.length:=h5
   have h6:Fs.length=d.length:=h6
   have hid:i < d.length:=by omega
   have hCi:Cs[i]?=some Cs[i]:=List.getElem?_eq_getElem (by omega)
   have hFi:Fs[i]?=some Fs[i]:=List.getElem?_eq_getElem (by omega)
   have hxi:e.at d i=some d[i]:=List.getElem?_eq_getElem hid
   have ho:=he i _ _ _ hCi hxi hFi
   have hall:∀ c ∈ Cs,c.length=e.size:=by
     intro c hc
     obtain⟨k,hk,rfl⟩:=List.mem_iff_getElem.1 hc
     have hkd:k < d.length:=by omega
     exact e.ow_length (he k Cs[k] d[k] Fs[k] (List.getElem?_eq_getElem hk) (List.getElem?_eq_getElem hkd) (List.getElem?_eq_getElem (by omega)))
   rw[hFF] at hnd
   have hnd2:=(List.nodup_cons.1 hnd)
   have hfl:Cs.flatten.length=d.length*e.size:=by
     rw[List.length_flatten]
     have:Cs.map List.length=Cs.map fun _=>e.size:=List.map_congr_left hall
     rw[this]
     simp[List.map_const',h5]
   have hmul:(i+1)*e.size≤d.length*e.size:=Nat.mul_le_mul_right _ hid
   rw[Nat.add_mul,Nat.one_mul] at hmul
   have hcap:d.length*e.size≤cap*e.size:=Nat.mul_le_mul_right _ h1
   refine⟨t,cur,Cs[i],d[i],Fs[i],hh,hxi,ho,nodup_of_flatten hnd2.2 hFi,fun hm=>hnd2.1 (List.mem_flatten.2 ⟨_,List.mem_of_getElem? hFi,hm⟩),fun y hy=>?_,?_,hB,fun j hj=>?_,?_⟩
   · rw[hFF];exact List.mem_cons_of_mem _ (List.mem_flatten.2 ⟨_,List.mem_of_getElem? hFi,hy⟩)
   · rw[hFF];exact List.mem_cons_self
   · have:=flatten_get (l:=Cs) (n:=e.size) (i:=i) (j:=j) (c:=Cs[i]) (fun k d hk=>hall d (List.mem_of_getElem? hk)) hCi hj
     rw[← h4,List.getElem?_take_of_lt (by omega)] at this
     rw[← this];simp
   · intro w2 c' x' ho' hg' hoth
     have hcl:=ho'.length
     have hlen:cur.toList.length=cap*e.size:=by simpa using h3
     have hsr:setRow cur.toList (i*e.size) c'=cur.toList.take (i*e.size)++(c'++cur.toList.drop (i*e.size+e.size)):=by
       rw[setRow_eq _ _ _ (by rw[hlen,hcl];omega),hcl]
     refine .inr ⟨g,cap,t,_,Cs.set i c',Fs,?_,hB,hg',?_,h2,?_,?_,?_,?_,hFF,?_⟩
     · show _=[Value.slice _ (List.length (List.set d i x')) cap]
       rw[List.length_set,hn]
     · show List.length (List.set d i x')≤cap
       rw[List.length_set];exact h1
     · rw[hsr]
       simp only[List.size_toArray,List.length_append,List.length_take,List.length_drop,hlen,hcl]
       omega
     · show (setRow cur.toList (i*e.size) c').toArray.toList.take (List.length (List.set d i x')*e.size)=_
       rw[List.length_set,set_flatten (by omega)]
       show (setRow cur.toList (i*e.size) c').take (d.length*e.size)=_
       have e1:(cur.toList.take (i*e.size)).length=i*e.size:=by rw[List.length_take,hlen];omega
       rw[hsr,take_mid _ _ _ _ (by rw[e1,hcl];omega),e1,hcl,← flatten_take i hall,← flatten_drop (i+1) hall,← h4,List.take_take,List.drop_take,Nat.min_eq_left (by omega),Nat.add_mul,Nat.one_mul]
     · show (Cs.set i c').length=List.length (List.set d i x');simp[h5]
     · show Fs.length=List.length (List.set d i x');simp[h6]
     · intro k c2 x2 f2 hc2 hx2 hf2
       have hx2:(List.set d i x')[k]?=some x2:=hx2
       rw[List.getElem?_set] at hc2 hx2
       by_cases hik:i=k
       · subst hik
         rw[if_pos rfl,if_pos (by omega)] at hc2 hx2
         obtain rfl:=Option.some.inj hc2
         obtain rfl:=Option.some.inj hx2
         obtain rfl:Fs[i]=f2:=Option.some.inj (hFi.symm.trans hf2)
         exact ho'
       · rw[if_neg hik] at hc2 hx2
         refine e.ow_keep (he k c2 x2 f2 hc2 hx2 hf2) fun y hy=>hoth y ?_ ?_ ?_
         · rw[hFF];exact List.mem_cons_of_mem _ (List.mem_flatten.2 ⟨f2,List.mem_of_getElem? hf2,hy⟩)
         · intro e;exact hnd2.1 (e ▸ List.mem_flatten.2 ⟨f2,List.mem_of_getElem? hf2,hy⟩)
         · exact disj_flatten hnd2.2 hf2 hFi (fun e=>hik e.symm) y hy
end Go.Proofs.YthodinpflcbklaaDoor
