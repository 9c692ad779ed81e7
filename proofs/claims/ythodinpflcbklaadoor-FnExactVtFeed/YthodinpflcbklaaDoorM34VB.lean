/-
  Parts of the road to VB, joined: TmL, SvP5.
-/
import Derived.Test.YthodinpflcbklaaDoorM25VB
import Derived.Test.YthodinpflcbklaaDoorM33VB
import Derived.Test.YthodinpflcbklaaDoorM21VB
import Derived.Test.YthodinpflcbklaaDoorM26VB
import Derived.Test.YthodinpflcbklaaDoorM31VB
import Derived.Test.YthodinpflcbklaaDoorM32VB
open Go.Value renaming int → I,slice → Sz
open Go.IntKind renaming i64 → O
open List renaming setIfInBounds_toArray → lA,getElem_toArray → lB,getElem_cons_succ → lC,getElem_cons_zero → lD,set_cons_zero → lE,set_cons_succ → lF
set_option linter.unusedVariables false
set_option linter.unusedSimpArgs false
set_option maxHeartbeats 40000000
namespace Go.Proofs.YthodinpflcbklaaDoor
open Go.RowKit
set_option maxRecDepth 100000
def feedA(d:TD)(l:List Int):TD:=if vtB d=true then feedT d l else zeroT
theorem feedA_no{d:TD}{l:List Int}(h:vtB d=false):feedA d l=zeroT:=by unfold feedA;rw[h];rfl
theorem feedA_yes{d:TD}{l:List Int}(h:vtB d=true):feedA d l=feedT d l:=by unfold feedA;rw[h];rfl
theorem rowI_own{w:World}{B n:Nat}{v:Value}{d:List Int}(hl:d.length=n)(h:w.ownsRow B 3 1 v n (d.map (Value.int .i64))):∃ F,Own (.sl .int) w B [v] d F∧F.Nodup∧∀ k ∈ F,v.ownBlock=some k:=by
 rcases h.2 with ⟨h1,h2⟩ | ⟨g,cap,cur,hv,_⟩
 · refine⟨[],.inl ⟨by rw[h1],?_,rfl⟩,by simp,by simp⟩
   show d.length=0;omega
 · subst hv
   exact⟨[g],own_ints hl h,by simp,by simp[Value.ownBlock]⟩
theorem rowB_own{w:World}{B n:Nat}{v:Value}{d:List Int}(hl:d.length=n)(hb:∀ i:Nat,0≤d[i]?.getD 0∧d[i]?.getD 0≤255)(h:w.ownsRow B 5 1 v n (d.map (Value.int .u8))):∃ F,Own (.sl .u8) w B [v] d F∧F.Nodup∧∀ k ∈ F,v.ownBlock=some k:=by
 rcases h.2 with ⟨h1,h2⟩ | ⟨g,cap,cur,hv,_⟩
 · refine⟨[],.inl ⟨by rw[h1],?_,rfl⟩,by simp,by simp⟩
   show d.length=0;omega
 · subst hv
   exact⟨[g],own_bytes hl hb h,by simp,by simp[Value.ownBlock]⟩
theorem term_own{w:World}{B n kc k:Nat}{D:TD}{av pv:Value}(hl:D.1.2.2.1.length=n)(hp:∀ x ∈ D.2.2.2.1,0≤x∧x≤255)
   (hr:w.ownsRow B 3 1 (Sz (some ⟨k,0,none⟩) n kc) n (D.1.2.2.1.map (Value.int .i64))) (ha:w.ownsRow B 3 1 av D.2.2.1.length (D.2.2.1.map (Value.int .i64))) (hq:w.ownsRow B 5 1 pv D.2.2.2.1.length (D.2.2.2.1.map (Value.int .u8)))
   (h1:av.ownBlock≠some k) (h2:pv.ownBlock≠some k) (h3:∀ j,av.ownBlock=some j→pv.ownBlock≠some j) :
   ∃ F,Own shVt w B [I O D.1.1,I O D.1.2.1,Sz (some ⟨k,0,none⟩) n kc,I O D.1.2.2.2.1,I O D.1.2.2.2.2.1,.bool D.1.2.2.2.2.2.1,I O D.2.1,av,pv,I O D.2.2.2.2.1] D F∧F.Nodup:=by
 have o2:=own_ints hl hr
 obtain⟨F7,o7,n7,m7⟩:=rowI_own rfl ha
 obtain⟨F8,o8,n8,m8⟩:=rowB_own rfl (bytes_bt hp) hq
 refine⟨_,own_Vt (d:=D) (own_Grid (d:=D.1) o2) o7 o8,?_⟩
 rw[List.append_nil,List.append_nil]
 refine List.nodup_append.2 ⟨by simp,List.nodup_append.2 ⟨n7,n8,?_⟩,?_⟩
 · intro x hx y hy e
   subst e
   exact h3 x (m7 x hx) (m8 x hy)
 · intro x hx y hy e
   subst e
   obtain rfl:=List.mem_singleton.1 hx
   rcases List.mem_append.1 hy with h | h
   · exact h1 (m7 _ h)
   · exact h2 (m8 _ h)
theorem implFeed_no(W H X Y st be:Int)(wrp:Bool)(a2 a7 a8 bb:Option Addr)(n c2 n7 c7 n8 c8 m cm:Nat)(zs al pl l:List Int)(w:World)(hT:Tabs w)(hg:Reads (.sl .int) w [Sz a2 n c2] zs)(ha:Reads (.sl .int) w [Sz a7 n7 c7] al)(hp:Reads (.sl .u8) w [Sz a8 n8 c8] pl)(hb:Reads (.sl .u8) w [Sz bb m cm] l)(h07:a7=none→n7=0∧c7=0)(h08:a8=none→n8=0∧c8=0)(hm:m≤1048576)(hn8:n8≤1048576)(hv:vtB (((W,H,zs,X,Y,wrp,()),st,al,pl,be,()):TD)=false):
   Calls Tryd.prog 15 #[.agg #[I O W,I O H,Sz a2 n c2,I O X,I O Y,.bool wrp,I O st,Sz a7 n7 c7,Sz a8 n8 c8,I O be],Sz bb m cm] w fun e w'=>∃ o F,e=.returned (.agg o.toArray)∧Own shVt w' w.heap.size o (feedA (((W,H,zs,X,Y,wrp,()),st,al,pl,be,()):TD) l) F∧F.Nodup∧Below w.heap.size w w':=by
 obtain⟨W1,hW1,bW1,zW1,hA1,hZ1,HBX⟩:=mpro1 W H X Y st be wrp a2 a7 a8 n c2 n7 c7 n8 c8 w
 have HB1:Hid (Below w.heap.size w W1∧W1.heap.size=w.heap.size+2):=⟨bW1,zW1⟩
 have HW:Hid (W1=_):=hW1
 have qv:Hid (∀ w',Below w.heap.size w w'→Calls Tryd.prog 20 #[.agg #[I O W,I O H,Sz a2 n c2,I O X,I O Y,.bool wrp,I O st,Sz a7 n7 c7,Sz a8 n8 c8,I O be]] w' fun e w''=>e=.returned (.bool (vtB (((W,H,zs,X,Y,wrp,()),st,al,pl,be,()):TD)))∧Below w'.heap.size w' w''):=fun w' hw=>vtok_any W H X Y st be wrp a2 a7 a8 n c2 n7 c7 n8 c8 zs al pl w' (hT.later hw) (hg.later hw) (ha.later hw) (hp.later hw) (by omega)
 have HV:Hid (vtB (((W,H,zs,X,Y,wrp,()),st,al,pl,be,()):TD)=false):=hv
 have E:Hid (feedA (((W,H,zs,X,Y,wrp,()),st,al,pl,be,()):TD) l=zeroT):=feedA_no hv
 clear hv hT hg ha hp hb h07 h08 hW1 bW1 zW1 hA1 hZ1
 have i_W1:=HBX.out _ (Below.refl _ _)
 have y0:W1.cell? ⟨w.heap.size,0,none⟩=some (I O W):=bxc i_W1.1 rfl
 have y1:W1.cell? ⟨w.heap.size,1,none⟩=some (I O H):=bxc i_W1.1 rfl
 have y2:W1.cell? ⟨w.heap.size,2,none⟩=some (Sz a2 n c2):=bxc i_W1.1 rfl
 have y3:W1.cell? ⟨w.heap.size,3,none⟩=some (I O X):=bxc i_W1.1 rfl
 have y4:W1.cell? ⟨w.heap.size,4,none⟩=some (I O Y):=bxc i_W1.1 rfl
 have y5:W1.cell? ⟨w.heap.size,5,none⟩=some (.bool wrp):=bxc i_W1.1 rfl
 have y6:W1.cell? ⟨w.heap.size,6,none⟩=some (I O st):=bxc i_W1.1 rfl
 have y7:W1.cell? ⟨w.heap.size,7,none⟩=some (Sz a7 n7 c7):=bxc i_W1.1 rfl
 have y8:W1.cell? ⟨w.heap.size,8,none⟩=some (Sz a8 n8 c8):=bxc i_W1.1 rfl
 have y9:W1.cell? ⟨w.heap.size,9,none⟩=some (I O be):=bxc i_W1.1 rfl
 go_enter Tryd.func15,Tryd.ntmps15
 go_wp2_with fail
 rw[← HW.out]
 refine(qv.out _ HB1.out.1).mono ?_
 rintro e w2 ⟨rfl,hb2⟩
 rw[HV.out]
 clear y0 y1 y2 y3 y4 y5 y6 y7 y8 y9
 have i4:=HBX.out _ hb2
 have b2:=HB1.out.1.trans (hb2.mono HB1.out.1.size)
 have HLD:(loadVar 31 ⟨w.heap.size+1,0,none⟩).run Tryd.prog (w2.setRow (w.heap.size+1) #[I O 0,I O 0,Sz none 0 0,I O 0,I O 0,.bool false,I O 0,Sz none 0 0,Sz none 0 0,I O 0])=.ok (.agg #[I O 0,I O 0,Sz none 0 0,I O 0,I O 0,.bool false,I O 0,Sz none 0 0,Sz none 0 0,I O 0]) (w2.setRow (w.heap.size+1) #[I O 0,I O 0,Sz none 0 0,I O 0,I O 0,.bool false,I O 0,Sz none 0 0,Sz none 0 0,I O 0]):=run_loadVar_row _ _ _ _ _ _ _ (setRow_heap _ _ _ _ _ _ i4.2) Tryd.underlying31 rfl (by kernel_rfl)
 have HO:Hid (Below w.heap.size w (w2.setRow (w.heap.size+1) #[I O 0,I O 0,Sz none 0 0,I O 0,I O 0,.bool false,I O 0,Sz none 0 0,Sz none 0 0,I O 0])):=below_setRow b2 (Nat.le_add_right _ 1) _
 clear b2 hb2
 go_wp2_with (refine wpList_store_row rfl _ _ _ rfl _ _ rfl rfl _ _ i4.2 (by kernel_rfl) rfl (by simp[Value.oneCell']) ?_)
 (try simp only[Exit.inBlock,Exit.then])
 refine bodyPost_ret (by simp[results,Tryd.results15,asAddr,Act.put,HLD];try rfl) rfl ?_
 refine⟨[I O 0,I O 0,Sz none 0 0,I O 0,I O 0,.bool false,I O 0,Sz none 0 0,Sz none 0 0,I O 0],[],rfl,?_,List.nodup_nil,HO.out⟩
 rw[E.out]
 exact own_zeroT _ _
theorem implFeed_yes(W H X Y st be:Int)(wrp:Bool)(a2 a7 a8 bb:Option Addr)(n c2 n7 c7 n8 c8 m cm:Nat)(zs al pl l:List Int)(w:World)(hT:Tabs w)(hg:Reads (.sl .int) w [Sz a2 n c2] zs)(ha:Reads (.sl .int) w [Sz a7 n7 c7] al)(hp:Reads (.sl .u8) w [Sz a8 n8 c8] pl)(hb:Reads (.sl .u8) w [Sz bb m cm] l)(h07:a7=none→n7=0∧c7=0)(h08:a8=none→n8=0∧c8=0)(hm:m≤1048576)(hn8:n8≤1048576)(hv:vtB (((W,H,zs,X,Y,wrp,()),st,al,pl,be,()):TD)=true):
   Calls Tryd.prog 15 #[.agg #[I O W,I O H,Sz a2 n c2,I O X,I O Y,.bool wrp,I O st,Sz a7 n7 c7,Sz a8 n8 c8,I O be],Sz bb m cm] w fun e w'=>∃ o F,e=.returned (.agg o.toArray)∧Own shVt w' w.heap.size o (feedA (((W,H,zs,X,Y,wrp,()),st,al,pl,be,()):TD) l) F∧F.Nodup∧Below w.heap.size w w':=by
 obtain⟨W1,hW1,bW1,zW1,hA1,hZ1,HBX⟩:=mpro1 W H X Y st be wrp a2 a7 a8 n c2 n7 c7 n8 c8 w
 have HB1:Hid (Below w.heap.size w W1∧W1.heap.size=w.heap.size+2):=⟨bW1,zW1⟩
 have HW:Hid (W1=_):=hW1
 have qv:Hid (∀ w',Below w.heap.size w w'→Calls Tryd.prog 20 #[.agg #[I O W,I O H,Sz a2 n c2,I O X,I O Y,.bool wrp,I O st,Sz a7 n7 c7,Sz a8 n8 c8,I O be]] w' fun e w''=>e=.returned (.bool (vtB (((W,H,zs,X,Y,wrp,()),st,al,pl,be,()):TD)))∧Below w'.heap.size w' w''):=fun w' hw=>vtok_any W H X Y st be wrp a2 a7 a8 n c2 n7 c7 n8 c8 zs al pl w' (hT.later hw) (hg.later hw) (ha.later hw) (hp.later hw) (by omega)
 obtain⟨hlb,hrb,hcb,_⟩:=reads_bytes hb
 have hla:=(reads_ints ha).1
 obtain⟨hlp,hrp,_,_⟩:=reads_bytes hp
 have hlz:zs.length=n:=(reads_ints hg).1
 have hpb:∀ x ∈ pl,0≤x∧x≤255:=byte_bt hrp.1
 have hlbb:∀ x ∈ l,0≤x∧x≤255:=byte_bt hrb.1
 have hgood:goodT (((W,H,zs,X,Y,wrp,()),st,al,pl,be,()):TD):=⟨hv,hpb⟩
 obtain⟨v1,v2,v3,v4,v5⟩:=vt_parts hv
 have v1:gokB (W,H,zs,X,Y,wrp,())=true:=v1
 have v3:argsB al st=true:=v3
 have v4:partB pl st=true:=v4
 have hn:n≤1048576:=by
   obtain⟨W',H',rfl,rfl,g1,g2,g3,g4,g5,hlen,hcl,hcu⟩:=gok_parts v1
   omega
 have hz:∀ i,i < n→-1≤at0 zs i∧at0 zs i≤1114111:=by
   obtain⟨W',H',rfl,rfl,g1,g2,g3,g4,g5,hlen,hcl,hcu⟩:=gok_parts v1
   intro i hi
   exact cells_in hcl (by omega)
 have h74:n7≤1000:=by have:=args_len v3;omega
 have h83:n8≤1000:=by have:=part_len3 hpb (part_or v4);omega
 have QT:Hid (∀ w',Below w.heap.size w w'→Calls Tryd.prog 38 #[.agg #[I O W,I O H,Sz a2 n c2,I O X,I O Y,.bool wrp,I O st,Sz a7 n7 c7,Sz a8 n8 c8,I O be]] w' fun e w''=>∃ t p g av pv,e=.returned (.pointer (some ⟨t,0,none⟩))∧TermAt w'' w'.heap.size t p g n W H X Y wrp (up (-32) zs) st av al pv pl be (fvOf t st)∧Below w'.heap.size w' w''):=
   fun w' hw=>termOf_any W H X Y st be wrp a2 a7 a8 n c2 n7 c7 n8 c8 zs al pl w' (hg.later hw) (ha.later hw) (hp.later hw) h07 h08 hn h74 h83 hz
 have HV:Hid (vtB (((W,H,zs,X,Y,wrp,()),st,al,pl,be,()):TD)=true):=hv
 have E:Hid (feedA (((W,H,zs,X,Y,wrp,()),st,al,pl,be,()):TD) l=feedT (((W,H,zs,X,Y,wrp,()),st,al,pl,be,()):TD) l):=feedA_yes hv
 have HGD:Hid (goodT (((W,H,zs,X,Y,wrp,()),st,al,pl,be,()):TD)∧(∀ x ∈ l,0≤x∧x≤255)∧l.length=m∧zs.length=n):=⟨hgood,hlbb,hlb,hlz⟩
 have HRB:Hid (Rd w bb l):=hrb
 have HT:Hid (Tabs w):=hT
 clear hv hT hg ha hp hb h07 h08 hW1 bW1 zW1 hA1 hZ1 hlb hrb hla hlp hrp hlz hpb hlbb hgood v1 v2 v3 v4 v5 hz
 have i_W1:=HBX.out _ (Below.refl _ _)
 have y0:W1.cell? ⟨w.heap.size,0,none⟩=some (I O W):=bxc i_W1.1 rfl
 have y1:W1.cell? ⟨w.heap.size,1,none⟩=some (I O H):=bxc i_W1.1 rfl
 have y2:W1.cell? ⟨w.heap.size,2,none⟩=some (Sz a2 n c2):=bxc i_W1.1 rfl
 have y3:W1.cell? ⟨w.heap.size,3,none⟩=some (I O X):=bxc i_W1.1 rfl
 have y4:W1.cell? ⟨w.heap.size,4,none⟩=some (I O Y):=bxc i_W1.1 rfl
 have y5:W1.cell? ⟨w.heap.size,5,none⟩=some (.bool wrp):=bxc i_W1.1 rfl
 have y6:W1.cell? ⟨w.heap.size,6,none⟩=some (I O st):=bxc i_W1.1 rfl
 have y7:W1.cell? ⟨w.heap.size,7,none⟩=some (Sz a7 n7 c7):=bxc i_W1.1 rfl
 have y8:W1.cell? ⟨w.heap.size,8,none⟩=some (Sz a8 n8 c8):=bxc i_W1.1 rfl
 have y9:W1.cell? ⟨w.heap.size,9,none⟩=some (I O be):=bxc i_W1.1 rfl
 go_enter Tryd.func15,Tryd.ntmps15
 go_wp2_with fail
 rw[← HW.out]
 refine(qv.out _ HB1.out.1).mono ?_
 rintro e w2 ⟨rfl,hb2⟩
 rw[HV.out]
 clear y0 y1 y2 y3 y4 y5 y6 y7 y8 y9
 have i_w2:=HBX.out _ hb2
 have y0:w2.cell? ⟨w.heap.size,0,none⟩=some (I O W):=bxc i_w2.1 rfl
 have y1:w2.cell? ⟨w.heap.size,1,none⟩=some (I O H):=bxc i_w2.1 rfl
 have y2:w2.cell? ⟨w.heap.size,2,none⟩=some (Sz a2 n c2):=bxc i_w2.1 rfl
 have y3:w2.cell? ⟨w.heap.size,3,none⟩=some (I O X):=bxc i_w2.1 rfl
 have y4:w2.cell? ⟨w.heap.size,4,none⟩=some (I O Y):=bxc i_w2.1 rfl
 have y5:w2.cell? ⟨w.heap.size,5,none⟩=some (.bool wrp):=bxc i_w2.1 rfl
 have y6:w2.cell? ⟨w.heap.size,6,none⟩=some (I O st):=bxc i_w2.1 rfl
 have y7:w2.cell? ⟨w.heap.size,7,none⟩=some (Sz a7 n7 c7):=bxc i_w2.1 rfl
 have y8:w2.cell? ⟨w.heap.size,8,none⟩=some (Sz a8 n8 c8):=bxc i_w2.1 rfl
 have y9:w2.cell? ⟨w.heap.size,9,none⟩=some (I O be):=bxc i_w2.1 rfl
 have b2:=HB1.out.1.trans (hb2.mono HB1.out.1.size)
 go_wp2_with fail
 refine(QT.out _ b2).mono ?_
 rintro e w3 ⟨t,p,g,av,pv,rfl,hTa,hb3⟩
 obtain⟨B,hB⟩:∃ B,B=w2.heap.size:=⟨_,rfl⟩
 rw[← hB] at hTa hb3
 have hB2:w.heap.size+2≤B:=by have:=hb2.size;have:=HB1.out.2;omega
 have H2:Hid (B=w2.heap.size∧Below W1.heap.size W1 w2∧Below w.heap.size w w2):=⟨hB,hb2,b2⟩
 have H3:Hid (TermAt w3 B t p g n W H X Y wrp (up (-32) zs) st av al pv pl be (fvOf t st)∧Below B w2 w3):=⟨hTa,hb3⟩
 clear hTa hb3 hb2 b2 hB y0 y1 y2 y3 y4 y5 y6 y7 y8 y9 i_w2 i_W1
 go_wp2
 go_loopw [16] (fun i wr=>∃ k:Nat,k≤m∧i=I O k∧Hid ((∃ av pv,TermD wr B t p g n W H (feedT (((W,H,zs,X,Y,wrp,()),st,al,pl,be,()):TD) (l.take k)) av pv)∧Below B w2 wr)) (fun i _=>m - (intOf i).toNat)
 case atStart=>exact⟨0,Nat.zero_le _,rfl,⟨av,pv,by rw[List.take_zero,feed_nil];exact⟨H3.out.1,rfl,rfl,HGD.out.2.2.2⟩⟩,H3.out.2⟩
 case round =>
   obtain⟨k,hk,rfl,HI⟩:=hrel
   obtain⟨⟨av,pv,hD⟩,hbq⟩:=HI.out
   have hgq:goodT (feedT (((W,H,zs,X,Y,wrp,()),st,al,pl,be,()):TD) (l.take k)):=feed_good HGD.out.1 (fun x hx=>HGD.out.2.1 x (List.mem_of_mem_take hx))
   obtain⟨D,hDe⟩:∃ D,D=feedT (((W,H,zs,X,Y,wrp,()),st,al,pl,be,()):TD) (l.take k):=⟨_,rfl⟩
   rw[← hDe] at hD hgq
   have HDe:Hid (D=feedT (((W,H,zs,X,Y,wrp,()),st,al,pl,be,()):TD) (l.take k)):=hDe
   have hbw:Below w.heap.size w wr:=H2.out.2.2.trans (by have h9:=hbq;rw[H2.out.1] at h9;exact h9.mono H2.out.2.2.size)
   by_cases hlt:k < m
   · have hne:l≠[]:=by intro h;have:=HGD.out.2.2.1;rw[h] at this;simp at this;omega
     obtain⟨b',off,rfl,hbl,hcc⟩:=HRB.out.2.resolve_left hne
     obtain⟨x,hx⟩:∃ x,x=l[k]?.getD 0:=⟨_,rfl⟩
     have hkl:k < l.length:=by rw[HGD.out.2.2.1];exact hlt
     have gx:wr.cell? ⟨b',off+k,none⟩=some (I .u8 x):=by rw[hx];exact(hbw.cell (p:=⟨b',off+k,none⟩) hbl).trans (hcc k hkl)
     have hxb:0≤x∧x≤255:=by
       have e:x=l[k]:=by rw[hx];simp[hkl]
       rw[e];exact HGD.out.2.1 _ (List.getElem_mem hkl)
     have y5:wr.cell? ⟨t,5,none⟩=some (fvOf t D.2.1):=bxc hD.at'.box rfl
     have QC:Hid (Calls Tryd.prog (takeF D.2.1) #[.pointer (some ⟨t,0,none⟩),I .u8 x] wr fun e w'=>e=.returned (.tuple #[])∧(∃ av' pv',TermD w' B t p g n W H (byteT D x) av' pv')∧Kp B wr w'):=take_any B t p g n W H D av pv x wr hD hgq hxb (fun w' hkp=>by
       have h9:=hkp w2 hbq
       rw[H2.out.1] at h9
       exact HT.out.later (H2.out.2.2.trans (h9.mono H2.out.2.2.size)))
     have HN:Hid (feedT (((W,H,zs,X,Y,wrp,()),st,al,pl,be,()):TD) (l.take (k+1))=byteT D x):=by
       show _=_
       have e:l.take (k+1)=l.take k++[x]:=by rw[List.take_succ_eq_append_getElem hkl,hx];simp[hkl]
       rw[e,feed_one,← HDe.out]
     have HBQ:Hid (Below B w2 wr):=hbq
     have hst:D.2.1=0∨D.2.1=1∨D.2.1=2:=by have:=stat_bd (vt_parts hgq.1).2.1;omega
     have hlt':(k:Int) < (m:Int):=by omega
     obtain⟨S,hS⟩:∃ S,S=D.2.1:=⟨_,rfl⟩
     rw[← hS] at hst y5 QC
     clear hD hgq hDe hbq hbw hcc hne hx hkl hxb hS
     rcases hst with rfl | rfl | rfl
     · have y5':wr.cell? ⟨t,5,none⟩=some (.func (.func 76) #[.pointer (some ⟨t,0,none⟩)] #[]):=y5
       have QD:Hid (Calls Tryd.prog 76 #[.pointer (some ⟨t,0,none⟩),I .u8 x] wr fun e w'=>e=.returned (.tuple #[])∧(∃ av' pv',TermD w' B t p g n W H (byteT D x) av' pv')∧Kp B wr w'):=QC.out
       clear y5 QC
       go_wp2_with fail
       refine QD.out.mono ?_
       rintro e w5 ⟨rfl,hd5,hk5⟩
       have HH:Hid (_∧_):=⟨hd5,hk5 w2 HBQ.out⟩
       clear hd5 hk5
       go_wp2
       go_roundw
       case rel=>exact⟨k+1,by omega,by go_num,by rw[HN.out];exact HH.out⟩
       case measure=>simp[intOf];omega
     · have y5':wr.cell? ⟨t,5,none⟩=some (.func (.func 74) #[.pointer (some ⟨t,0,none⟩)] #[]):=y5
       have QD:Hid (Calls Tryd.prog 74 #[.pointer (some ⟨t,0,none⟩),I .u8 x] wr fun e w'=>e=.returned (.tuple #[])∧(∃ av' pv',TermD w' B t p g n W H (byteT D x) av' pv')∧Kp B wr w'):=QC.out
       clear y5 QC
       go_wp2_with fail
       refine QD.out.mono ?_
       rintro e w5 ⟨rfl,hd5,hk5⟩
       have HH:Hid (_∧_):=⟨hd5,hk5 w2 HBQ.out⟩
       clear hd5 hk5
       go_wp2
       go_roundw
       case rel=>exact⟨k+1,by omega,by go_num,by rw[HN.out];exact HH.out⟩
       case measure=>simp[intOf];omega
     · have y5':wr.cell? ⟨t,5,none⟩=some (.func (.func 75) #[.pointer (some ⟨t,0,none⟩)] #[]):=y5
       have QD:Hid (Calls Tryd.prog 75 #[.pointer (some ⟨t,0,none⟩),I .u8 x] wr fun e w'=>e=.returned (.tuple #[])∧(∃ av' pv',TermD w' B t p g n W H (byteT D x) av' pv')∧Kp B wr w'):=QC.out
       clear y5 QC
       go_wp2_with fail
       refine QD.out.mono ?_
       rintro e w5 ⟨rfl,hd5,hk5⟩
       have HH:Hid (_∧_):=⟨hd5,hk5 w2 HBQ.out⟩
       clear hd5 hk5
       go_wp2
       go_roundw
       case rel=>exact⟨k+1,by omega,by go_num,by rw[HN.out];exact HH.out⟩
       case measure=>simp[intOf];omega
   · have ek:k=m:=by omega
     have hfull:l.take k=l:=List.take_of_length_le (by rw[HGD.out.2.2.1];omega)
     have HEQ:Hid (D=feedT (((W,H,zs,X,Y,wrp,()),st,al,pl,be,()):TD) l):=by show _=_;rw[HDe.out,hfull]
     have hn8000:n≤1048576:=hn
     have hzz:∀ i,i < n→-1000000000≤at0 (up (-32) D.1.2.2.1) i∧at0 (up (-32) D.1.2.2.1) i≤1000000000:=by
       intro i hi
       have hi':i < D.1.2.2.1.length:=by rw[hD.len];exact hi
       rw[up_at hi']
       have v1:gokB D.1=true:=(vt_parts hgq.1).1
       obtain⟨⟨x0,x1,z,x3,x4,x5,u⟩,r⟩:=D
       obtain⟨W',H',_,_,g1,g2,g3,g4,g5,hlen,hcl,hcu⟩:=gok_parts (show gokB (x0,x1,z,x3,x4,x5,())=true from v1)
       have hi2:i < z.length:=hi'
       have:=cells_in hcl (i:=i) (by omega)
       show -1000000000≤at0 z i+-32∧at0 z i+-32≤1000000000
       omega
     have QV:Hid (Calls Tryd.prog 39 #[.pointer (some ⟨t,0,none⟩)] wr fun e w'=>∃ k,e=.returned (.agg #[I O W,I O H,Sz (some ⟨k,0,none⟩) n n,I O D.1.2.2.2.1,I O D.1.2.2.2.2.1,.bool D.1.2.2.2.2.2.1,I O D.2.1,av,pv,I O D.2.2.2.2.1])∧w'.ownsRow wr.heap.size 3 1 (Sz (some ⟨k,0,none⟩) n n) n ((up 32 (up (-32) D.1.2.2.1)).map (Value.int .i64))∧Below wr.heap.size wr w'):=
       vt_any B t p g n W H D.1.2.2.2.1 D.1.2.2.2.2.1 D.1.2.2.2.2.2.1 (up (-32) D.1.2.2.1) D.2.1 av D.2.2.1 pv D.2.2.2.1 D.2.2.2.2.1 _ wr hD.at' hn hzz
     have HDD:Hid (TermD wr B t p g n W H D av pv∧Below B w2 wr∧Below w.heap.size w wr∧goodT D):=⟨hD,hbq,hbw,hgq⟩
     have e1:=hD.w1
     have e2:=hD.h1
     obtain⟨X',hX'⟩:∃ x,x=D.1.2.2.2.1:=⟨_,rfl⟩
     obtain⟨Y',hY'⟩:∃ x,x=D.1.2.2.2.2.1:=⟨_,rfl⟩
     obtain⟨wr',hwr'⟩:∃ x,x=D.1.2.2.2.2.2.1:=⟨_,rfl⟩
     obtain⟨st',hst'⟩:∃ x,x=D.2.1:=⟨_,rfl⟩
     obtain⟨be',hbe'⟩:∃ x,x=D.2.2.2.2.1:=⟨_,rfl⟩
     rw[← hX',← hY',← hwr',← hst',← hbe'] at QV
     obtain⟨a7',c7',hav⟩:=own_formV hD.at'.args
     obtain⟨a8',c8',hpv⟩:=own_formV hD.at'.part
     obtain⟨n7',hn7'⟩:∃ x,x=D.2.2.1.length:=⟨_,rfl⟩
     obtain⟨n8',hn8'⟩:∃ x,x=D.2.2.2.1.length:=⟨_,rfl⟩
     rw[← hn7'] at hav
     rw[← hn8'] at hpv
     subst hav
     subst hpv
     have HX:Hid (W=D.1.1∧H=D.1.2.1∧X'=D.1.2.2.2.1∧Y'=D.1.2.2.2.2.1∧wr'=D.1.2.2.2.2.2.1∧st'=D.2.1∧be'=D.2.2.2.2.1):=⟨e1.symm,e2.symm,hX',hY',hwr',hst',hbe'⟩
     clear hD hgq hDe hbq hbw hzz e1 e2 hX' hY' hwr' hst' hbe' hn7' hn8' hfull
     have hlt':¬ (k:Int) < (m:Int):=by omega
     go_wp2_with fail
     refine QV.out.mono ?_
     rintro e w6 ⟨kk,rfl,ho,hb6⟩
     rw[up_up] at ho
     have hBr:B≤wr.heap.size:=by have h9:=HDD.out.2.1.size;rw[H2.out.1];exact h9
     have b6:Below B w2 w6:=HDD.out.2.1.trans (hb6.mono hBr)
     have b6':Below w2.heap.size w2 w6:=by have h9:=b6;rw[H2.out.1] at h9;exact h9
     have b6w:Below W1.heap.size W1 w6:=H2.out.2.1.trans (b6'.mono H2.out.2.1.size)
     have i6:=HBX.out _ b6w
     have bw6:Below w.heap.size w w6:=HB1.out.1.trans (b6w.mono HB1.out.1.size)
     have hT9:=HDD.out.1.at'
     have oa:=own_later hT9.args hb6
     have op:=own_later hT9.part hb6
     have hk9:=(ho.lt kk rfl).1
     obtain⟨F,hF,hnd⟩:=term_own (D:=D) HDD.out.1.len HDD.out.2.2.2.2 (own_low ho hBr) oa op (fun e=>by have:=(hT9.args.lt kk e).2;omega) (fun e=>by have:=(hT9.part.lt kk e).2;omega) hT9.two
     rw[← HX.out.1,← HX.out.2.1,← HX.out.2.2.1,← HX.out.2.2.2.1,← HX.out.2.2.2.2.1,← HX.out.2.2.2.2.2.1,← HX.out.2.2.2.2.2.2] at hF
     have HLD:(loadVar 31 ⟨w.heap.size+1,0,none⟩).run Tryd.prog (w6.setRow (w.heap.size+1) #[I O W,I O H,Sz (some ⟨kk,0,none⟩) n n,I O X',I O Y',.bool wr',I O st',Sz a7' n7' c7',Sz a8' n8' c8',I O be'])=.ok (.agg #[I O W,I O H,Sz (some ⟨kk,0,none⟩) n n,I O X',I O Y',.bool wr',I O st',Sz a7' n7' c7',Sz a8' n8' c8',I O be']) (w6.setRow (w.heap.size+1) #[I O W,I O H,Sz (some ⟨kk,0,none⟩) n n,I O X',I O Y',.bool wr',I O st',Sz a7' n7' c7',Sz a8' n8' c8',I O be']):=run_loadVar_row _ _ _ _ _ _ _ (setRow_heap _ _ _ _ _ _ i6.2) Tryd.underlying31 rfl (by kernel_rfl)
     have HO:Hid (Below w.heap.size w (w6.setRow (w.heap.size+1) #[I O W,I O H,Sz (some ⟨kk,0,none⟩) n n,I O X',I O Y',.bool wr',I O st',Sz a7' n7' c7',Sz a8' n8' c8',I O be'])∧Own shVt (w6.setRow (w.heap.size+1) #[I O W,I O H,Sz (some ⟨kk,0,none⟩) n n,I O X',I O Y',.bool wr',I O st',Sz a7' n7' c7',Sz a8' n8' c8',I O be']) w.heap.size [I O W,I O H,Sz (some ⟨kk,0,none⟩) n n,I O X',I O Y',.bool wr',I O st',Sz a7' n7' c7',Sz a8' n8' c8',I O be'] D F∧F.Nodup):=
       ⟨below_setRow bw6 (Nat.le_add_right _ 1) _,(own_setRowLo hF _ (by omega)).base (by omega),hnd⟩
     clear b6 b6' b6w bw6 hT9 oa op hk9 hF hnd ho hb6 hBr
     go_wp2_with (refine wpList_store_row rfl _ _ _ rfl _ _ rfl rfl _ _ i6.2 (by kernel_rfl) rfl (by simp[Value.oneCell']) ?_)
     (try simp only[Exit.inBlock,Exit.then])
     refine bodyPost_ret (by simp[results,Tryd.results15,asAddr,Act.put,HLD];try rfl) rfl ?_
     refine⟨[I O W,I O H,Sz (some ⟨kk,0,none⟩) n n,I O X',I O Y',.bool wr',I O st',Sz a7' n7' c7',Sz a8' n8' c8',I O be'],F,rfl,?_,HO.out.2.2,HO.out.1⟩
     rw[E.out,← HEQ.out]
     exact HO.out.2.1
end Go.Proofs.YthodinpflcbklaaDoor
namespace Go.Proofs.YthodinpflcbklaaDoor
open Go.RowKit
set_option maxRecDepth 100000
theorem spl_hiA(W H X Y st be:Int)(wrp:Bool)(a a7 a8:Option Addr)(n c n7 c7 n8 c8:Nat)(zs al pl:List Int)(b:Int)(w:World)(hg:gokB (W,H,zs,X,Y,wrp,())=true)(h2:Reads (.sl .int) w [Sz a n c] zs)(h7:Reads (.sl .int) w [Sz a7 n7 c7] al)(h8:Reads (.sl .u8) w [Sz a8 n8 c8] pl)(hpl:pl.length≤3)(hbe:0≤be∧be≤1000000)(hb:128≤b∧b≤255)(hp:pl=[]∨rbgB pl=true)(hA:(rra (pl++[b]) 0).2=(pl.length:Int)+1):
   Calls Tryd.prog 54 #[.agg #[I O W,I O H,Sz a n c,I O X,I O Y,.bool wrp,I O st,Sz a7 n7 c7,Sz a8 n8 c8,I O be],I O b] w fun e w'=>∃ o,e=.returned (.agg o.toArray)∧RK w w' o (plainT (((W,H,zs,X,Y,wrp,()),st,al,pl,be,()):TD) b) (Sz a n c) (Sz a7 n7 c7) (Sz a8 n8 c8) zs al pl∧Below w.heap.size w w':=by
 obtain⟨i1,ji,jz0,jz1,jz2⟩:=info_parts Tryd.infoB
 obtain⟨W2,hW2,bW2,zW2,hA2,hZ2,hG2,HBX⟩:=mpro2 W H X Y st be wrp a a7 a8 n c n7 c7 n8 c8 w
 have HB2:Hid (Below w.heap.size w W2∧W2.heap.size=w.heap.size+3):=⟨bW2,zW2⟩
 have HW:Hid (W2=_):=hW2
 have HR:Hid (Reads (.sl .int) w [Sz a n c] zs∧Reads (.sl .int) w [Sz a7 n7 c7] al):=⟨h2,h7⟩
 obtain⟨hl8,hr8,_,_⟩:=reads_bytes h8
 have HBY:Hid (∀ i,0≤bt pl i∧bt pl i≤255):=fun i=>hr8.1 i
 have HL:Hid (pl.length=n8):=hl8
 have HSR:Hid (SrcZ w (Sz a8 n8 c8) n8 (pl.map (Value.int .u8))):=srcZ_rd hr8 hl8
 obtain⟨WE,hWE⟩:∃ U,U=W2.alloc (.cells #[] 5):=⟨_,rfl⟩
 have bE:Below W2.heap.size W2 WE:=by rw[hWE];exact(Below.refl _ _).alloc (Nat.le_refl _) _
 have oE:WE.ownsRow W2.heap.size 5 1 (Sz (some ⟨w.heap.size+1+1+1,0,none⟩) 0 0) 0 []:=by
   have h9:=World.ownsRow_lit (base:=W2.heap.size) (e:=5) (size:=1) W2 #[] 0 (Nat.le_refl _) (Nat.zero_le _) rfl
   rw[zW2] at h9
   rw[hWE,zW2]
   exact h9
 have hn83:n8≤3:=by omega
 have HE0:Hid (Below W2.heap.size W2 WE∧WE.ownsRow W2.heap.size 5 1 (Sz (some ⟨w.heap.size+1+1+1,0,none⟩) 0 0) 0 []):=⟨bE,oE⟩
 have HWE:Hid (WE=_):=hWE
 obtain⟨q,hq⟩:∃ q,q=pl++[b]:=⟨_,rfl⟩
 have hqb:∀ x ∈ q,0≤x∧x≤255:=by rw[hq];exact byte_bt (app_bt HBY.out (by omega))
 have hql:q.length=n8+1:=by rw[hq];simp[hl8]
 obtain⟨R1,hR1⟩:∃ r,r=(rra q 0).1:=⟨_,rfl⟩
 obtain⟨R2,hR2⟩:∃ r,r=(rra q 0).2:=⟨_,rfl⟩
 have hA':R2=(n8:Int)+1:=by rw[hR2,hq];rw[hl8] at hA;exact hA
 have dn:(R2==(n8:Int)+1)=true:=by simpa using hA'
 have dn2:(R2==((n8+1:Nat):Int))=true:=by rw[show ((n8+1:Nat):Int)=(n8:Int)+1 by omega];exact dn
 have d1:decide ((128:Int)≤b)=true:=decide_eq_true hb.1
 have wb:IntKind.u8.wrap b=b:=by simp[IntKind.wrap,IntKind.bits,IntKind.signed];omega
 have QR:Hid (∀ (w':World) (g cc:Nat),Rd w' (some ⟨g,0,none⟩) q→n8+1≤cc→cc≤maxLen→Calls Tryd.prog 70 #[Sz (some ⟨g,0,none⟩) (n8+1) cc,I O 0] w' fun e w''=>e=.returned (.tuple #[I O R1,I O R2])∧Below w'.heap.size w' w''):=fun w' g cc hr h5 h6=>by rw[hR1,hR2];exact specRrd_any _ _ _ q 0 w' hql hr (by omega) h5 h6
 have QB:Hid (∀ (w':World) (g cc:Nat),Rd w' (some ⟨g,0,none⟩) q→n8+1≤cc→cc≤maxLen→Calls Tryd.prog 53 #[Sz (some ⟨g,0,none⟩) (n8+1) cc] w' fun e w''=>e=.returned (.bool (rbgB q))∧Below w'.heap.size w' w''):=fun w' g cc hr h5 h6=>specRbg_any _ _ _ q w' hql hr (by omega) h5 h6
 have HQB:Hid (q=pl++[b]∧q.length=n8+1∧∀ x ∈ q,0≤x∧x≤255):=⟨hq,hql,hqb⟩
 obtain⟨D,hD⟩:∃ D:GrD,D=putN (W,H,zs,X,Y,wrp,()) R1:=⟨_,rfl⟩
 have HE:Hid (plainT (((W,H,zs,X,Y,wrp,()),st,al,pl,be,()):TD) b=(D,st,al,[],be,())):=by
   show _=_
   obtain⟨e1,e2⟩:=full_gaP HBY.out (b:=b) (by omega) hpl hA
   unfold plainT
   rw[if_pos hb.1]
   show ((gaD (W,H,zs,X,Y,wrp,()) pl b,st,al,gaP pl b,be,()):TD)=_
   rw[e1,e2,hD,hR1,hq]
 have QG:Hid (∀ w',Below w.heap.size w w'→Calls Tryd.prog 61 #[.agg #[I O W,I O H,Sz a n c,I O X,I O Y,.bool wrp],I O R1] w' fun e w''=>GAns w' w'' e D):=fun w' hb=>by rw[hD];exact sput_any (g:=(W,H,zs,X,Y,wrp,())) R1 w' hg (h2.later hb)
 clear hg h2 h7 h8 hpl hl8 hr8 hW2 bW2 zW2 hA2 hZ2 hG2 hWE bE oE hD hb hp hA hq hqb hql hR1 hR2 hA' hbe
 have y0:WE.cell? ⟨w.heap.size,0,none⟩=some (I O W):=bxc (HBX.out _ HE0.out.1).1 rfl
 have y1:WE.cell? ⟨w.heap.size,1,none⟩=some (I O H):=bxc (HBX.out _ HE0.out.1).1 rfl
 have y2:WE.cell? ⟨w.heap.size,2,none⟩=some (Sz a n c):=bxc (HBX.out _ HE0.out.1).1 rfl
 have y3:WE.cell? ⟨w.heap.size,3,none⟩=some (I O X):=bxc (HBX.out _ HE0.out.1).1 rfl
 have y4:WE.cell? ⟨w.heap.size,4,none⟩=some (I O Y):=bxc (HBX.out _ HE0.out.1).1 rfl
 have y5:WE.cell? ⟨w.heap.size,5,none⟩=some (.bool wrp):=bxc (HBX.out _ HE0.out.1).1 rfl
 have y6:WE.cell? ⟨w.heap.size,6,none⟩=some (I O st):=bxc (HBX.out _ HE0.out.1).1 rfl
 have y7:WE.cell? ⟨w.heap.size,7,none⟩=some (Sz a7 n7 c7):=bxc (HBX.out _ HE0.out.1).1 rfl
 have y8:WE.cell? ⟨w.heap.size,8,none⟩=some (Sz a8 n8 c8):=bxc (HBX.out _ HE0.out.1).1 rfl
 have y9:WE.cell? ⟨w.heap.size,9,none⟩=some (I O be):=bxc (HBX.out _ HE0.out.1).1 rfl
 have hsE:=srcZ_later HSR.out (HB2.out.1.trans (HE0.out.1.mono HB2.out.1.size))
 have oE:=HE0.out.2
 go_enter Tryd.func54,Tryd.ntmps54
 go_wp2_with (at_builtin;rw[← HW.out,← HWE.out];refine wpList_append_srcZ rfl _ _ 25 rfl W2.heap.size 5 i1 (I .u8 0) 1 1 Tryd.underlying25 ji jz0 jz1 jz2 rfl (by decide) _ 0 [] rfl oE (Sz a8 n8 c8) n8 (pl.map (Value.int .u8)) rfl ?c0 hsE ?c1 ?c3 ?c4 HE0.out.1.size ?_)
 case c0=>(rw[List.length_map,HL.out]) <;> omega
 case c1=>intro u hu;simp at hu;obtain⟨x,_,rfl⟩:=hu;rfl
 case c3=>unfold maxLen;omega
 case c4=>omega
 intro v7 wA oA gA
 (try rw[Nat.zero_add] at oA)
 (try rw[List.nil_append] at oA)
 obtain⟨aA,cA,hvA⟩:=own_formV oA
 subst hvA
 have kA:Below W2.heap.size W2 wA:=HE0.out.1.grown gA HE0.out.1.size (fun k e=>(oE.lt k e).1)
 clear oE gA hsE y0 y1 y2 y3 y4 y5 y6 y7 y8 y9
 have bl2:Below wA.heap.size wA (wA.alloc (.cells #[I .u8 (b)] 5)):=(Below.refl _ _).alloc (Nat.le_refl _) _
 have oA2:=own_later oA bl2
 have sB:SrcZ (wA.alloc (.cells #[I .u8 (b)] 5)) (Sz (some ⟨wA.heap.size,0,none⟩) 1 1) 1 [I .u8 (b)]:=srcZ_lit (cs:=[I .u8 (b)]) (heap_alloc_new wA _)
 have kA2:Below W2.heap.size W2 (wA.alloc (.cells #[I .u8 (b)] 5)):=kA.trans (bl2.mono kA.size)
 have y0:wA.cell? ⟨w.heap.size,0,none⟩=some (I O W):=bxc (HBX.out _ kA).1 rfl
 have y1:wA.cell? ⟨w.heap.size,1,none⟩=some (I O H):=bxc (HBX.out _ kA).1 rfl
 have y2:wA.cell? ⟨w.heap.size,2,none⟩=some (Sz a n c):=bxc (HBX.out _ kA).1 rfl
 have y3:wA.cell? ⟨w.heap.size,3,none⟩=some (I O X):=bxc (HBX.out _ kA).1 rfl
 have y4:wA.cell? ⟨w.heap.size,4,none⟩=some (I O Y):=bxc (HBX.out _ kA).1 rfl
 have y5:wA.cell? ⟨w.heap.size,5,none⟩=some (.bool wrp):=bxc (HBX.out _ kA).1 rfl
 have y6:wA.cell? ⟨w.heap.size,6,none⟩=some (I O st):=bxc (HBX.out _ kA).1 rfl
 have y7:wA.cell? ⟨w.heap.size,7,none⟩=some (Sz a7 n7 c7):=bxc (HBX.out _ kA).1 rfl
 have y8:wA.cell? ⟨w.heap.size,8,none⟩=some (Sz a8 n8 c8):=bxc (HBX.out _ kA).1 rfl
 have y9:wA.cell? ⟨w.heap.size,9,none⟩=some (I O be):=bxc (HBX.out _ kA).1 rfl
 go_wp2_with (at_builtin;refine wpList_append_srcZ rfl _ _ 25 rfl W2.heap.size 5 i1 (I .u8 0) 1 1 Tryd.underlying25 ji jz0 jz1 jz2 rfl (by decide) _ n8 (pl.map (Value.int .u8)) rfl oA2 (Sz (some ⟨wA.heap.size,0,none⟩) 1 1) 1 [I .u8 (b)] rfl rfl sB (by intro u hu;simp at hu;subst hu;rfl) (by unfold maxLen;omega) (by omega) kA2.size ?_)
 intro v8 wB oB gB
 obtain⟨gC,cB,hvB,_,_⟩:=own_form oB (by omega)
 subst hvB
 have kB:Below W2.heap.size W2 wB:=kA2.grown gB kA2.size (fun k e=>(oA2.lt k e).1)
 have oS:wB.ownsRow W2.heap.size 5 1 (Sz (some ⟨gC,0,none⟩) (n8+1) cB) (n8+1) ((pl++[b]).map (Value.int .u8)):=by rw[List.map_append];exact oB
 clear oA oA2 sB bl2 kA kA2 gB oB y0 y1 y2 y3 y4 y5 y6 y7 y8 y9
 have bB:=HB2.out.1.trans (kB.mono HB2.out.1.size)
 have hz:=HB2.out.2
 have hgC:=(oS.lt gC rfl).1
 obtain⟨hcB,hcM⟩:=own_caps oS
 rw[← HQB.out.1] at oS
 have i4:=HBX.out _ kB
 obtain⟨u8,hu8⟩:∃ U,U=wB.setCell ⟨w.heap.size,8,none⟩ (Sz none 0 0):=⟨_,rfl⟩
 have e8:Below w.heap.size w u8:=by rw[hu8];exact Below.setCell (p:=⟨w.heap.size,8,none⟩) bB (Nat.le_refl _) _
 have y8:W2.heap.size≤u8.heap.size:=by rw[hu8];exact Nat.le_trans kB.size (Below.setCell (p:=⟨w.heap.size,8,none⟩) (Below.refl w.heap.size wB) (Nat.le_refl _) _).size
 have o8:u8.ownsRow W2.heap.size 5 1 (Sz (some ⟨gC,0,none⟩) (n8+1) cB) (n8+1) (q.map (Value.int .u8)):=by rw[hu8];exact own_setT oS (by simp[Value.ownBlock];omega)
 have r8':Rd u8 (some ⟨gC,0,none⟩) q:=own_rd o8 HQB.out.2.2
 have hV0:u8.heap[w.heap.size]?=some (.cells #[I O W,I O H,Sz a n c,I O X,I O Y,.bool wrp,I O st,Sz a7 n7 c7,Sz none 0 0,I O be] 31 (0,0)):=by rw[hu8];exact box_set _ i4.1
 have hR0:u8.heap[w.heap.size+1]?=some (.cells #[I O 0,I O 0,Sz none 0 0,I O 0,I O 0,.bool false,I O 0,Sz none 0 0,Sz none 0 0,I O 0] 31 (0,0)):=by rw[hu8,box_other _ (by omega)];exact i4.2.1
 have hG0:u8.heap[w.heap.size+1+1]?=some (.cells #[I O W,I O H,Sz a n c,I O X,I O Y,.bool wrp] 29 (0,0)):=by rw[hu8,box_other _ (by omega)];exact i4.2.2
 have q0:wB.cell? ⟨w.heap.size,0,none⟩=some (I O W):=bxc i4.1 rfl
 have q1:wB.cell? ⟨w.heap.size,1,none⟩=some (I O H):=bxc i4.1 rfl
 have q2:wB.cell? ⟨w.heap.size,2,none⟩=some (Sz a n c):=bxc i4.1 rfl
 have q3:wB.cell? ⟨w.heap.size,3,none⟩=some (I O X):=bxc i4.1 rfl
 have q4:wB.cell? ⟨w.heap.size,4,none⟩=some (I O Y):=bxc i4.1 rfl
 have q5:wB.cell? ⟨w.heap.size,5,none⟩=some (.bool wrp):=bxc i4.1 rfl
 have q6:wB.cell? ⟨w.heap.size,6,none⟩=some (I O st):=bxc i4.1 rfl
 have q7:wB.cell? ⟨w.heap.size,7,none⟩=some (Sz a7 n7 c7):=bxc i4.1 rfl
 have q8:wB.cell? ⟨w.heap.size,8,none⟩=some (Sz a8 n8 c8):=bxc i4.1 rfl
 have q9:wB.cell? ⟨w.heap.size,9,none⟩=some (I O be):=bxc i4.1 rfl
 have f8:wB.frozen? ⟨w.heap.size,8,none⟩=false:=box_frozen i4.1
 have HW8:Hid (u8=_):=hu8
 clear i4 bB kB oS hu8
 go_wp2_with fail
 rw[← HW8.out]
 refine(QR.out _ _ _ r8' hcB hcM).mono ?_
 rintro e w8 ⟨rfl,hu4⟩
 clear q0 q1 q2 q3 q4 q5 q6 q7 q8 q9 f8
 have b8:=e8.trans (hu4.mono e8.size)
 have z8:W2.heap.size≤w8.heap.size:=Nat.le_trans y8 hu4.size
 have hV8:=(hu4.block _ (by omega)).trans hV0
 have hR8:=(hu4.block _ (by omega)).trans hR0
 have hG8:=(hu4.block _ (by omega)).trans hG0
 have o9:=own_later o8 hu4
 clear o8 r8' hV0 hR0 hG0 e8 y8 hu4
 have z0:w8.cell? ⟨w.heap.size+1+1,0,none⟩=some (I O W):=bxc hG8 rfl
 have z1:w8.cell? ⟨w.heap.size+1+1,1,none⟩=some (I O H):=bxc hG8 rfl
 have z2:w8.cell? ⟨w.heap.size+1+1,2,none⟩=some (Sz a n c):=bxc hG8 rfl
 have z3:w8.cell? ⟨w.heap.size+1+1,3,none⟩=some (I O X):=bxc hG8 rfl
 have z4:w8.cell? ⟨w.heap.size+1+1,4,none⟩=some (I O Y):=bxc hG8 rfl
 have z5:w8.cell? ⟨w.heap.size+1+1,5,none⟩=some (.bool wrp):=bxc hG8 rfl
 clear o9 hcB hcM
 go_wp2_with fail
 refine(QG.out _ b8).mono ?_
 rintro e w4 ⟨a5,n5,c5',F,rfl,ho,hb4⟩
 clear z0 z1 z2 z3 z4 z5
 have b4:=b8.trans (hb4.mono b8.size)
 have hV4:=(hb4.block _ (by omega)).trans hV8
 have hR4:=(hb4.block _ (by omega)).trans hR8
 obtain⟨VV,hVV⟩:∃ U,U=w4.setCells w.heap.size 0 (#[I O D.1,I O D.2.1,Sz a5 n5 c5',I O D.2.2.2.1,I O D.2.2.2.2.1,.bool D.2.2.2.2.2.1]:Array Value).toList:=⟨_,rfl⟩
 have hVb:VV.heap[w.heap.size]?=some (.cells #[I O D.1,I O D.2.1,Sz a5 n5 c5',I O D.2.2.2.1,I O D.2.2.2.2.1,.bool D.2.2.2.2.2.1,I O st,Sz a7 n7 c7,Sz none 0 0,I O be] 31 (0,0)):=by rw[hVV];exact six_in hV4
 have hth:w4.there w.heap.size 0 6:=six_there hV4
 have hVr:VV.heap[w.heap.size+1]?=some (.cells #[I O 0,I O 0,Sz none 0 0,I O 0,I O 0,.bool false,I O 0,Sz none 0 0,Sz none 0 0,I O 0] 31 (0,0)):=by rw[hVV,setCells_other (by omega)];exact hR4
 have q0:VV.cell? ⟨w.heap.size,0,none⟩=some (I O D.1):=bxc hVb rfl
 have q1:VV.cell? ⟨w.heap.size,1,none⟩=some (I O D.2.1):=bxc hVb rfl
 have q2:VV.cell? ⟨w.heap.size,2,none⟩=some (Sz a5 n5 c5'):=bxc hVb rfl
 have q3:VV.cell? ⟨w.heap.size,3,none⟩=some (I O D.2.2.2.1):=bxc hVb rfl
 have q4:VV.cell? ⟨w.heap.size,4,none⟩=some (I O D.2.2.2.2.1):=bxc hVb rfl
 have q5:VV.cell? ⟨w.heap.size,5,none⟩=some (.bool D.2.2.2.2.2.1):=bxc hVb rfl
 have q6:VV.cell? ⟨w.heap.size,6,none⟩=some (I O st):=bxc hVb rfl
 have q7:VV.cell? ⟨w.heap.size,7,none⟩=some (Sz a7 n7 c7):=bxc hVb rfl
 have q8:VV.cell? ⟨w.heap.size,8,none⟩=some (Sz none 0 0):=bxc hVb rfl
 have q9:VV.cell? ⟨w.heap.size,9,none⟩=some (I O be):=bxc hVb rfl
 have HLD:(loadVar 31 ⟨w.heap.size+1,0,none⟩).run Tryd.prog (VV.setRow (w.heap.size+1) #[I O D.1,I O D.2.1,Sz a5 n5 c5',I O D.2.2.2.1,I O D.2.2.2.2.1,.bool D.2.2.2.2.2.1,I O st,Sz a7 n7 c7,Sz none 0 0,I O be])=.ok (.agg #[I O D.1,I O D.2.1,Sz a5 n5 c5',I O D.2.2.2.1,I O D.2.2.2.2.1,.bool D.2.2.2.2.2.1,I O st,Sz a7 n7 c7,Sz none 0 0,I O be]) (VV.setRow (w.heap.size+1) #[I O D.1,I O D.2.1,Sz a5 n5 c5',I O D.2.2.2.1,I O D.2.2.2.2.1,.bool D.2.2.2.2.2.1,I O st,Sz a7 n7 c7,Sz none 0 0,I O be]):=run_loadVar_row _ _ _ _ _ _ _ (setRow_heap _ _ _ _ _ _ hVr) Tryd.underlying31 rfl (by kernel_rfl)
 have bF:Below w.heap.size w (VV.setRow (w.heap.size+1) #[I O D.1,I O D.2.1,Sz a5 n5 c5',I O D.2.2.2.1,I O D.2.2.2.2.1,.bool D.2.2.2.2.2.1,I O st,Sz a7 n7 c7,Sz none 0 0,I O be]):=below_setRow (by rw[hVV];exact below_setCells _ _ _ b4 (Nat.le_refl _)) (Nat.le_add_right _ 1) _
 have rN:Own (.sl .int) (VV.setRow (w.heap.size+1) #[I O D.1,I O D.2.1,Sz a5 n5 c5',I O D.2.2.2.1,I O D.2.2.2.2.1,.bool D.2.2.2.2.2.1,I O st,Sz a7 n7 c7,Sz none 0 0,I O be]) w8.heap.size [Sz a5 n5 c5'] D.2.2.1 F:=ho.keep fun g hg=>by
   have:=(ho.lt g hg).1
   rw[setRow_other _ (w.heap.size+1) g _ (by omega),hVV,setCells_other (by omega)]
 have HSZ:Hid (w.heap.size≤w8.heap.size):=b8.size
 have HF:Hid (_∧_):=⟨bF,rN⟩
 have HVV:Hid (VV=_):=hVV
 have HTH:Hid (w4.there w.heap.size 0 6):=hth
 clear hVV hVb hth b4 bF rN ho hb4 b8 z8 hV8 hR8 hG8 hV4 hR4
 go_wp2_with (first | (refine wpList_store_mid rfl _ _ _ rfl w.heap.size 0 #[I O D.1,I O D.2.1,Sz a5 n5 c5',I O D.2.2.2.1,I O D.2.2.2.2.1,.bool D.2.2.2.2.2.1] rfl rfl HTH.out (by kernel_rfl) (by simp[Value.oneCell']) ?_;rw[← HVV.out]) | (refine wpList_store_row rfl _ _ _ rfl _ _ rfl rfl _ _ hVr (by kernel_rfl) rfl (by simp[Value.oneCell']) ?_))
 (try simp only[Exit.inBlock,Exit.then])
 refine bodyPost_ret (by simp[results,Tryd.results54,asAddr,Act.put,HLD];try rfl) rfl ?_
 refine⟨[I O D.1,I O D.2.1,Sz a5 n5 c5',I O D.2.2.2.1,I O D.2.2.2.2.1,.bool D.2.2.2.2.2.1,I O st,Sz a7 n7 c7,Sz none 0 0,I O be],rfl,?_,HF.out.1⟩
 rw[HE.out]
 intro w'' hk r2 r7 r8
 exact reads_Vt (d:=((D,st,al,[],be,()):TD)) (own_read HF.out.2 HSZ.out hk) r7 (nil_readB _)
end Go.Proofs.YthodinpflcbklaaDoor
