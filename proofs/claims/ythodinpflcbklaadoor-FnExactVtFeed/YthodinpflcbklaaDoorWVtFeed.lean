/-
  The law FnExactVtFeed over the contracts of its two functions.
-/
import Derived.Test.YthodinpflcbklaaDoorLVtFeed
import Derived.Test.YthodinpflcbklaaDoorSvF
import Derived.Test.YthodinpflcbklaaDoorM38VB
import Derived.Test.YthodinpflcbklaaDoorCntT
import Derived.Test.YthodinpflcbklaaDoorVtQ
open Go.Value renaming int → I,slice → Sz
open Go.IntKind renaming i64 → O
open List renaming setIfInBounds_toArray → lA,getElem_toArray → lB,getElem_cons_succ → lC,getElem_cons_zero → lD,set_cons_zero → lE,set_cons_succ → lF
set_option linter.unusedVariables false
set_option linter.unusedSimpArgs false
set_option maxHeartbeats 40000000
namespace Go.Proofs.YthodinpflcbklaaDoor
open Go.RowKit
theorem specVtfeed_ok(c:List Value)(d:shVt.D)(v:Value)(l:List Int)(w:World)(h:Reads shVt w c d)(hb:Reads (.sl .u8) w [v] l)(hl:l.length≤1048576)(hs:shVt.sz d≤1048576):
   Calls Tryd.prog 13 #[.agg c.toArray,v] w fun e w'=>∃ o,e=.returned (.agg o.toArray)∧Reads shVt w' o (feedA d l)∧Below w.heap.size w w':=by
 obtain⟨a2,n2,c2,a7,n7,c7,a8,n8,c8,rfl,h0,h2,h3⟩:=open_Vt h
 obtain⟨_,_,_,hc,hg⟩:=open_Grid h0
 simp only[List.cons.injEq,Value.slice.injEq,true_and,and_true] at hc
 obtain⟨rfl,rfl,rfl⟩:=hc
 obtain⟨bb,cm,rfl,_,_⟩:=reads_val hb
 refine(specFeed_any _ _ _ _ _ _ _ a2 a7 a8 n2 c2 n7 c7 n8 c8 bb _ cm d.1.2.2.1 d.2.2.1 d.2.2.2.1 l w hg h2 h3 hb hl (part_lenB h3 hs)).mono ?_
 rintro e w' ⟨o,he,hro,hb⟩
 exact⟨o,he,hro w' (fun _ _ _=>rfl),hb⟩
theorem implVtfeed_ok(c:List Value)(d:shVt.D)(v:Value)(l:List Int)(w:World)(G:List Nat)(hT:Tabs w)(h:Own shVt w 0 c d G)(hb:Reads (.sl .u8) w [v] l)(hl:l.length≤1048576)(hs:shVt.sz d≤1048576):
   Calls Tryd.prog 15 #[.agg c.toArray,v] w fun e w'=>∃ o F,e=.returned (.agg o.toArray)∧Own shVt w' w.heap.size o (feedA d l) F∧F.Nodup∧Below w.heap.size w w':=by
 obtain⟨a2,n2,c2,F0,a7,n7,c7,F2,a8,n8,c8,F3,rfl,_,o0,o2,o3⟩:=openO_Vt h
 obtain⟨_,_,_,hc,hg⟩:=open_Grid o0.reads
 simp only[List.cons.injEq,Value.slice.injEq,true_and,and_true] at hc
 obtain⟨rfl,rfl,rfl⟩:=hc
 obtain⟨bb,cm,rfl,_,_⟩:=reads_val hb
 exact implFeed_any _ _ _ _ _ _ _ a2 a7 a8 bb n2 c2 n7 c7 n8 c8 _ cm d.1.2.2.1 d.2.2.1 d.2.2.2.1 l w hT hg o2.reads o3.reads hb (nil_own o2) (nil_own o3) hl (part_lenB o3.reads hs)
theorem sz_feedA{w:World}{c:List Value}{d:shVt.D}{l:List Int}(h:Reads shVt w c d)(hl:∀ x ∈ l,0≤x∧x≤255):shVt.sz (feedA d l)≤1048576:=by
 cases hv:vtB d with
 | false =>
   rw[feedA_no hv]
   exact Nat.le_trans (Nat.le_of_eq (show shVt.sz zeroT=0 from rfl)) (Nat.zero_le _)
 | true =>
   rw[feedA_yes hv]
   exact sz_good (feed_good (good_reads h hv) hl)
theorem vtFeed_law(cs:List Value)(d:shVt.D)(v:Value)(l:List Int)(w:World)(hT:Tabs w)(hr:Reads shVt w cs d)(hb:Reads (.sl .u8) w [v] l):
   Calls Tryd.prog 4 #[.agg cs.toArray,v] w fun e w'=>e=.returned (.bool true)∧Below w.heap.size w w':=by
 have hl:∀ x ∈ l,0≤x∧x≤255:=by
   obtain⟨bb,cm,rfl,_,_⟩:=reads_val hb
   exact byte_bt (fun i=>(reads_bytes hb).2.1.1 i)
 exact vtFeed_over cs d v l (feedA d l) w hr hb (sz_feedA hr hl) (cntT _ (sz_feedA hr hl)) (cntT d) (fun h=>by rw[cnt_bytes];exact Nat.le_trans h (by decide))
   (fun w' c G c1 G1 h h1 hs hs1 hb=>specVtfeed_ok c d c1 l w' h.reads h1.reads hs1 hs)
   (fun w' c G c1 G1 h h1 hs hs1 hb=>implVtfeed_ok c d c1 l w' G (hT.later hb) h h1.reads hs1 hs)
end Go.Proofs.YthodinpflcbklaaDoor
