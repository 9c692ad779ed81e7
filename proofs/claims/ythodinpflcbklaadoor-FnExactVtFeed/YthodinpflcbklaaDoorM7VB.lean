/-
  Parts of the road to VB, joined: GrS, GrT, GrU, GrR, GrH, GrJ, GrW.
-/
import Derived.Test.YthodinpflcbklaaDoorM6VB
import Derived.Test.YthodinpflcbklaaDoorM0VB
import Derived.Laws.Rows
import Derived.Laws.Tables
import Derived.Laws.CopyOwn
import Derived.Deep.WholeRow
import Derived.Lib.SliceRun
import Derived.Lib.LazyBuf
open Go.Value renaming int → I,slice → Sz
open Go.IntKind renaming i64 → O
open List renaming setIfInBounds_toArray → lA,getElem_toArray → lB,getElem_cons_succ → lC,getElem_cons_zero → lD,set_cons_zero → lE,set_cons_succ → lF
set_option linter.unusedVariables false
set_option linter.unusedSimpArgs false
set_option maxHeartbeats 40000000
namespace Go.Proofs.YthodinpflcbklaaDoor
open Go.RowKit
theorem belowD{B:Nat}{w w':World}(h:Below B w w')(q:Nat):Below B w (w'.drewN q):=by
 induction q with
 | zero=>exact h
 | succ q ih=>exact ih.drew
theorem cellB_half0{c:List Int}{W k:Nat}(h:at0 c k=-1)(hm:k % W=0):cellB c W k=false:=by
 unfold cellB;rw[if_pos h,hm];rfl
theorem cellB_half{c:List Int}{W k:Nat}(h:at0 c k=-1)(hm:k % W≠0):cellB c W k=decide (wd (at0 c (k - 1))=2):=by
 unfold cellB;rw[if_pos h,decide_eq_true hm];rfl
theorem cellB_none{c:List Int}{W k:Nat}(h:at0 c k≠-1)(hw:wd (at0 c k)=0):cellB c W k=false:=by
 unfold cellB;rw[if_neg h,hw];simp
theorem cellB_one{c:List Int}{W k:Nat}(h:at0 c k≠-1)(hw:wd (at0 c k)=1):cellB c W k=true:=by
 unfold cellB;rw[if_neg h,hw];simp
theorem cellB_two{c:List Int}{W k:Nat}(h:at0 c k≠-1)(hw:wd (at0 c k)=2):cellB c W k=(decide (k % W≠W - 1)&&decide (at0 c (k+1)=-1)):=by
 unfold cellB;rw[if_neg h,hw];simp
theorem cellsB_succ{c:List Int}{W k:Nat}(h:cellsB c W k=true)(h':cellB c W k=true):cellsB c W (k+1)=true:=by
 rw[cellsB,h,h'];rfl
theorem not_last{W H k:Nat}(hW:1≤W)(hk:k < W*H)(hm:k % W≠W - 1):k+1 < W*H:=by
 rcases Nat.lt_or_ge (k+1) (W*H) with h | h
 · exact h
 · exfalso
   have e:k+1=W*H:=by omega
   have h1:(k+1) % W=0:=by rw[e];exact Nat.mul_mod_right _ _
   have h2:=Nat.div_add_mod k W
   have h3:=Nat.mod_lt k (show W > 0 by omega)
   have h4:k+1=(k % W+1)+W*(k / W):=by omega
   rw[h4,Nat.add_mul_mod_self_left,Nat.mod_eq_of_lt (by omega)] at h1
   omega
set_option maxRecDepth 100000 in
theorem specGok_three (W H b off c n:Nat) (x3 x4:Int) (x5:Bool) (zs:List Int) (w:World) (h1:2≤W) (h2:W≤200) (h3:1≤H) (h4:H≤200) (h5:(W:Int)*(H:Int)≤8000) (hn:n=W*H) (hl:zs.length=n) (hr:RdI w (some ⟨b,off,none⟩) zs) (hc:n≤c) (hm:c≤maxLen) :
   Calls Tryd.prog 52 #[.agg #[I O W,I O H,Sz (some ⟨b,off,none⟩) n c,I O x3,I O x4,.bool x5]] w fun e w'=>e=.returned (.bool (cellsB zs W n&&cursB W H x3 x4 x5))∧Below w.heap.size w w':=by
 unfold maxLen at hm
 have hpr:(W:Int)*(H:Int)=(n:Int):=by rw[hn];simp
 have hbd:=mul_bd (x:=W) (y:=H) (by omega) (by omega) (by omega) (by omega)
 rw[hpr] at hbd h5
 have w1':IntKind.i64.wrap (n:Int)=(n:Int):=wrap_i64_in _ (by omega) (by omega)
 have HN:Hid (n=W*H∧zs.length=n):=⟨hn,hl⟩
 obtain⟨W0,hW0⟩:∃ W0,W0=w.alloc (.cells #[I O W,I O H,Sz (some ⟨b,off,none⟩) n c,I O x3,I O x4,.bool x5] 29):=⟨_,rfl⟩
 have bW0:Below w.heap.size w W0:=by rw[hW0];exact(Below.refl _ _).alloc (Nat.le_refl _) _
 have hbox:W0.heap[w.heap.size]?=some (.cells #[I O W,I O H,Sz (some ⟨b,off,none⟩) n c,I O x3,I O x4,.bool x5] 29 (0,0)):=by rw[hW0];exact heap_alloc_new w _
 have zW0:W0.heap.size=w.heap.size+1:=by rw[hW0];simp
 have HW0:Hid (W0=_):=hW0
 have HBX:Hid (∀ w',Below W0.heap.size W0 w'→w'.heap[w.heap.size]?=some (.cells #[I O W,I O H,Sz (some ⟨b,off,none⟩) n c,I O x3,I O x4,.bool x5] 29 (0,0))):=fun w' h'=>(h'.block _ (by omega)).trans hbox
 have HC:Hid (∀ w',Below W0.heap.size W0 w'→∀ i,i < n→w'.cell? ⟨b,off+i,none⟩=some (I O (at0 zs i))):=fun w' h' i hi=>by
   rcases (hr.later bW0).later h' with h | ⟨b',off',he,hb,hcc⟩
   · rw[h] at hl;simp at hl;omega
   · obtain⟨rfl,rfl⟩:b=b'∧off=off':=by simpa using he
     exact hcc i (by omega)
 have HB0:Hid (Below w.heap.size w W0):=bW0
 have lW:¬ ((W:Int) < 2):=by omega
 have lW2:¬ (200 < (W:Int)):=by omega
 have lH:¬ ((H:Int) < 1):=by omega
 have lH2:¬ (200 < (H:Int)):=by omega
 have lP:¬ (8000 < (n:Int)):=by omega
 have lN:((n:Int) != (n:Int))=false:=by simp
 have w2':IntKind.i64.wrap ((W:Int) - 1)=(W:Int) - 1:=wrap_i64_in _ (by omega) (by omega)
 have hW0':((W:Int)==0)=false:=by simp;omega
 clear hW0 hbox hn hl hr h5
 go_enter Tryd.func52,Tryd.ntmps52
 go_wp2
 rw[← HW0.out]
 go_loopw [47] (fun i wr=>∃ k:Nat,k≤n∧i=I O k∧Hid (cellsB zs W k=true)∧Below W0.heap.size W0 wr) (fun i _=>n - (intOf i).toNat)
 case atStart=>exact⟨0,Nat.zero_le _,rfl,rfl,Below.refl _ _⟩
 case round =>
   obtain⟨k,hk,rfl,hB,hbel⟩:=hrel
   have i1:=HBX.out wr hbel
   have zr:=hbel.size
   have y0:wr.cell? ⟨w.heap.size,0,none⟩=some (I O W):=bxc i1 rfl
   have y1:wr.cell? ⟨w.heap.size,1,none⟩=some (I O H):=bxc i1 rfl
   have y2:wr.cell? ⟨w.heap.size,2,none⟩=some (Sz (some ⟨b,off,none⟩) n c):=bxc i1 rfl
   by_cases hlt:k < n
   · obtain⟨r,hr⟩:∃ r,r=at0 zs k:=⟨_,rfl⟩
     have hcell:wr.cell? ⟨b,off+k,none⟩=some (I O r):=by rw[hr];exact HC.out wr hbel k hlt
     obtain⟨m,hm'⟩:∃ m,m=k % W:=⟨_,rfl⟩
     have hmod:(k:Int) % (W:Int)=(m:Int):=by rw[hm'];simp
     have hmW:m < W:=by rw[hm'];exact Nat.mod_lt _ (by omega)
     have HE:Hid (at0 zs k=r∧k % W=m):=⟨hr.symm,hm'.symm⟩
     clear hr hm' i1
     by_cases hr1:r=-1
     · subst hr1
       by_cases hm0:m=0
       · have E:Hid ((cellsB zs W n&&cursB W H x3 x4 x5)=false):=by show _=_;rw[cellsB_no (cellB_half0 HE.out.1 (by rw[HE.out.2,hm0])) hlt];rfl
         subst hm0
         have hmod0:(k:Int) % (W:Int)=0:=hmod
         clear hmod
         go_wp2
         go_quiet (fail)
         go_wp2
         go_ret
         exact⟨by rw[E.out];rfl,HB0.out.trans ((belowD hbel _).mono HB0.out.size)⟩
       · have hk0:k≠0:=by intro h;have h2:=HE.out.2;rw[h,Nat.zero_mod] at h2;omega
         obtain⟨l,hl⟩:∃ l,k=l+1:=⟨k - 1,by omega⟩
         have hk1:(k:Int) - 1=(l:Int):=by omega
         have hln:(l:Int) < (n:Int):=by omega
         have wl:IntKind.i64.wrap (l:Int)=(l:Int):=wrap_i64_in _ (by omega) (by omega)
         have hm1:((m:Int)==0)=false:=by simp;omega
         obtain⟨p,hp⟩:∃ p,p=at0 zs l:=⟨_,rfl⟩
         have hcl:wr.cell? ⟨b,off+l,none⟩=some (I O p):=by rw[hp];exact HC.out wr hbel l (by omega)
         obtain⟨d,hd⟩:∃ d,d=wd p:=⟨_,rfl⟩
         have qd:Hid (∀ w',Calls Tryd.prog 69 #[I O p] w' fun e w''=>e=.returned (I O d)∧Below w'.heap.size w' w''):=fun w'=>by rw[hd];exact specWid_any p w'
         have HP:Hid (cellB zs W k=decide (d=2)):=by show _=_;rw[cellB_half HE.out.1 (by rw[HE.out.2];exact hm0),hd,hp,show k - 1=l by omega]
         clear hd hp hl
         by_cases hd2:d=2
         · subst hd2
           have HX:Hid (cellsB zs W (k+1)=true):=cellsB_succ hB.out (by rw[HP.out];rfl)
           go_wp2
           go_quiet (fail)
           go_wp2_with fail
           refine(qd.out _).mono ?_
           rintro e w1 ⟨rfl,hb1⟩
           have bel1:=(belowD hbel _).trans (hb1.mono (belowD hbel _).size)
           clear hb1
           go_wp2
           go_roundw
           case rel=>exact⟨k+1,by omega,by go_num,HX,bel1⟩
           case measure=>simp[intOf];omega
         · have E:Hid ((cellsB zs W n&&cursB W H x3 x4 x5)=false):=by show _=_;rw[cellsB_no (by rw[HP.out];exact decide_eq_false hd2) hlt];rfl
           have hd3:(d != 2)=true:=by simpa using hd2
           clear hd2
           go_wp2
           go_quiet (fail)
           go_wp2_with fail
           refine(qd.out _).mono ?_
           rintro e w1 ⟨rfl,hb1⟩
           have bel1:=(belowD hbel _).trans (hb1.mono (belowD hbel _).size)
           clear hb1
           go_wp2
           go_ret
           exact⟨by rw[E.out];rfl,HB0.out.trans (bel1.mono HB0.out.size)⟩
     · have hr2:(r==-1)=false:=by simpa using hr1
       obtain⟨d,hd⟩:∃ d,d=wd r:=⟨_,rfl⟩
       have qd:Hid (∀ w',Calls Tryd.prog 69 #[I O r] w' fun e w''=>e=.returned (I O d)∧Below w'.heap.size w' w''):=fun w'=>by rw[hd];exact specWid_any r w'
       have hd3:d=0∨d=1∨d=2:=by have:=wd_bd r;omega
       have hne:at0 zs k≠-1:=by rw[HE.out.1];exact hr1
       rcases hd3 with hd0 | hd0 | hd0
       · have E:Hid ((cellsB zs W n&&cursB W H x3 x4 x5)=false):=by show _=_;rw[cellsB_no (cellB_none hne (by rw[HE.out.1,← hd];exact hd0)) hlt];rfl
         subst hd0
         clear hd hne hr1
         go_wp2
         go_quiet (fail)
         go_wp2_with fail
         refine(qd.out _).mono ?_
         rintro e w1 ⟨rfl,hb1⟩
         have bel1:=(belowD hbel _).trans (hb1.mono (belowD hbel _).size)
         clear hb1
         go_wp2
         go_ret
         exact⟨by rw[E.out];rfl,HB0.out.trans (bel1.mono HB0.out.size)⟩
       · have HX:Hid (cellsB zs W (k+1)=true):=cellsB_succ hB.out (cellB_one hne (by rw[HE.out.1,← hd];exact hd0))
         subst hd0
         clear hd hne hr1
         go_wp2
         go_quiet (fail)
         go_wp2_with fail
         refine(qd.out _).mono ?_
         rintro e w1 ⟨rfl,hb1⟩
         have bel1:=(belowD hbel _).trans (hb1.mono (belowD hbel _).size)
         clear hb1
         go_wp2
         go_roundw
         case rel=>exact⟨k+1,by omega,by go_num,HX,bel1⟩
         case measure=>simp[intOf];omega
       · have hc2:=cellB_two (W:=W) hne (by rw[HE.out.1,← hd];exact hd0)
         rw[HE.out.2] at hc2
         have HC2:Hid (_=_):=hc2
         subst hd0
         clear hd hne hr1 hc2
         by_cases hlast:m=W - 1
         · have E:Hid ((cellsB zs W n&&cursB W H x3 x4 x5)=false):=by show _=_;rw[cellsB_no (by rw[HC2.out,hlast];simp) hlt];rfl
           have hla:((m:Int)==(W:Int) - 1)=true:=by simp;omega
           clear hlast
           go_wp2
           go_quiet (fail)
           go_wp2_with fail
           refine(qd.out _).mono ?_
           rintro e w1 ⟨rfl,hb1⟩
           have bel1:=(belowD hbel _).trans (hb1.mono (belowD hbel _).size)
           clear hb1
           go_wp2
           go_ret
           exact⟨by rw[E.out];rfl,HB0.out.trans (bel1.mono HB0.out.size)⟩
         · have hla:((m:Int)==(W:Int) - 1)=false:=by simp;omega
           have hk2:k+1 < n:=by rw[HN.out.1];exact not_last (by omega) (by rw[← HN.out.1];exact hlt) (by rw[HE.out.2];exact hlast)
           have hk3:(k:Int)+1 < (n:Int):=by omega
           obtain⟨p,hp⟩:∃ p,p=at0 zs (k+1):=⟨_,rfl⟩
           have HP:Hid (cellB zs W k=decide (p=-1)):=by show _=_;rw[HC2.out,decide_eq_true hlast,hp];rfl
           have HCP:Hid (∀ w',Below W0.heap.size W0 w'→w'.cell? ⟨b,off+(k+1),none⟩=some (I O p)):=fun w' h'=>by rw[hp];exact HC.out w' h' (k+1) hk2
           clear hlast hp hk2
           by_cases hp1:p=-1
           · subst hp1
             have HX:Hid (cellsB zs W (k+1)=true):=cellsB_succ hB.out (by rw[HP.out];rfl)
             go_wp2
             go_quiet (fail)
             go_wp2_with fail
             refine(qd.out _).mono ?_
             rintro e w1 ⟨rfl,hb1⟩
             have bel1:=(belowD hbel _).trans (hb1.mono (belowD hbel _).size)
             clear hb1
             have hcp:=HCP.out w1 bel1
             have i2:=HBX.out w1 bel1
             have y2':w1.cell? ⟨w.heap.size,2,none⟩=some (Sz (some ⟨b,off,none⟩) n c):=bxc i2 rfl
             clear i2 y0 y1 y2 hcell
             go_wp2
             go_roundw
             case rel=>exact⟨k+1,by omega,by go_num,HX,bel1⟩
             case measure=>simp[intOf];omega
           · have E:Hid ((cellsB zs W n&&cursB W H x3 x4 x5)=false):=by show _=_;rw[cellsB_no (by rw[HP.out];exact decide_eq_false hp1) hlt];rfl
             have hp2:(p != -1)=true:=by simpa using hp1
             clear hp1
             go_wp2
             go_quiet (fail)
             go_wp2_with fail
             refine(qd.out _).mono ?_
             rintro e w1 ⟨rfl,hb1⟩
             have bel1:=(belowD hbel _).trans (hb1.mono (belowD hbel _).size)
             clear hb1
             have hcp:=HCP.out w1 bel1
             have i2:=HBX.out w1 bel1
             have y2':w1.cell? ⟨w.heap.size,2,none⟩=some (Sz (some ⟨b,off,none⟩) n c):=bxc i2 rfl
             clear i2 y0 y1 y2 hcell
             go_wp2
             go_ret
             exact⟨by rw[E.out];rfl,HB0.out.trans (bel1.mono HB0.out.size)⟩
   · have e:k=n:=by omega
     rw[e] at hB
     have E0:Hid ((cellsB zs W n&&cursB W H x3 x4 x5)=cursB W H x3 x4 x5):=by show _=_;rw[hB.out];rfl
     have hkn:¬ ((k:Int) < (n:Int)):=by omega
     have y3:wr.cell? ⟨w.heap.size,3,none⟩=some (I O x3):=bxc i1 rfl
     have y4:wr.cell? ⟨w.heap.size,4,none⟩=some (I O x4):=bxc i1 rfl
     have y5:wr.cell? ⟨w.heap.size,5,none⟩=some (.bool x5):=bxc i1 rfl
     clear i1 e
     have hc:x3 < 0∨(0≤x3∧(W:Int)≤x3)∨(0≤x3∧x3 < (W:Int)∧x4 < 0)∨(0≤x3∧x3 < (W:Int)∧0≤x4∧(H:Int)≤x4)∨(0≤x3∧x3 < (W:Int)∧0≤x4∧x4 < (H:Int)):=by omega
     rcases hc with h | ⟨g1,h⟩ | ⟨g1,g2,h⟩ | ⟨g1,g2,g3,h⟩ | ⟨g1,g2,g3,g4⟩
     · have E:Hid ((cellsB zs W n&&cursB W H x3 x4 x5)=false):=by
         show _=_
         rw[E0.out]
         cases hs:cursB W H x3 x4 x5 with
         | false=>rfl
         | true=>exact absurd (cursB_iff.1 hs).1 (by omega)
       have d0:decide (0≤x3)=false:=decide_eq_false (by omega)
       go_wp2
       go_ret
       exact⟨by rw[E.out];rfl,HB0.out.trans (hbel.mono HB0.out.size)⟩
     · have E:Hid ((cellsB zs W n&&cursB W H x3 x4 x5)=false):=by
         show _=_
         rw[E0.out]
         cases hs:cursB W H x3 x4 x5 with
         | false=>rfl
         | true=>exact absurd (cursB_iff.1 hs).2.1 (by omega)
       have d0:decide (0≤x3)=true:=decide_eq_true g1
       have d1:decide (x3 < (W:Int))=false:=decide_eq_false (by omega)
       go_wp2
       go_ret
       exact⟨by rw[E.out];rfl,HB0.out.trans (hbel.mono HB0.out.size)⟩
     · have E:Hid ((cellsB zs W n&&cursB W H x3 x4 x5)=false):=by
         show _=_
         rw[E0.out]
         cases hs:cursB W H x3 x4 x5 with
         | false=>rfl
         | true=>exact absurd (cursB_iff.1 hs).2.2.1 (by omega)
       have d0:decide (0≤x3)=true:=decide_eq_true g1
       have d1:decide (x3 < (W:Int))=true:=decide_eq_true g2
       have d2:decide (0≤x4)=false:=decide_eq_false (by omega)
       go_wp2
       go_ret
       exact⟨by rw[E.out];rfl,HB0.out.trans (hbel.mono HB0.out.size)⟩
     · have E:Hid ((cellsB zs W n&&cursB W H x3 x4 x5)=false):=by
         show _=_
         rw[E0.out]
         cases hs:cursB W H x3 x4 x5 with
         | false=>rfl
         | true=>exact absurd (cursB_iff.1 hs).2.2.2.1 (by omega)
       have d0:decide (0≤x3)=true:=decide_eq_true g1
       have d1:decide (x3 < (W:Int))=true:=decide_eq_true g2
       have d2:decide (0≤x4)=true:=decide_eq_true g3
       have d3:decide (x4 < (H:Int))=false:=decide_eq_false (by omega)
       go_wp2
       go_ret
       exact⟨by rw[E.out];rfl,HB0.out.trans (hbel.mono HB0.out.size)⟩
     · have hp:placeB W H x3 x4=true:=placeB_iff.2 ⟨g1,g2,g3,g4⟩
       have d0:decide (0≤x3)=true:=decide_eq_true g1
       have d1:decide (x3 < (W:Int))=true:=decide_eq_true g2
       have d2:decide (0≤x4)=true:=decide_eq_true g3
       have d3:decide (x4 < (H:Int))=true:=decide_eq_true g4
       have h6:x5=false∨(x5=true∧x3=(W:Int) - 1)∨(x5=true∧x3≠(W:Int) - 1):=by cases x5 <;> simp;omega
       rcases h6 with h6 | ⟨h6,h7⟩ | ⟨h6,h7⟩
       · have E:Hid ((cellsB zs W n&&cursB W H x3 x4 x5)=true):=by show _=_;rw[E0.out];unfold cursB;rw[hp,h6];rfl
         subst h6
         clear hp
         go_wp2
         go_ret
         exact⟨by rw[E.out];rfl,HB0.out.trans (hbel.mono HB0.out.size)⟩
       · have E:Hid ((cellsB zs W n&&cursB W H x3 x4 x5)=true):=by show _=_;rw[E0.out];unfold cursB;rw[hp,h6,decide_eq_true h7];rfl
         subst h6
         have h8:(x3==(W:Int) - 1)=true:=by simp[h7]
         clear hp h7
         go_wp2
         go_ret
         exact⟨by rw[E.out];rfl,HB0.out.trans (hbel.mono HB0.out.size)⟩
       · have E:Hid ((cellsB zs W n&&cursB W H x3 x4 x5)=false):=by show _=_;rw[E0.out];unfold cursB;rw[hp,h6,decide_eq_false h7];rfl
         subst h6
         have h8:(x3==(W:Int) - 1)=false:=by simp[h7]
         clear hp h7
         go_wp2
         go_ret
         exact⟨by rw[E.out];rfl,HB0.out.trans (hbel.mono HB0.out.size)⟩
end Go.Proofs.YthodinpflcbklaaDoor
namespace Go.Proofs.YthodinpflcbklaaDoor
open Go.RowKit
set_option maxRecDepth 100000 in
theorem specGok_any (x0 x1 x3 x4:Int) (a:Option Addr) (n c:Nat) (x5:Bool) (zs:List Int) (w:World) (hr:Reads (.sl .int) w [Sz a n c] zs) :
   Calls Tryd.prog 52 #[.agg #[I O x0,I O x1,Sz a n c,I O x3,I O x4,.bool x5]] w fun e w'=>e=.returned (.bool (gokB (x0,x1,zs,x3,x4,x5,())))∧Below w.heap.size w w':=by
 obtain⟨hl,hrd,hc,hm⟩:=reads_ints hr
 have HM:Hid (c≤maxLen):=hm
 unfold maxLen at hm
 have HR:Hid (RdI w a zs∧zs.length=n):=⟨hrd,hl⟩
 clear hr hrd hl
 have hcs:x0 < 2∨(2≤x0∧200 < x0)∨(2≤x0∧x0≤200∧x1 < 1)∨(2≤x0∧x0≤200∧1≤x1∧200 < x1)∨(2≤x0∧x0≤200∧1≤x1∧x1≤200∧8000 < x0*x1)∨(2≤x0∧x0≤200∧1≤x1∧x1≤200∧x0*x1≤8000∧(n:Int)≠x0*x1)∨(2≤x0∧x0≤200∧1≤x1∧x1≤200∧x0*x1≤8000∧(n:Int)=x0*x1):=by omega
 rcases hcs with h | ⟨h1,h⟩ | ⟨h1,h2,h⟩ | ⟨h1,h2,h3,h⟩ | ⟨h1,h2,h3,h4,h⟩ | ⟨h1,h2,h3,h4,h5,h⟩ | ⟨h1,h2,h3,h4,h5,h⟩
 · have E:Hid (gokB (x0,x1,zs,x3,x4,x5,())=false):=gok_no1 (by cases hs:sidesB x0 x1 with | false=>rfl | true=>exact absurd (sidesB_iff.1 hs).1 (by omega))
   have t0:decide (x0 < 2)=true:=decide_eq_true (by omega)
   go_enter Tryd.func52,Tryd.ntmps52
   go_wp2
   go_ret
   exact⟨by rw[E.out];rfl,(Below.refl _ _).alloc (Nat.le_refl _) _⟩
 · have E:Hid (gokB (x0,x1,zs,x3,x4,x5,())=false):=gok_no1 (by cases hs:sidesB x0 x1 with | false=>rfl | true=>exact absurd (sidesB_iff.1 hs).2.1 (by omega))
   have t0:decide (x0 < 2)=false:=decide_eq_false (by omega)
   have t1:decide (200 < x0)=true:=decide_eq_true (by omega)
   go_enter Tryd.func52,Tryd.ntmps52
   go_wp2
   go_ret
   exact⟨by rw[E.out];rfl,(Below.refl _ _).alloc (Nat.le_refl _) _⟩
 · have E:Hid (gokB (x0,x1,zs,x3,x4,x5,())=false):=gok_no1 (by cases hs:sidesB x0 x1 with | false=>rfl | true=>exact absurd (sidesB_iff.1 hs).2.2.1 (by omega))
   have t0:decide (x0 < 2)=false:=decide_eq_false (by omega)
   have t1:decide (200 < x0)=false:=decide_eq_false (by omega)
   have t2:decide (x1 < 1)=true:=decide_eq_true (by omega)
   go_enter Tryd.func52,Tryd.ntmps52
   go_wp2
   go_ret
   exact⟨by rw[E.out];rfl,(Below.refl _ _).alloc (Nat.le_refl _) _⟩
 · have E:Hid (gokB (x0,x1,zs,x3,x4,x5,())=false):=gok_no1 (by cases hs:sidesB x0 x1 with | false=>rfl | true=>exact absurd (sidesB_iff.1 hs).2.2.2.1 (by omega))
   have t0:decide (x0 < 2)=false:=decide_eq_false (by omega)
   have t1:decide (200 < x0)=false:=decide_eq_false (by omega)
   have t2:decide (x1 < 1)=false:=decide_eq_false (by omega)
   have t3:decide (200 < x1)=true:=decide_eq_true (by omega)
   go_enter Tryd.func52,Tryd.ntmps52
   go_wp2
   go_ret
   exact⟨by rw[E.out];rfl,(Below.refl _ _).alloc (Nat.le_refl _) _⟩
 · have E:Hid (gokB (x0,x1,zs,x3,x4,x5,())=false):=gok_no1 (by cases hs:sidesB x0 x1 with | false=>rfl | true=>exact absurd (sidesB_iff.1 hs).2.2.2.2 (by omega))
   have hbd:=mul_bd h1 h2 h3 h4
   obtain⟨q,hq⟩:∃ q,x0*x1=q:=⟨_,rfl⟩
   rw[hq] at hbd h
   have wq:IntKind.i64.wrap q=q:=wrap_i64_in _ (by omega) (by omega)
   have t0:decide (x0 < 2)=false:=decide_eq_false (by omega)
   have t1:decide (200 < x0)=false:=decide_eq_false (by omega)
   have t2:decide (x1 < 1)=false:=decide_eq_false (by omega)
   have t3:decide (200 < x1)=false:=decide_eq_false (by omega)
   have t4:decide (8000 < q)=true:=decide_eq_true (by omega)
   go_enter Tryd.func52,Tryd.ntmps52
   go_wp2
   go_ret
   exact⟨by rw[E.out];rfl,(Below.refl _ _).alloc (Nat.le_refl _) _⟩
 · have E:Hid (gokB (x0,x1,zs,x3,x4,x5,())=false):=gok_no2 (by rw[HR.out.2];exact h)
   have hbd:=mul_bd h1 h2 h3 h4
   obtain⟨q,hq⟩:∃ q,x0*x1=q:=⟨_,rfl⟩
   rw[hq] at hbd h h5
   have wq:IntKind.i64.wrap q=q:=wrap_i64_in _ (by omega) (by omega)
   have t0:decide (x0 < 2)=false:=decide_eq_false (by omega)
   have t1:decide (200 < x0)=false:=decide_eq_false (by omega)
   have t2:decide (x1 < 1)=false:=decide_eq_false (by omega)
   have t3:decide (200 < x1)=false:=decide_eq_false (by omega)
   have t4:decide (8000 < q)=false:=decide_eq_false (by omega)
   have t5:((n:Int) != q)=true:=by simpa using h
   clear h
   go_enter Tryd.func52,Tryd.ntmps52
   go_wp2
   go_ret
   exact⟨by rw[E.out];rfl,(Below.refl _ _).alloc (Nat.le_refl _) _⟩
 · obtain⟨W,rfl⟩:∃ W:Nat,x0=W:=⟨x0.toNat,by omega⟩
   obtain⟨H,rfl⟩:∃ H:Nat,x1=H:=⟨x1.toNat,by omega⟩
   have hn:n=W*H:=by exact_mod_cast h
   have hbd:=mul_bd h1 h2 h3 h4
   have hne:zs≠[]:=by
     intro h';have h0:=HR.out.2;subst h'
     have h8:0=n:=h0
     omega
   obtain⟨b,off,rfl,hb,_⟩:=HR.out.1.resolve_left hne
   rw[gok_three (sidesB_iff.2 ⟨h1,h2,h3,h4,h5⟩) (by rw[HR.out.2];exact hn),← hn]
   exact specGok_three W H b off c n x3 x4 x5 zs w (by omega) (by omega) (by omega) (by omega) h5 hn HR.out.2 HR.out.1 hc HM.out
end Go.Proofs.YthodinpflcbklaaDoor
namespace Go.Proofs.YthodinpflcbklaaDoor
open Go.RowKit
theorem gok_parts{x0 x1 x3 x4:Int}{x5:Bool}{zs:List Int}(h:gokB (x0,x1,zs,x3,x4,x5,())=true):
   ∃ W H:Nat,x0=W∧x1=H∧2≤W∧W≤200∧1≤H∧H≤200∧W*H≤8000∧zs.length=W*H∧cellsB zs W (W*H)=true∧cursB W H x3 x4 x5=true:=by
 unfold gokB at h
 simp only[Bool.and_eq_true,decide_eq_true_eq] at h
 obtain⟨⟨⟨hs,hl⟩,hc⟩,hk⟩:=h
 obtain⟨h1,h2,h3,h4,h5⟩:=sidesB_iff.1 hs
 obtain⟨W,rfl⟩:∃ W:Nat,x0=W:=⟨x0.toNat,by omega⟩
 obtain⟨H,rfl⟩:∃ H:Nat,x1=H:=⟨x1.toNat,by omega⟩
 have e:((W*H:Nat):Int)=(W:Int)*(H:Int):=by simp
 have hn:zs.length=W*H:=by omega
 refine⟨W,H,rfl,rfl,by omega,by omega,by omega,by omega,by omega,hn,?_,hk⟩
 rw[Int.toNat_natCast,hn] at hc
 exact hc
theorem wd_in{r:Int}(h:wd r≠0):0≤r∧r≤1114111:=by
 unfold wd at h
 split at h
 · rename_i hp
   unfold prn at hp
   simp only[Bool.and_eq_true] at hp
   have:=hp.1
   unfold rok at this
   simp at this
   omega
 · exact absurd rfl h
theorem cell_in{c:List Int}{W i:Nat}(h:cellB c W i=true):-1≤at0 c i∧at0 c i≤1114111:=by
 unfold cellB at h
 split at h
 · omega
 · have:wd (at0 c i)≠0:=by
     intro h0;rw[h0] at h;simp at h
   have:=wd_in this
   omega
theorem cells_in{c:List Int}{W n i:Nat}(h:cellsB c W n=true)(hi:i < n):-1≤at0 c i∧at0 c i≤1114111:=cell_in (cellsB_lt h hi)
end Go.Proofs.YthodinpflcbklaaDoor
namespace Go.Proofs.YthodinpflcbklaaDoor
open Go.RowKit
def up(k:Int)(zs:List Int):List Int:=zs.map (·+k)
theorem up_len(k:Int)(zs:List Int):(up k zs).length=zs.length:=by simp[up]
theorem up_at{k:Int}{zs:List Int}{i:Nat}(h:i < zs.length):at0 (up k zs) i=at0 zs i+k:=by
 simp[up,at0,h]
theorem up_up(k:Int)(zs:List Int):up k (up (-k) zs)=zs:=by
 unfold up
 rw[List.map_map]
 have:((fun x:Int=>x+k) ∘ fun x:Int=>x+-k)=id:=by
   funext x;simp;omega
 rw[this,List.map_id]
theorem raised_any(a:Option Addr)(n cap:Nat)(zs:List Int)(by_:Int)(w:World)(hl:Hid (zs.length=n))(hr:RdI w a zs)(hn:n≤1048576)(hz:∀ i,i < n→-1000000000≤at0 zs i∧at0 zs i≤1000000000)(hk0:-1000≤by_)(hk1:by_≤1000):
   Calls Tryd.prog 73 #[Sz a n cap,I O by_] w fun e w'=>e=.returned (Sz (some ⟨w.heap.size,0,none⟩) n n) ∧
     w'.ownsRow w.heap.size 3 1 (Sz (some ⟨w.heap.size,0,none⟩) n n) n ((up by_ zs).map (Value.int .i64))∧Below w.heap.size w w':=by
 obtain⟨i0,hi,hz0,hz1,hz2⟩:=info_parts Tryd.infoI
 have HZ:Hid (∀ i,i < n→-1000000000≤at0 zs i∧at0 zs i≤1000000000):=hz
 clear hz
 go_enter Tryd.func73,Tryd.ntmps73
 go_wp2_with (at_make;refine wpList_make_full _ rfl _ _ 22 rfl w.heap.size 3 i0 (I O 0) 1 Tryd.underlying22 hi hz0 hz1 _ _ _ _ n rfl rfl rfl rfl ?b2 ?b3 (Nat.le_refl _) ?_)
 case b2=>rw[hz2];omega
 case b3=>unfold maxLen;omega
 intro w0 hown0 hgrow0
 rw[halfI_zero (up by_ zs)] at hown0
 go_wp2
 go_loopw [13] (fun i wr=>∃ k:Nat,k≤n∧i=I O k∧wr.ownsRow w.heap.size 3 1 (Sz (some ⟨w.heap.size,0,none⟩) n n) n ((halfI (up by_ zs) n k).map (Value.int .i64))∧Below w.heap.size w wr)
   (fun i _=>n - (intOf i).toNat)
 case atStart=>exact⟨0,Nat.zero_le _,rfl,hown0,(Below.refl _ _).grown hgrow0 (Nat.le_refl _) (fun k h=>by cases h)⟩
 case round =>
   obtain⟨k,hk,rfl,hown,hb⟩:=hrel
   by_cases hlt:k < n
   · obtain⟨b,off,rfl,hbl,hc⟩:∃ b off,a=some ⟨b,off,none⟩∧b < w.heap.size∧∀ i,i < n→w.cell? ⟨b,off+i,none⟩=some (I O (at0 zs i)):=by
       rcases hr with h | ⟨b,off,h1,h2,h3⟩
       · have:=hl.out;subst h;simp at this;omega
       · exact⟨b,off,h1,h2,fun i hi=>h3 i (by have:=hl.out;omega)⟩
     obtain⟨x,hx⟩:∃ x,x=at0 zs k:=⟨_,rfl⟩
     have hcr:wr.cell? ⟨b,off+k,none⟩=some (I O x):=by rw[hx];exact(hb.cell (p:=⟨b,off+k,none⟩) hbl).trans (hc k hlt)
     have hzk:=HZ.out k hlt
     rw[← hx] at hzk
     obtain⟨y,hy⟩:∃ y,x+by_=y:=⟨_,rfl⟩
     have hyz:(up by_ zs)[k]?.getD 0=y:=by
       have:=up_at (k:=by_) (zs:=zs) (i:=k) (by have:=hl.out;omega)
       rw[← hy,hx,← this];rfl
     have wy:IntKind.i64.wrap y=y:=by simp[IntKind.wrap,IntKind.bits,IntKind.signed];omega
     have hfz:=hown.frozenAt k
     have hco:∃ u,wr.cell? ⟨w.heap.size,k,none⟩=some u:=by rw[hown.cellAt k (by omega)];exact⟨_,List.getElem?_eq_getElem (by simp[halfI];omega)⟩
     obtain⟨u,hco⟩:=hco
     have hst:=hown.stored k (I O y)
     rw[← hyz,halfI_set (up by_ zs) n k hlt,hyz] at hst
     have HS:Hid (_∧_):=hst
     have hbs:Below w.heap.size w (wr.setCell ⟨w.heap.size,k,none⟩ (I O y)):=hb.setCell (Nat.le_refl _) _
     clear hst hc hx hyz hzk
     go_wp2
     go_roundw
     case rel=>exact⟨k+1,by omega,by go_num,HS.out.1,hbs⟩
     case measure=>simp[intOf];omega
   · have e:k=n:=by omega
     subst e
     rw[halfI_full (up by_ zs) k (by rw[up_len];exact hl.out)] at hown
     go_wp2
     go_ret
     exact⟨rfl,hown,hb⟩
end Go.Proofs.YthodinpflcbklaaDoor
namespace Go.Proofs.YthodinpflcbklaaDoor
open Go.RowKit
structure SheetAt (w:World) (B p g n:Nat) (W H X Y:Int) (wr:Bool) (zs:List Int):Prop where
 box:w.heap[p]?=some (.cells #[I O W,I O H,Sz (some ⟨g,0,none⟩) n n,I O X,I O Y,.bool wr] 84 (0,0))
 row:w.ownsRow B 3 1 (Sz (some ⟨g,0,none⟩) n n) n (zs.map (Value.int .i64))
 len:zs.length=n
 lo:B≤p
 ne:p≠g
theorem box_lt{w:World}{b:Nat}{o:Obj}(h:w.heap[b]?=some o):b < w.heap.size:=by
 rcases Nat.lt_or_ge b w.heap.size with h' | h'
 · exact h'
 · rw[Array.getElem?_eq_none h'] at h;cases h
theorem SheetAt.later{w w':World}{B p g n:Nat}{W H X Y:Int}{wr:Bool}{zs:List Int}(h:SheetAt w B p g n W H X Y wr zs)(hb:Below w.heap.size w w'):SheetAt w' B p g n W H X Y wr zs:=
 ⟨(hb.block _ (box_lt h.box)).trans h.box,own_later h.row hb,h.len,h.lo,h.ne⟩
theorem own_off{w:World}{B n g c:Nat}{e:TypeId}{size:Nat}{m:Nat}{xs:List Value}(h:w.ownsRow B e size (Sz (some ⟨g,0,none⟩) m c) n xs)(b j:Nat)(u:Value)(hb:b≠g):(w.setCell ⟨b,j,none⟩ u).ownsRow B e size (Sz (some ⟨g,0,none⟩) m c) n xs:=by
 refine⟨h.1,?_⟩
 rcases h.2 with h1 | ⟨g',cap,cur,hv,hg,hh,r⟩
 · exact .inl h1
 · have hv':=hv
   simp only[Value.slice.injEq,Option.some.injEq,Addr.mk.injEq,and_true] at hv
   exact .inr ⟨g',cap,cur,hv',hg,(box_other u (by omega)).trans hh,r⟩
theorem own_low{w:World}{B B' n g c:Nat}{e:TypeId}{size:Nat}{m:Nat}{xs:List Value}(h:w.ownsRow B e size (Sz (some ⟨g,0,none⟩) m c) n xs)(hB:B'≤B):w.ownsRow B' e size (Sz (some ⟨g,0,none⟩) m c) n xs:=by
 refine⟨h.1,?_⟩
 rcases h.2 with h1 | ⟨g',cap,cur,hv,hg,r⟩
 · exact .inl h1
 · exact .inr ⟨g',cap,cur,hv,Nat.le_trans hB hg,r⟩
theorem raised_ex(a:Option Addr)(n cap B:Nat)(zs:List Int)(k:Int)(w:World)(hB:B≤w.heap.size)(hl:zs.length=n)(hr:RdI w a zs)(hn:n≤1048576)(hz:∀ i,i < n→-1000000000≤at0 zs i∧at0 zs i≤1000000000)(hk0:-1000≤k)(hk1:k≤1000):
   Calls Tryd.prog 73 #[Sz a n cap,I O k] w fun e w'=>∃ g,e=.returned (Sz (some ⟨g,0,none⟩) n n)∧w.heap.size≤g ∧
     w'.ownsRow B 3 1 (Sz (some ⟨g,0,none⟩) n n) n ((up k zs).map (Value.int .i64))∧Below w.heap.size w w':=by
 refine(raised_any a n cap zs k w hl hr hn hz hk0 hk1).mono ?_
 rintro e w' ⟨rfl,ho,hb⟩
 exact⟨_,rfl,Nat.le_refl _,own_low ho hB,hb⟩
set_option maxRecDepth 100000 in
theorem sheetOf_any (x0 x1 x3 x4:Int) (a:Option Addr) (n c:Nat) (x5:Bool) (zs:List Int) (w:World) (hr:Reads (.sl .int) w [Sz a n c] zs) (hn:n≤1048576) (hz:∀ i,i < n→-1≤at0 zs i∧at0 zs i≤1114111) :
   Calls Tryd.prog 56 #[.agg #[I O x0,I O x1,Sz a n c,I O x3,I O x4,.bool x5]] w fun e w'=>∃ p g,e=.returned (.pointer (some ⟨p,0,none⟩))∧SheetAt w' w.heap.size p g n x0 x1 x3 x4 x5 (up (-32) zs)∧Below w.heap.size w w':=by
 obtain⟨hl,hrd,hc,hm⟩:=reads_ints hr
 obtain⟨W1,hW1⟩:∃ W,W=(w.alloc (.cells #[I O x0,I O x1,Sz a n c,I O x3,I O x4,.bool x5] 29)).alloc (.cells #[I O x0,I O x1,Sz a n c,I O x3,I O x4,.bool x5] 84):=⟨_,rfl⟩
 have bW1:Below w.heap.size w W1:=by rw[hW1];exact((Below.refl _ _).alloc (Nat.le_refl _) _).alloc (by simp) _
 have hbox:W1.heap[w.heap.size+1]?=some (.cells #[I O x0,I O x1,Sz a n c,I O x3,I O x4,.bool x5] 84 (0,0)):=by
   rw[hW1]
   have:=heap_alloc_new (w.alloc (.cells #[I O x0,I O x1,Sz a n c,I O x3,I O x4,.bool x5] 29)) (.cells #[I O x0,I O x1,Sz a n c,I O x3,I O x4,.bool x5] 84)
   simpa using this
 have zW1:W1.heap.size=w.heap.size+1+1:=by rw[hW1];simp
 have qr:Hid (∀ w',Below w.heap.size w w'→Calls Tryd.prog 73 #[Sz a n c,I O (-32)] w' fun e w''=>∃ g,e=.returned (Sz (some ⟨g,0,none⟩) n n)∧w'.heap.size≤g∧w''.ownsRow w.heap.size 3 1 (Sz (some ⟨g,0,none⟩) n n) n ((up (-32) zs).map (Value.int .i64))∧Below w'.heap.size w' w''):=fun w' h'=>raised_ex a n c w.heap.size zs (-32) w' h'.size hl (hrd.later h') hn (fun i hi=>by have:=hz i hi;omega) (by omega) (by omega)
 have HL:Hid (zs.length=n):=hl
 have HW:Hid (W1=_):=hW1
 have HB:Hid (W1.heap[w.heap.size+1]?=_):=hbox
 clear hr hrd hl hz hW1 hbox
 go_enter Tryd.func56,Tryd.ntmps56
 go_wp2_with fail
 rw[← HW.out]
 refine(qr.out _ bW1).mono ?_
 rintro e w2 ⟨g,rfl,hg,ho,hb2⟩
 have b2:=bW1.trans (hb2.mono bW1.size)
 have z2:=hb2.size
 rw[zW1] at z2 hg
 have i2:w2.heap[w.heap.size+1]?=_:=(hb2.block _ (by rw[zW1];omega)).trans HB.out
 have y2:w2.cell? ⟨w.heap.size+1,2,none⟩=some (Sz a n c):=bxc i2 rfl
 have f2:w2.frozen? ⟨w.heap.size+1,2,none⟩=false:=box_frozen i2
 have hs:=box_set (j:=2) (Sz (some ⟨g,0,none⟩) n n) i2
 have ho':=own_off ho (w.heap.size+1) 2 (Sz (some ⟨g,0,none⟩) n n) (by omega)
 have HH:Hid (_∧_∧_):=⟨hs,ho',(b2.setCell (p:=⟨w.heap.size+1,2,none⟩) (by simp) (Sz (some ⟨g,0,none⟩) n n))⟩
 clear i2 ho hs ho' hb2 b2
 go_wp2
 go_ret
 exact⟨_,_,rfl,⟨by simpa using HH.out.1,HH.out.2.1,by rw[up_len];exact HL.out,by omega,by omega⟩,HH.out.2.2⟩
def clampG(x n:Int):Int:=min (max x 0) (n - 1)
set_option maxRecDepth 100000 in
theorem moveTo_any (p g n B:Nat) (W H X Y x y:Int) (wr:Bool) (zs:List Int) (w:World) (hs:SheetAt w B p g n W H X Y wr zs) (hW:1≤W) (hW2:W≤1000) (hH:1≤H) (hH2:H≤1000) :
   Calls Tryd.prog 93 #[.pointer (some ⟨p,0,none⟩),I O x,I O y] w fun e w'=>e=.returned (.tuple #[])∧SheetAt w' B p g n W H (clampG x W) (clampG y H) false zs∧Touch w w' [p]:=by
 obtain⟨X',hX',hx⟩:∃ X',clampG x W=X'∧((x < 0∧0≤W - 1∧X'=0)∨(¬ x < 0∧x≤W - 1∧X'=x)∨(¬ x < 0∧¬ x≤W - 1∧X'=W - 1)):=⟨_,rfl,by unfold clampG;omega⟩
 obtain⟨Y',hY',hy⟩:∃ Y',clampG y H=Y'∧((y < 0∧0≤H - 1∧Y'=0)∨(¬ y < 0∧y≤H - 1∧Y'=y)∨(¬ y < 0∧¬ y≤H - 1∧Y'=H - 1)):=⟨_,rfl,by unfold clampG;omega⟩
 have HX:Hid (clampG x W=X'∧clampG y H=Y'):=⟨hX',hY'⟩
 clear hX' hY'
 have y0:w.cell? ⟨p,0,none⟩=some (I O W):=bxc hs.box rfl
 have y1:w.cell? ⟨p,1,none⟩=some (I O H):=bxc hs.box rfl
 have y3:w.cell? ⟨p,3,none⟩=some (I O X):=bxc hs.box rfl
 have y4:w.cell? ⟨p,4,none⟩=some (I O Y):=bxc hs.box rfl
 have y5:w.cell? ⟨p,5,none⟩=some (.bool wr):=bxc hs.box rfl
 have f3:w.frozen? ⟨p,3,none⟩=false:=box_frozen hs.box
 have f4:w.frozen? ⟨p,4,none⟩=false:=box_frozen hs.box
 have f5:w.frozen? ⟨p,5,none⟩=false:=box_frozen hs.box
 have wW:IntKind.i64.wrap (W - 1)=W - 1:=wrap_i64_in _ (by omega) (by omega)
 have wH:IntKind.i64.wrap (H - 1)=H - 1:=wrap_i64_in _ (by omega) (by omega)
 have h1:=box_set (j:=3) (I O X') hs.box
 have h2:=box_set (j:=4) (I O Y') h1
 have h3:=box_set (j:=5) (.bool false) h2
 have o1:=own_off hs.row p 3 (I O X') hs.ne
 have o2:=own_off o1 p 4 (I O Y') hs.ne
 have o3:=own_off o2 p 5 (.bool false) hs.ne
 have HH:Hid (_∧_∧_):=⟨h3,o3,((Touch.set w p 3 (I O X') (List.mem_singleton.2 rfl)).trans (Touch.set _ p 4 (I O Y') (List.mem_singleton.2 rfl))).trans (Touch.set _ p 5 (.bool false) (List.mem_singleton.2 rfl))⟩
 have HS:Hid (zs.length=n∧B≤p∧p≠g):=⟨hs.len,hs.lo,hs.ne⟩
 clear h1 h2 h3 o1 o2 o3 hs
 rcases hx with ⟨hx1,hx2,rfl⟩ | ⟨hx1,hx2,rfl⟩ | ⟨hx1,hx2,rfl⟩
 all_goals
   rcases hy with ⟨hy1,hy2,rfl⟩ | ⟨hy1,hy2,rfl⟩ | ⟨hy1,hy2,rfl⟩
   all_goals
     go_enter Tryd.func93,Tryd.ntmps93
     go_wp2
     refine bodyPost_end (v:=.tuple #[]) (by simp[results,Tryd.results93,go_sem]) rfl ?_
     refine⟨rfl,?_,HH.out.2.2⟩
     rw[HX.out.1,HX.out.2]
     exact⟨by simpa using HH.out.1,HH.out.2.1,HS.out.1,HS.out.2.1,HS.out.2.2⟩
end Go.Proofs.YthodinpflcbklaaDoor
namespace Go.Proofs.YthodinpflcbklaaDoor
open Go.RowKit
theorem own_offR{w:World}{B n g c:Nat}{e:TypeId}{size:Nat}{m:Nat}{xs:List Value}(h:w.ownsRow B e size (Sz (some ⟨g,0,none⟩) m c) n xs)(b:Nat)(cs:Array Value)(hb:b≠g):(w.setRow b cs).ownsRow B e size (Sz (some ⟨g,0,none⟩) m c) n xs:=by
 refine⟨h.1,?_⟩
 rcases h.2 with h1 | ⟨g',cap,cur,hv,hg,hh,r⟩
 · exact .inl h1
 · have hv':=hv
   simp only[Value.slice.injEq,Option.some.injEq,Addr.mk.injEq,and_true] at hv
   exact .inr ⟨g',cap,cur,hv',hg,(setRow_other _ _ _ _ (by omega)).trans hh,r⟩
set_option maxRecDepth 100000 in
theorem grid_any (p g n B:Nat) (W H X Y:Int) (wr:Bool) (zs:List Int) (w:World) (hs:SheetAt w B p g n W H X Y wr zs) (hn:n≤1048576) (hz:∀ i,i < n→-1000000000≤at0 zs i∧at0 zs i≤1000000000) :
   Calls Tryd.prog 58 #[.pointer (some ⟨p,0,none⟩)] w fun e w'=>∃ k,e=.returned (.agg #[I O W,I O H,Sz (some ⟨k,0,none⟩) n n,I O X,I O Y,.bool wr])∧w'.ownsRow w.heap.size 3 1 (Sz (some ⟨k,0,none⟩) n n) n ((up 32 zs).map (Value.int .i64))∧Below w.heap.size w w':=by
 have hp:=box_lt hs.box
 obtain⟨W1,hW1⟩:∃ V,V=(w.alloc (.cells #[I O 0,I O 0,Sz none 0 0,I O 0,I O 0,.bool false] 29)).alloc (.cells #[I O W,I O H,Sz (some ⟨g,0,none⟩) n n,I O X,I O Y,.bool wr] 29):=⟨_,rfl⟩
 have bW1:Below w.heap.size w W1:=by rw[hW1];exact((Below.refl _ _).alloc (Nat.le_refl _) _).alloc (by simp) _
 have hbox:W1.heap[w.heap.size+1]?=some (.cells #[I O W,I O H,Sz (some ⟨g,0,none⟩) n n,I O X,I O Y,.bool wr] 29 (0,0)):=by
   rw[hW1]
   have:=heap_alloc_new (w.alloc (.cells #[I O 0,I O 0,Sz none 0 0,I O 0,I O 0,.bool false] 29)) (.cells #[I O W,I O H,Sz (some ⟨g,0,none⟩) n n,I O X,I O Y,.bool wr] 29)
   simpa using this
 have hbox0:W1.heap[w.heap.size]?=some (.cells #[I O 0,I O 0,Sz none 0 0,I O 0,I O 0,.bool false] 29 (0,0)):=by
   rw[hW1,heap_alloc_old _ _ (by simp)];exact heap_alloc_new w _
 have zW1:W1.heap.size=w.heap.size+1+1:=by rw[hW1];simp
 have qr:Hid (∀ w',Below w.heap.size w w'→Calls Tryd.prog 73 #[Sz (some ⟨g,0,none⟩) n n,I O 32] w' fun e w''=>∃ k,e=.returned (Sz (some ⟨k,0,none⟩) n n)∧w'.heap.size≤k∧w''.ownsRow w.heap.size 3 1 (Sz (some ⟨k,0,none⟩) n n) n ((up 32 zs).map (Value.int .i64))∧Below w'.heap.size w' w''):=fun w' h'=>raised_ex _ n n w.heap.size zs 32 w' h'.size hs.len ((rdI_own hs.len hs.row).later h') hn hz (by omega) (by omega)
 have y0:w.cell? ⟨p,0,none⟩=some (I O W):=bxc hs.box rfl
 have y1:w.cell? ⟨p,1,none⟩=some (I O H):=bxc hs.box rfl
 have y2:w.cell? ⟨p,2,none⟩=some (Sz (some ⟨g,0,none⟩) n n):=bxc hs.box rfl
 have y3:w.cell? ⟨p,3,none⟩=some (I O X):=bxc hs.box rfl
 have y4:w.cell? ⟨p,4,none⟩=some (I O Y):=bxc hs.box rfl
 have y5:w.cell? ⟨p,5,none⟩=some (.bool wr):=bxc hs.box rfl
 have HW:Hid (W1=_):=hW1
 have HB:Hid (W1.heap[w.heap.size+1]?=_∧W1.heap[w.heap.size]?=_):=⟨hbox,hbox0⟩
 clear hW1 hbox hbox0 hs hz
 go_enter Tryd.func58,Tryd.ntmps58
 go_wp2_with fail
 rw[← HW.out]
 refine(qr.out _ bW1).mono ?_
 rintro e w2 ⟨k,rfl,hk,ho,hb2⟩
 have b2:=bW1.trans (hb2.mono bW1.size)
 have z2:=hb2.size
 rw[zW1] at z2 hk
 have i2:w2.heap[w.heap.size+1]?=_:=(hb2.block _ (by rw[zW1];omega)).trans HB.out.1
 have i0:w2.heap[w.heap.size]?=_:=(hb2.block _ (by rw[zW1];omega)).trans HB.out.2
 clear y0 y1 y2 y3 y4 y5
 obtain⟨V,hV⟩:∃ V,V=w2.setCell ⟨w.heap.size+1,2,none⟩ (Sz (some ⟨k,0,none⟩) n n):=⟨_,rfl⟩
 have y2:w2.cell? ⟨w.heap.size+1,2,none⟩=some (Sz (some ⟨g,0,none⟩) n n):=bxc i2 rfl
 have f2:w2.frozen? ⟨w.heap.size+1,2,none⟩=false:=box_frozen i2
 have j1:V.heap[w.heap.size+1]?=some (.cells #[I O W,I O H,Sz (some ⟨k,0,none⟩) n n,I O X,I O Y,.bool wr] 29 (0,0)):=by
   rw[hV];have:=box_set (j:=2) (Sz (some ⟨k,0,none⟩) n n) i2;simpa using this
 have j0:V.heap[w.heap.size]?=some (.cells #[I O 0,I O 0,Sz none 0 0,I O 0,I O 0,.bool false] 29 (0,0)):=by rw[hV];exact(box_other _ (by omega)).trans i0
 have bV:Below w.heap.size w V:=by rw[hV];exact b2.setCell (p:=⟨w.heap.size+1,2,none⟩) (by simp) _
 have oV:V.ownsRow w.heap.size 3 1 (Sz (some ⟨k,0,none⟩) n n) n ((up 32 zs).map (Value.int .i64)):=by rw[hV];exact own_off ho (w.heap.size+1) 2 _ (by omega)
 have HV:Hid (V=_):=hV
 clear hV i0 i2 ho hb2 b2
 have j0':=j0
 rw[HV.out] at j0'
 have HLD:(loadVar 29 ⟨w.heap.size,0,none⟩).run Tryd.prog (V.setRow w.heap.size #[I O W,I O H,Sz (some ⟨k,0,none⟩) n n,I O X,I O Y,.bool wr])=.ok (.agg #[I O W,I O H,Sz (some ⟨k,0,none⟩) n n,I O X,I O Y,.bool wr]) (V.setRow w.heap.size #[I O W,I O H,Sz (some ⟨k,0,none⟩) n n,I O X,I O Y,.bool wr]):=run_loadVar_row _ _ _ _ _ _ _ (setRow_heap _ _ _ _ _ _ j0) Tryd.underlying29 rfl (by kernel_rfl)
 have HO:Hid (_∧_):=⟨own_offR oV w.heap.size #[I O W,I O H,Sz (some ⟨k,0,none⟩) n n,I O X,I O Y,.bool wr] (by omega),below_setRow bV (Nat.le_refl _) #[I O W,I O H,Sz (some ⟨k,0,none⟩) n n,I O X,I O Y,.bool wr]⟩
 rw[HV.out] at HLD HO
 have j1':=j1
 rw[HV.out] at j1'
 have g0:=bxc (j:=0) j1' rfl
 have g1:=bxc (j:=1) j1' rfl
 have g2:=bxc (j:=2) j1' rfl
 have g3:=bxc (j:=3) j1' rfl
 have g4:=bxc (j:=4) j1' rfl
 have g5:=bxc (j:=5) j1' rfl
 clear j1' j0 j1 oV bV
 go_wp2_with (refine wpList_store_row rfl _ _ _ rfl _ _ rfl rfl _ _ j0' (by kernel_rfl) rfl (by simp[Value.oneCell']) ?_)
 (try simp only[Exit.inBlock,Exit.then])
 refine bodyPost_ret (by simp[results,Tryd.results58,asAddr,Act.put,HLD];try rfl) rfl ?_
 exact⟨k,rfl,HO.out.1,HO.out.2⟩
end Go.Proofs.YthodinpflcbklaaDoor
namespace Go.Proofs.YthodinpflcbklaaDoor
open Go.RowKit
set_option maxRecDepth 100000
theorem row_exact{w:World}{B g n:Nat}{zs:List Int}(hn:0 < n)(h:w.ownsRow B 3 1 (Sz (some ⟨g,0,none⟩) n n) n (zs.map (Value.int .i64))):
   B≤g∧w.heap[g]?=some (.cells (zs.map (Value.int .i64)).toArray 3 (0,0))∧n≤maxLen:=by
 rcases h.2 with ⟨_,h0⟩ | ⟨g',cap,cur,hv,hg,hh,h1,h2,h3,h4⟩
 · omega
 · simp only[Value.slice.injEq,Option.some.injEq,Addr.mk.injEq,and_true,true_and] at hv
   obtain⟨rfl,rfl⟩:=hv
   refine⟨hg,?_,h2⟩
   rw[hh]
   have hlen:cur.toList.length=n*1:=by simpa using h3
   rw[List.take_of_length_le (by omega)] at h4
   rw[← h4]
theorem exact_row{w:World}{B g n:Nat}{zs:List Int}(hB:B≤g)(hl:zs.length=n)(hm:n≤maxLen)(h:w.heap[g]?=some (.cells (zs.map (Value.int .i64)).toArray 3 (0,0))):
   w.ownsRow B 3 1 (Sz (some ⟨g,0,none⟩) n n) n (zs.map (Value.int .i64)):=
 ⟨by simp[hl],.inr ⟨g,n,_,rfl,hB,h,Nat.le_refl _,hm,by simp[hl],by
   show List.take (n*1) (zs.map (Value.int .i64))=_
   rw[List.take_of_length_le (by simp[hl])]⟩⟩
theorem setCells_row{g:Nat}{t:TypeId}:∀ (vs:List Value) (o:Nat) (w:World) (cur:List Value),w.heap[g]?=some (.cells cur.toArray t (0,0))→o+vs.length≤cur.length →
   (w.setCells g o vs).heap[g]?=some (.cells (cur.take o++(vs++cur.drop (o+vs.length))).toArray t (0,0))
 | [],o,w,cur,h,_=>by
   show w.heap[g]?=_
   rw[h];simp
 | v::r,o,w,cur,h,hl=>by
   have hl':o+(r.length+1)≤cur.length:=hl
   have h1:(w.setCell ⟨g,o,none⟩ v).heap[g]?=some (.cells (cur.set o v).toArray t (0,0)):=by
     have:=box_set (j:=o) v h
     simpa using this
   have ih:=setCells_row r (o+1) (w.setCell ⟨g,o,none⟩ v) (cur.set o v) h1 (by simp;omega)
   show ((w.setCell ⟨g,o,none⟩ v).setCells g (o+1) r).heap[g]?=_
   rw[ih]
   have e1:(cur.set o v).take (o+1)=cur.take o++[v]:=by
     rw[List.take_succ_eq_append_getElem (by simp;omega)]
     simp[List.take_set_of_le]
   have e2:(cur.set o v).drop (o+1+r.length)=cur.drop (o+(r.length+1)):=by
     rw[List.drop_set_of_lt (by omega)]
     congr 1;omega
   rw[e1,e2]
   simp
theorem touch_setCells{g:Nat}:∀ (vs:List Value) (o:Nat) (w:World),Touch w (w.setCells g o vs) [g]
 | [],o,w=>Touch.refl _ _
 | v::r,o,w=>(Touch.set w g o v (List.mem_singleton.2 rfl)).trans (touch_setCells r (o+1) _)
theorem zero_int(w:World):(zeroValue 3).run Tryd.prog w=.ok (I O 0) w:=by
 unfold zeroValue
 rfl
theorem clear_ints{w:World}{g o m c:Nat}{ty:TypeId}{cur:List Value}{t:TypeId}(h:w.heap[g]?=some (.cells cur.toArray t (0,0)))(hm:0 < m)(hl:o+m≤cur.length):
   (Builtin.clear_ #[22] ty #[Sz (some ⟨g,o,none⟩) m c]).run Tryd.prog w=.ok (.tuple #[]) (w.setCells g o (List.replicate m (I O 0))):=by
 refine Go.Lib.run_clear_slice w 22 3 ty (I O 0) Tryd.underlying22 zero_int rfl rfl g o m c hm ?_ ?_
 · intro j hj
   have:o+j < cur.length:=by omega
   simp[World.cell?,h,this]
 · intro j hj
   exact box_frozen h
theorem step_copy_row{P:Program}{ops:Array Oper}{o:Oper}{a:Act}{w:World}{K:Act→World→Prop}{Q:Exit→Act→World→Prop}{E:Prop}(hgd:o.guard=none)(d s:Operand)(dT sT:TypeId)
   (ho:o.op=.call { callee:=.builtin .copy,args:=#[d,s],argTypes:=#[dT,sT] }) (elem:TypeId) (hu:P.underlying dT=some (.slice elem)) (hsz:(P.info? elem).map (·.size)=some 1)
   (dLen dCap sLen sCap:Nat) (g off:Nat) (ad:Addr) (hd:a.eval d=Sz (some ⟨g,off,none⟩) dLen dCap) (hs:a.eval s=Sz (some ad) sLen sCap)
   (cur:List Value) (t:TypeId) (hg:w.heap[g]?=some (.cells cur.toArray t (0,0))) (cs:List Value) (hn:cs.length=Nat.min sLen dLen)
   (hsrc:∀ j v,cs[j]?=some v→w.cell? (ad.add j)=some v)
   (hfit:off+cs.length≤cur.length) (h1:∀ v ∈ cs,v.oneCell'=true)
   (h:K (a.put o.dst (goInt cs.length)) (w.setRow g (cur.take off++(cs++cur.drop (off+cs.length))).toArray)) :
   if Region.wanted o (yielded ops a.tmps)=true then Oper.wp P o a w K Q else E:=by
 have hw:Region.wanted o (yielded ops a.tmps)=true:=by simp[Region.wanted,hgd]
 rw[if_pos hw]
 have hrun:=run_copy_row (P:=P) w dT sT o.type elem g off dLen dCap ad sLen sCap cur.toArray t cs hu hsz hg hn hsrc (by simpa using hfit) h1
 unfold Oper.wp
 simp[execOp,ho,resolve,invoke,builtin,hd,hs,hrun,Result.andThen]
 exact h
theorem touch_setRow(w:World)(g:Nat)(cs:Array Value):Touch w (w.setRow g cs) [g]:=
 ⟨rfl,rfl,rfl,by simp[World.setRow],fun i _ hf=>setRow_other _ _ _ _ (fun e=>hf (by simp[e]))⟩
theorem touch_drew{w w':World}{F:List Nat}(h:Touch w w' F):Touch w w'.drew F:=⟨h.os,h.tape,h.output,h.size,h.block⟩
end Go.Proofs.YthodinpflcbklaaDoor
