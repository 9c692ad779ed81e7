/-
  Parts of the road to VB, joined: Tabs, RrdI, RbgP, RbgI.
-/
import Derived.Test.YthodinpflcbklaaDoorM0VB
import Derived.Test.YthodinpflcbklaaDoorRows
import Derived.Lib.LaidU8T
import Derived.PinnedBridge
import Derived.Test.YthodinpflcbklaaDoorM15VB
import Derived.Test.YthodinpflcbklaaDoorShelf
import Derived.BigQuiet
open Go.Value renaming int → I,slice → Sz
open Go.IntKind renaming i64 → O
open List renaming setIfInBounds_toArray → lA,getElem_toArray → lB,getElem_cons_succ → lC,getElem_cons_zero → lD,set_cons_zero → lE,set_cons_succ → lF
set_option linter.unusedVariables false
set_option linter.unusedSimpArgs false
set_option maxHeartbeats 40000000
namespace Go.Proofs.YthodinpflcbklaaDoor
open Go.RowKit
def Tabs(w:World):Prop:=Lib.Utf8Tabs 0 1 w
theorem Tabs.later{w w':World}(h:Tabs w)(hb:Below w.heap.size w w'):Tabs w':=by
 refine⟨fun c hc=>?_,fun i hi=>⟨?_,?_⟩⟩
 · have h1:=h.1 c hc
   exact(hb.cell (p:=⟨_,c,none⟩) (World.block_lt_of_cell? w _ h1)).trans h1
 · have h1:=(h.2 i hi).1
   exact(hb.cell (p:=⟨_,2*i,none⟩) (World.block_lt_of_cell? w _ h1)).trans h1
 · have h1:=(h.2 i hi).2
   exact(hb.cell (p:=⟨_,2*i+1,none⟩) (World.block_lt_of_cell? w _ h1)).trans h1
def renU:Go.Shelf.Ren:={ f:=fun x=>x,t:=fun i=>if i=5 then 5 else if i=119 then 100 else if i=138 then 102 else 103,g:=fun i=>if i=3 then 0 else 1 }
theorem u8t:U8Types Tryd.prog renU:={ t5:=by kernel_rfl,t119:=by kernel_rfl,t138:=by kernel_rfl,t139:=by kernel_rfl }
theorem u8x:U8Extra Tryd.prog renU:={ n3:=by kernel_rfl,n4:=by kernel_rfl,y3:=by kernel_rfl,y4:=by kernel_rfl,c5:=by kernel_rfl,c119:=by kernel_rfl,c138:=by kernel_rfl }
theorem accept_eq:Rows.laid_unicode_utf8_acceptRanges=Lib.acceptData:=by kernel_rfl
theorem first_eq:Rows.laid_unicode_utf8_first=Lib.firstData:=by
 rw[← Pinned.utf8First_eq]
 kernel_rfl
theorem tabs_of {l : List (String × DataW Unit)} {W : World} (g : laidMet Tryd.prog l W) (h1 : ("unicode/utf8.first", Rows.laid_unicode_utf8_first) ∈ l) (h2 : ("unicode/utf8.acceptRanges", Rows.laid_unicode_utf8_acceptRanges) ∈ l) : Tabs W := by
  have r1 := Lib.laidMet.reads g h1
  have r2 := Lib.laidMet.reads g h2
  rw [first_eq] at r1
  rw [accept_eq] at r2
  exact utf8Tabs_of_readsT u8t u8x r1 r2
end Go.Proofs.YthodinpflcbklaaDoor
namespace Go.Proofs.YthodinpflcbklaaDoor
open Go.RowKit
theorem noRune_any(r n:Int)(w:World):
   Calls Tryd.prog 110 #[I .i32 r,I O n] w fun e w'=>e=.returned (.bool (decide (r=65533∧n < 2)))∧w'=w:=by
 by_cases h1:r=65533
 · subst h1
   by_cases h2:n < 2
   · go_enter Tryd.func110,Tryd.ntmps110
     go_wp2
     go_ret
     exact⟨by simp[h2],rfl⟩
   · go_enter Tryd.func110,Tryd.ntmps110
     go_wp2
     go_ret
     exact⟨by simp;omega,rfl⟩
 · have h3:(r==65533)=false:=by simpa using h1
   go_enter Tryd.func110,Tryd.ntmps110
   go_wp2
   go_ret
   exact⟨by simp[h1],rfl⟩
theorem get_strOfNums(zs:List Int)(j:Nat)(hb:∀ i,0≤bt zs i∧bt zs i≤255):((strOfNums zs).get! j).toNat=(bt zs j).toNat:=by
 have h0:=hb j
 by_cases h:j < zs.length
 · have h1:j < (strOfNums zs).data.size:=by simpa [strOfNums] using h
   simp only[ByteArray.get!,strOfNums,bt] at *
   simp[h] at *
   omega
 · have h1:¬ j < (strOfNums zs).data.size:=by simpa [strOfNums] using h
   simp only[ByteArray.get!,strOfNums,bt] at *
   simp[h] at *
   rfl
theorem bt_sub(zs:List Int)(A j:Nat):bt (zs.drop A) j=bt zs (A+j):=by simp[bt]
theorem decode_sub(zs:List Int)(A:Nat)(hA:A < zs.length)(hb:∀ i,0≤bt zs i∧bt zs i≤255):
   Lib.decodeGo (strOfNums (zs.drop A))=Lib.decodeN (zs.length - A) (bt zs A).toNat (bt zs (A+1)).toNat (bt zs (A+2)).toNat (bt zs (A+3)).toNat:=by
 have hb':∀ i,0≤bt (zs.drop A) i∧bt (zs.drop A) i≤255:=fun i=>by rw[bt_sub];exact hb _
 unfold Lib.decodeGo
 rw[if_neg (by rw[strOfNums_size];simp;omega),Lib.decode_at,get_strOfNums _ _ hb',get_strOfNums _ _ hb',get_strOfNums _ _ hb',get_strOfNums _ _ hb',strOfNums_size]
 simp[bt_sub]
theorem implRrd_in(b off n cap A:Nat)(zs:List Int)(w:World)(hT:Tabs w)(hl:Hid (zs.length=n))(hb:Hid (∀ i,0≤bt zs i∧bt zs i≤255))(hlt:b < w.heap.size)
   (hc:Hid (∀ i,i < zs.length→w.cell? ⟨b,off+i,none⟩=some (I .u8 (zs[i]?.getD 0)))) (hn:n≤2097152) (hcap:n≤cap) (hcm:cap≤maxLen) (hA:A < n) :
   Calls Tryd.prog 103 #[Sz (some ⟨b,off,none⟩) n cap,I O A] w fun e w'=>e=.returned (.tuple #[I O (rrd zs A).1,I O (rrd zs A).2])∧Below w.heap.size w w':=by
 unfold maxLen at hcm
 have a0:(0:Int)≤(A:Int):=by omega
 have a1:(A:Int) < (n:Int):=by omega
 have a2:A≤n:=by omega
 have cD:Hid (Calls Tryd.prog 109 #[Sz (some ⟨b,off+A,none⟩) (n - A) (cap - A)] w fun e w'=>e=.returned (.tuple #[I .i32 (Lib.decodeGo (strOfNums (zs.drop A))).1,I O (Lib.decodeGo (strOfNums (zs.drop A))).2])∧Below w.heap.size w w'):=by
   have hs:(strOfNums (zs.drop A)).size=n - A:=by rw[strOfNums_size,List.length_drop,hl.out]
   rw[← hs]
   refine Any7.utf8_DecodeRune Tryd.lays7_32 (strOfNums (zs.drop A)) b (off+A) (cap - A) w hT ?_
   intro j hj
   have hb':∀ i,0≤bt (zs.drop A) i∧bt (zs.drop A) i≤255:=fun i=>by rw[bt_sub];exact hb.out _
   have hlj:A+j < zs.length:=by rw[hs] at hj;have:=hl.out;omega
   have e:off+A+j=off+(A+j):=by omega
   rw[e,hc.out (A+j) hlj,get_strOfNums _ _ hb',bt_sub]
   have h0:=hb.out (A+j)
   simp only[bt] at h0 ⊢
   congr 2
   omega
 rw[decode_sub zs A (by have:=hl.out;omega) hb.out] at cD
 obtain⟨p,hp⟩:∃ p,p=Lib.decodeN (zs.length - A) (bt zs A).toNat (bt zs (A+1)).toNat (bt zs (A+2)).toNat (bt zs (A+3)).toNat:=⟨_,rfl⟩
 have HP:Hid (rrd zs A=goAns p):=by show rrd zs A=_;rw[hp];rfl
 have hpb:p.1≤1114111∧p.2≤4:=by
   rw[hp];unfold Lib.decodeN
   have h0:=hb.out A
   repeat' split
   all_goals (simp;try omega)
 rw[← hp] at cD
 clear hp
 obtain⟨r,m⟩:=p
 simp only at hpb cD
 by_cases hbad:(r:Int)=65533∧(m:Int) < 2
 · have E:rrd zs A=(0,0):=by rw[HP.out];simp only[goAns];rw[if_pos (by omega)]
   rw[E]
   have hd:decide ((r:Int)=65533∧(m:Int) < 2)=true:=decide_eq_true hbad
   clear hbad
   go_enter Tryd.func103,Tryd.ntmps103
   go_wp2_with fail
   refine cD.out.mono ?_
   rintro e w1 ⟨rfl,hb1⟩
   go_wp2_with fail
   refine(noRune_any _ _ _).mono ?_
   rintro e w2 ⟨rfl,rfl⟩
   rw[hd]
   go_wp2
   go_ret2
   exact⟨rfl,hb1⟩
 · have E:rrd zs A=((r:Int),(m:Int)):=by rw[HP.out];simp only[goAns];rw[if_neg (by omega)]
   rw[E]
   have hd:decide ((r:Int)=65533∧(m:Int) < 2)=false:=decide_eq_false hbad
   clear hbad
   go_enter Tryd.func103,Tryd.ntmps103
   go_wp2_with fail
   refine cD.out.mono ?_
   rintro e w1 ⟨rfl,hb1⟩
   go_wp2_with fail
   refine(noRune_any _ _ _).mono ?_
   rintro e w2 ⟨rfl,rfl⟩
   rw[hd]
   go_wp2
   go_ret2
   exact⟨rfl,hb1⟩
theorem implRrd_out(a:Option Addr)(n cap:Nat)(at':Int)(w:World)(h:at' < 0∨(n:Int)≤at'):
   Calls Tryd.prog 103 #[Sz a n cap,I O at'] w fun e w'=>e=.returned (.tuple #[I O 0,I O 0])∧w'=w:=by
 by_cases h0:at' < 0
 · go_enter Tryd.func103,Tryd.ntmps103
   go_wp2
   go_ret2
   exact⟨rfl,rfl⟩
 · have h1:(n:Int)≤at':=by omega
   go_enter Tryd.func103,Tryd.ntmps103
   go_wp2
   go_ret2
   exact⟨rfl,rfl⟩
theorem implRrd_any(a:Option Addr)(n cap:Nat)(zs:List Int)(at':Int)(w:World)(hT:Tabs w)(hl:zs.length=n)(hr:Rd w a zs)(hn:n≤2097152)(hcap:n≤cap)(hcm:cap≤maxLen):
   Calls Tryd.prog 103 #[Sz a n cap,I O at'] w fun e w'=>e=.returned (.tuple #[I O (rra zs at').1,I O (rra zs at').2])∧Below w.heap.size w w':=by
 by_cases h:at' < 0∨(n:Int)≤at'
 · have e:rra zs at'=(0,0):=by unfold rra;rw[hl,if_pos h]
   rw[e]
   refine(implRrd_out a n cap at' w h).mono ?_
   rintro e w' ⟨rfl,rfl⟩
   exact⟨rfl,Below.refl _ _⟩
 · have e:rra zs at'=rrd zs at'.toNat:=by unfold rra;rw[hl,if_neg h]
   rw[e]
   obtain⟨A,rfl⟩:=Int.eq_ofNat_of_zero_le (show 0≤at' by omega)
   have hne:zs≠[]:=by intro h';subst h';simp at hl;omega
   obtain⟨b,off,rfl,hb,hc⟩:=hr.2.resolve_left hne
   exact implRrd_in b off n cap A zs w hT hl hr.1 hb hc hn hcap hcm (by omega)
end Go.Proofs.YthodinpflcbklaaDoor
namespace Go.Proofs.YthodinpflcbklaaDoor
open Go.RowKit
def needI(x:Int):Int:=if x < 128 then 0 else if x < 194 then 1 else if x < 224 then 2 else if x < 240 then 3 else if x < 245 then 4 else 1
def loI(x:Int):Int:=if x=224 then 160 else if x=240 then 144 else 128
def hiI(x:Int):Int:=if x=237 then 159 else if x=244 then 143 else 191
def frB(n:Nat)(x y z:Int):Bool:=decide (0 < n)&&(decide (needI x≤n)||(decide (1 < n)&&(decide (y < loI x)||decide (hiI x < y)))||(decide (2 < n)&&(decide (z < 128)||decide (191 < z))))
def rbgB(zs:List Int):Bool:=decide (0 < zs.length)&&!frB zs.length (bt zs 0) (bt zs 1) (bt zs 2)
def fillB(zs:List Int)(s:Nat)(v:Int):List Int:=zs++List.replicate (s - zs.length) v
theorem fillB_len{zs:List Int}{s:Nat}(v:Int)(h:zs.length≤s):(fillB zs s v).length=s:=by simp[fillB];omega
theorem bt_byte{zs:List Int}(h:∀ x ∈ zs,0≤x∧x≤255)(i:Nat):0≤bt zs i∧bt zs i≤255:=by
 unfold bt
 by_cases hi:i < zs.length
 · simp[hi];exact h _ (List.getElem_mem hi)
 · simp[hi]
theorem byte_bt{zs:List Int}(h:∀ i,0≤bt zs i∧bt zs i≤255):∀ x ∈ zs,0≤x∧x≤255:=by
 intro x hx
 obtain⟨i,hi,rfl⟩:=List.getElem_of_mem hx
 have:=h i
 unfold bt at this
 simpa [hi] using this
theorem fillB_bytes{zs:List Int}(s:Nat){v:Int}(hv:0≤v∧v≤255)(h:∀ i,0≤bt zs i∧bt zs i≤255)(i:Nat):0≤bt (fillB zs s v) i∧bt (fillB zs s v) i≤255:=by
 refine bt_byte (fun x hx=>?_) i
 unfold fillB at hx
 rcases List.mem_append.1 hx with hx | hx
 · exact byte_bt h x hx
 · obtain⟨_,rfl⟩:=List.mem_replicate.1 hx;exact hv
theorem hitX2{x a:Int}(hx:0≤x∧x≤255)(ha:0≤a∧a≤255):hit [x,a] 0 2↔(x / 32=6∧a / 64=2∧128≤x % 32*64+a % 64):=by
 rw[hit2 _ _ (bt_byte (by simp;omega)) (by simp)]
 simp[bt]
theorem hitX3{x a b:Int}(hx:0≤x∧x≤255)(ha:0≤a∧a≤255)(hb:0≤b∧b≤255):hit [x,a,b] 0 3↔(x / 16=14∧a / 64=2∧b / 64=2∧2048≤x % 16*4096+a % 64*64+b % 64∧(x % 16*4096+a % 64*64+b % 64 < 55296∨57344≤x % 16*4096+a % 64*64+b % 64)):=by
 rw[hit3 _ _ (bt_byte (by simp;omega)) (by simp)]
 simp[bt]
theorem hitX4{x a b c:Int}(hx:0≤x∧x≤255)(ha:0≤a∧a≤255)(hb:0≤b∧b≤255)(hc:0≤c∧c≤255):hit [x,a,b,c] 0 4↔(x / 8=30∧a / 64=2∧b / 64=2∧c / 64=2∧65536≤x % 8*262144+a % 64*4096+b % 64*64+c % 64∧x % 8*262144+a % 64*4096+b % 64*64+c % 64≤1114111):=by
 rw[hit4 _ _ (bt_byte (by simp;omega)) (by simp)]
 simp[bt]
def sizeP(zs:List Int)(s:Nat):Prop:=hit (fillB zs s 128) 0 s∨hit (fillB zs s 191) 0 s
theorem need_cases{x:Int}(hx:0≤x∧x≤255):(x < 194∧needI x≤1)∨(194≤x∧x < 224∧needI x=2)∨(224≤x∧x < 240∧needI x=3)∨(240≤x∧x < 245∧needI x=4)∨(245≤x∧needI x=1):=by
 unfold needI
 repeat' split
 all_goals omega
theorem rbg_one(x:Int)(hx:0≤x∧x≤255):rbgB [x]=true↔∃ s,1 < s∧s≤4∧sizeP [x] s:=by
 have e:rbgB [x]=true↔1 < needI x:=by simp[rbgB,frB,bt]
 rw[e]
 have h8:(0:Int)≤128∧(128:Int)≤255:=by omega
 have h9:(0:Int)≤191∧(191:Int)≤255:=by omega
 have f2:sizeP [x] 2↔(hit [x,128] 0 2∨hit [x,191] 0 2):=Iff.rfl
 have f3:sizeP [x] 3↔(hit [x,128,128] 0 3∨hit [x,191,191] 0 3):=Iff.rfl
 have f4:sizeP [x] 4↔(hit [x,128,128,128] 0 4∨hit [x,191,191,191] 0 4):=Iff.rfl
 rw[hitX2 hx h8,hitX2 hx h9] at f2
 rw[hitX3 hx h8 h8,hitX3 hx h9 h9] at f3
 rw[hitX4 hx h8 h8 h8,hitX4 hx h9 h9 h9] at f4
 constructor
 · intro h
   rcases need_cases hx with h1 | h1 | h1 | h1 | h1
   · omega
   · exact⟨2,by omega,by omega,f2.2 (by omega)⟩
   · exact⟨3,by omega,by omega,f3.2 (by omega)⟩
   · exact⟨4,by omega,by omega,f4.2 (by omega)⟩
   · omega
 · rintro⟨s,hs1,hs2,h⟩
   have:s=2∨s=3∨s=4:=by omega
   rcases this with rfl | rfl | rfl
   · have:=f2.1 h;rcases need_cases hx with h1 | h1 | h1 | h1 | h1 <;> omega
   · have:=f3.1 h;rcases need_cases hx with h1 | h1 | h1 | h1 | h1 <;> omega
   · have:=f4.1 h;rcases need_cases hx with h1 | h1 | h1 | h1 | h1 <;> omega
theorem lohi{x:Int}:(x=224∧loI x=160∧hiI x=191)∨(x=240∧loI x=144∧hiI x=191)∨(x=237∧loI x=128∧hiI x=159)∨(x=244∧loI x=128∧hiI x=143)∨(x≠224∧x≠240∧x≠237∧x≠244∧loI x=128∧hiI x=191):=by
 unfold loI hiI
 repeat' split
 all_goals omega
theorem rbg_two(x y:Int)(hx:0≤x∧x≤255)(hy:0≤y∧y≤255):rbgB [x,y]=true↔∃ s,2 < s∧s≤4∧sizeP [x,y] s:=by
 have e:rbgB [x,y]=true↔2 < needI x∧loI x≤y∧y≤hiI x:=by simp[rbgB,frB,bt]
 rw[e]
 have h8:(0:Int)≤128∧(128:Int)≤255:=by omega
 have h9:(0:Int)≤191∧(191:Int)≤255:=by omega
 have f3:sizeP [x,y] 3↔(hit [x,y,128] 0 3∨hit [x,y,191] 0 3):=Iff.rfl
 have f4:sizeP [x,y] 4↔(hit [x,y,128,128] 0 4∨hit [x,y,191,191] 0 4):=Iff.rfl
 rw[hitX3 hx hy h8,hitX3 hx hy h9] at f3
 rw[hitX4 hx hy h8 h8,hitX4 hx hy h9 h9] at f4
 constructor
 · rintro⟨h,hl,hh⟩
   rcases need_cases hx with h1 | h1 | h1 | h1 | h1
   · omega
   · omega
   · refine⟨3,by omega,by omega,f3.2 ?_⟩
     rcases lohi (x:=x) with h2 | h2 | h2 | h2 | h2 <;> omega
   · refine⟨4,by omega,by omega,f4.2 ?_⟩
     rcases lohi (x:=x) with h2 | h2 | h2 | h2 | h2 <;> omega
   · omega
 · rintro⟨s,hs1,hs2,h⟩
   have:s=3∨s=4:=by omega
   rcases this with rfl | rfl
   · have:=f3.1 h;rcases need_cases hx with h1 | h1 | h1 | h1 | h1 <;> first | omega | (rcases lohi (x:=x) with h2 | h2 | h2 | h2 | h2 <;> omega)
   · have:=f4.1 h;rcases need_cases hx with h1 | h1 | h1 | h1 | h1 <;> first | omega | (rcases lohi (x:=x) with h2 | h2 | h2 | h2 | h2 <;> omega)
theorem rbg_three(x y z:Int)(hx:0≤x∧x≤255)(hy:0≤y∧y≤255)(hz:0≤z∧z≤255):rbgB [x,y,z]=true↔∃ s,3 < s∧s≤4∧sizeP [x,y,z] s:=by
 have e:rbgB [x,y,z]=true↔(3 < needI x∧loI x≤y∧y≤hiI x)∧128≤z∧z≤191:=by simp[rbgB,frB,bt]
 rw[e]
 have h8:(0:Int)≤128∧(128:Int)≤255:=by omega
 have h9:(0:Int)≤191∧(191:Int)≤255:=by omega
 have f4:sizeP [x,y,z] 4↔(hit [x,y,z,128] 0 4∨hit [x,y,z,191] 0 4):=Iff.rfl
 rw[hitX4 hx hy hz h8,hitX4 hx hy hz h9] at f4
 constructor
 · rintro⟨⟨h,hl,hh⟩,hz1,hz2⟩
   rcases need_cases hx with h1 | h1 | h1 | h1 | h1
   · omega
   · omega
   · omega
   · refine⟨4,by omega,by omega,f4.2 ?_⟩
     rcases lohi (x:=x) with h2 | h2 | h2 | h2 | h2 <;> omega
   · omega
 · rintro⟨s,hs1,hs2,h⟩
   obtain rfl:s=4:=by omega
   have:=f4.1 h
   rcases need_cases hx with h1 | h1 | h1 | h1 | h1 <;> first | omega | (rcases lohi (x:=x) with h2 | h2 | h2 | h2 | h2 <;> omega)
theorem rbg_iff(zs:List Int)(hb:∀ i,0≤bt zs i∧bt zs i≤255):rbgB zs=true↔(0 < zs.length∧zs.length≤3∧∃ s,zs.length < s∧s≤4∧sizeP zs s):=by
 have hm:=byte_bt hb
 match zs with
 | []=>simp[rbgB]
 | [x]=>rw[rbg_one x (hm x (by simp))];simp
 | [x,y]=>rw[rbg_two x y (hm x (by simp)) (hm y (by simp))];simp
 | [x,y,z]=>rw[rbg_three x y z (hm x (by simp)) (hm y (by simp)) (hm z (by simp))];simp
 | x::y::z::u::l =>
   constructor
   · intro h
     exfalso
     simp[rbgB,frB] at h
     have hx:=hm x (by simp)
     have e:bt (x::y::z::u::l) 0=x:=rfl
     rw[e] at h
     rcases need_cases hx with h1 | h1 | h1 | h1 | h1 <;> omega
   · rintro⟨h1,h2,_⟩
     simp at h2
end Go.Proofs.YthodinpflcbklaaDoor
namespace Go.Proofs.YthodinpflcbklaaDoor
open Go.RowKit
theorem box_cellU{w:World}{b j:Nat}{cs:Array Value}{t:TypeId}{v:Value}(h:w.heap[b]?=some (.cells cs t (0,0)))(hv:cs[j]?=some v):w.cell? ⟨b,j,none⟩=some v:=by
 rw[cell_of_row w b j cs t (0,0) h];exact hv
theorem cell_allocU(w:World)(o:Obj)(a:Addr)(h:a.block < w.heap.size):(w.alloc o).cell? a=w.cell? a:=((Below.refl w.heap.size w).alloc (Nat.le_refl _) o).cell h
theorem bel_drU{B:Nat}{x w:World}(h:Below B x w)(q:Nat):Below B x (w.drewN q):=⟨h.os,h.tape,h.output,h.size,h.block⟩
set_option maxRecDepth 100000 in
theorem first_fin:∀ c:Fin 256,((Lib.firstT c.val:Nat):Int) % 8=needI (c.val:Nat)∧(1 < needI (c.val:Nat)→((Lib.accLo (Lib.firstT c.val / 16):Nat):Int)=loI (c.val:Nat)∧((Lib.accHi (Lib.firstT c.val / 16):Nat):Int)=hiI (c.val:Nat)):=by decide
theorem first_need{x:Int}(hx:0≤x∧x≤255):((Lib.firstT x.toNat:Nat):Int) % 8=needI x∧(1 < needI x→((Lib.accLo (Lib.firstT x.toNat / 16):Nat):Int)=loI x∧((Lib.accHi (Lib.firstT x.toNat / 16):Nat):Int)=hiI x):=by
 obtain⟨c,rfl⟩:=Int.eq_ofNat_of_zero_le hx.1
 rw[Int.toNat_natCast]
 exact first_fin ⟨c,by omega⟩
set_option maxRecDepth 100000 in
theorem fullRune_any (b off n cap:Nat) (zs:List Int) (w:World) (hT:Tabs w) (hl:zs.length=n) (hb:∀ i,0≤bt zs i∧bt zs i≤255) (hlt:b < w.heap.size)
   (hc:∀ i,i < zs.length→w.cell? ⟨b,off+i,none⟩=some (I .u8 (zs[i]?.getD 0))) (hn1:1≤n) (hn:n≤2097152) (hcap:n≤cap) (hcm:cap≤maxLen) :
   Calls Tryd.prog 83 #[Sz (some ⟨b,off,none⟩) n cap] w fun e w'=>e=.returned (.bool (frB n (bt zs 0) (bt zs 1) (bt zs 2)))∧Below w.heap.size w w':=by
 obtain⟨x,hx⟩:∃ x,x=bt zs 0:=⟨_,rfl⟩
 obtain⟨y,hy⟩:∃ y,y=bt zs 1:=⟨_,rfl⟩
 obtain⟨z,hz⟩:∃ z,z=bt zs 2:=⟨_,rfl⟩
 have bx:0≤x∧x≤255:=by rw[hx];exact hb 0
 have c0:w.cell? ⟨b,off,none⟩=some (I .u8 x):=by have:=hc 0 (by omega);rw[hx];simpa [bt] using this
 have HC1:Hid (1 < n→w.cell? ⟨b,off+1,none⟩=some (I .u8 y)):=fun h=>by rw[hy];exact hc 1 (by omega)
 have HC2:Hid (2 < n→w.cell? ⟨b,off+2,none⟩=some (I .u8 z)):=fun h=>by rw[hz];exact hc 2 (by omega)
 obtain⟨v,hv⟩:∃ v:Nat,v=Lib.firstT x.toNat:=⟨_,rfl⟩
 have t0:w.cell? ⟨0,x.toNat,none⟩=some (I .u8 v):=by rw[hv];exact hT.1 _ (by omega)
 have hv8:=first_need bx
 have hvc:=Lib.firstT_cases x.toNat
 rw[← hv] at hv8 hvc
 rw[← hx,← hy,← hz]
 have HT:Hid (Tabs w):=hT
 have n0:((n:Int)==0)=false:=by simp;omega
 have n0':(0:Int) < n:=by omega
 have HX:Hid (0≤x∧x≤255):=bx
 have x1:0≤x:=bx.1
 have x2:x < 256:=by omega
 unfold maxLen at hcm
 have HY:Hid (0≤y∧y≤255∧0≤z∧z≤255):=by rw[hy,hz];exact⟨(hb 1).1,(hb 1).2,(hb 2).1,(hb 2).2⟩
 clear hv hx hy hz hb hc hT hl bx
 rcases hvc with rfl | rfl | rfl | rfl | rfl | rfl | rfl | rfl | rfl
 · have hN:needI x=0:=by have:=hv8.1;omega
   clear hv8
   have E:Hid (frB n x y z=true):=by show _=_;unfold frB;rw[hN];simp;omega
   clear hN
   go_enter Tryd.func83,Tryd.ntmps83
   go_wp2
   go_ret
   exact⟨by rw[E.out];rfl,Below.refl _ _⟩
 · have hN:needI x=1:=by have:=hv8.1;omega
   clear hv8
   have E:Hid (frB n x y z=true):=by show _=_;unfold frB;rw[hN];simp;omega
   clear hN
   go_enter Tryd.func83,Tryd.ntmps83
   go_wp2
   go_ret
   exact⟨by rw[E.out];rfl,Below.refl _ _⟩
 · have hN:needI x=2:=by have:=hv8.1;omega
   have h1:((Lib.accLo (2 / 16):Nat):Int)=128:=by decide
   have h2:((Lib.accHi (2 / 16):Nat):Int)=191:=by decide
   have hLH:loI x=128∧hiI x=191:=by have h:=hv8.2 (by omega);omega
   obtain⟨hL,hH⟩:=hLH
   clear hv8 h1 h2
   by_cases hlong:2≤n
   · have E:Hid (frB n x y z=true):=by show _=_;unfold frB;rw[hN];simp;omega
     clear hN hL hH
     have hlz:(2:Int)≤n:=by omega
     go_enter Tryd.func83,Tryd.ntmps83
     go_wp2
     go_ret
     exact⟨by rw[E.out];rfl,Below.refl _ _⟩
   have hlz:¬ (2:Int)≤n:=by omega
   have ha0:w.cell? ⟨1,0,none⟩=some (I .u8 128):=(HT.out.2 0 (by omega)).1
   have ha1:w.cell? ⟨1,1,none⟩=some (I .u8 191):=(HT.out.2 0 (by omega)).2
   have HBW:Hid (Below w.heap.size w (w.alloc (.cells #[I .u8 128,I .u8 191] 102))):=(Below.refl _ _).alloc (Nat.le_refl _) _
   have g0:(w.alloc (.cells #[I .u8 128,I .u8 191] 102)).cell? ⟨w.heap.size,0,none⟩=some (I .u8 128):=box_cellU (heap_alloc_new w _) rfl
   have g1:(w.alloc (.cells #[I .u8 128,I .u8 191] 102)).cell? ⟨w.heap.size,1,none⟩=some (I .u8 191):=box_cellU (heap_alloc_new w _) rfl
   have hq:n=1:=by omega
   have k1:decide ((1:Int) < (n:Int))=false:=decide_eq_false (by omega)
   have k2:decide ((2:Int) < (n:Int))=false:=decide_eq_false (by omega)
   have E:Hid (frB n x y z=false):=by show _=_;unfold frB;rw[hN,hL,hH];simp;omega
   clear hN hL hH
   go_enter Tryd.func83,Tryd.ntmps83
   go_wp2
   go_quiet (fail)
   go_wp2
   go_ret
   exact⟨by rw[E.out];rfl,bel_drU HBW.out _⟩
 · have hN:needI x=3:=by have:=hv8.1;omega
   have h1:((Lib.accLo (19 / 16):Nat):Int)=160:=by decide
   have h2:((Lib.accHi (19 / 16):Nat):Int)=191:=by decide
   have hLH:loI x=160∧hiI x=191:=by have h:=hv8.2 (by omega);omega
   obtain⟨hL,hH⟩:=hLH
   clear hv8 h1 h2
   by_cases hlong:3≤n
   · have E:Hid (frB n x y z=true):=by show _=_;unfold frB;rw[hN];simp;omega
     clear hN hL hH
     have hlz:(3:Int)≤n:=by omega
     go_enter Tryd.func83,Tryd.ntmps83
     go_wp2
     go_ret
     exact⟨by rw[E.out];rfl,Below.refl _ _⟩
   have hlz:¬ (3:Int)≤n:=by omega
   have ha0:w.cell? ⟨1,2,none⟩=some (I .u8 160):=(HT.out.2 1 (by omega)).1
   have ha1:w.cell? ⟨1,3,none⟩=some (I .u8 191):=(HT.out.2 1 (by omega)).2
   have HBW:Hid (Below w.heap.size w (w.alloc (.cells #[I .u8 160,I .u8 191] 102))):=(Below.refl _ _).alloc (Nat.le_refl _) _
   have g0:(w.alloc (.cells #[I .u8 160,I .u8 191] 102)).cell? ⟨w.heap.size,0,none⟩=some (I .u8 160):=box_cellU (heap_alloc_new w _) rfl
   have g1:(w.alloc (.cells #[I .u8 160,I .u8 191] 102)).cell? ⟨w.heap.size,1,none⟩=some (I .u8 191):=box_cellU (heap_alloc_new w _) rfl
   by_cases hq1:n=1
   · have hq:n=1:=hq1
     have k1:decide ((1:Int) < (n:Int))=false:=decide_eq_false (by omega)
     have k2:decide ((2:Int) < (n:Int))=false:=decide_eq_false (by omega)
     have E:Hid (frB n x y z=false):=by show _=_;unfold frB;rw[hN,hL,hH];simp;omega
     clear hN hL hH
     go_enter Tryd.func83,Tryd.ntmps83
     go_wp2
     go_quiet (fail)
     go_wp2
     go_ret
     exact⟨by rw[E.out];rfl,bel_drU HBW.out _⟩
   have hq:n=2:=by omega
   have k1:decide ((1:Int) < (n:Int))=true:=decide_eq_true (by omega)
   have k2:decide ((2:Int) < (n:Int))=false:=decide_eq_false (by omega)
   have k1':(1:Int) < (n:Int):=by omega
   have d1:(w.alloc (.cells #[I .u8 160,I .u8 191] 102)).cell? ⟨b,off+1,none⟩=some (I .u8 y):=by rw[cell_allocU w _ _ hlt];exact HC1.out (by omega)
   by_cases y1:y < 160
   · have m1:decide (y < 160)=true:=decide_eq_true y1
     have E:Hid (frB n x y z=true):=by show _=_;unfold frB;rw[hN,hL,hH];simp;omega
     clear hN hL hH
     go_enter Tryd.func83,Tryd.ntmps83
     go_wp2
     go_quiet (fail)
     go_wp2
     go_ret
     exact⟨by rw[E.out];rfl,bel_drU HBW.out _⟩
   have m1:decide (y < 160)=false:=decide_eq_false y1
   by_cases y2:191 < y
   · have m2:decide ((191:Int) < y)=true:=decide_eq_true y2
     have E:Hid (frB n x y z=true):=by show _=_;unfold frB;rw[hN,hL,hH];simp;omega
     clear hN hL hH
     go_enter Tryd.func83,Tryd.ntmps83
     go_wp2
     go_quiet (fail)
     go_wp2
     go_ret
     exact⟨by rw[E.out];rfl,bel_drU HBW.out _⟩
   have m2:decide ((191:Int) < y)=false:=decide_eq_false y2
   have E:Hid (frB n x y z=false):=by show _=_;unfold frB;rw[hN,hL,hH];simp;omega
   clear hN hL hH
   go_enter Tryd.func83,Tryd.ntmps83
   go_wp2
   go_quiet (fail)
   go_wp2
   go_ret
   exact⟨by rw[E.out];rfl,bel_drU HBW.out _⟩
 · have hN:needI x=3:=by have:=hv8.1;omega
   have h1:((Lib.accLo (3 / 16):Nat):Int)=128:=by decide
   have h2:((Lib.accHi (3 / 16):Nat):Int)=191:=by decide
   have hLH:loI x=128∧hiI x=191:=by have h:=hv8.2 (by omega);omega
   obtain⟨hL,hH⟩:=hLH
   clear hv8 h1 h2
   by_cases hlong:3≤n
   · have E:Hid (frB n x y z=true):=by show _=_;unfold frB;rw[hN];simp;omega
     clear hN hL hH
     have hlz:(3:Int)≤n:=by omega
     go_enter Tryd.func83,Tryd.ntmps83
     go_wp2
     go_ret
     exact⟨by rw[E.out];rfl,Below.refl _ _⟩
   have hlz:¬ (3:Int)≤n:=by omega
   have ha0:w.cell? ⟨1,0,none⟩=some (I .u8 128):=(HT.out.2 0 (by omega)).1
   have ha1:w.cell? ⟨1,1,none⟩=some (I .u8 191):=(HT.out.2 0 (by omega)).2
   have HBW:Hid (Below w.heap.size w (w.alloc (.cells #[I .u8 128,I .u8 191] 102))):=(Below.refl _ _).alloc (Nat.le_refl _) _
   have g0:(w.alloc (.cells #[I .u8 128,I .u8 191] 102)).cell? ⟨w.heap.size,0,none⟩=some (I .u8 128):=box_cellU (heap_alloc_new w _) rfl
   have g1:(w.alloc (.cells #[I .u8 128,I .u8 191] 102)).cell? ⟨w.heap.size,1,none⟩=some (I .u8 191):=box_cellU (heap_alloc_new w _) rfl
   by_cases hq1:n=1
   · have hq:n=1:=hq1
     have k1:decide ((1:Int) < (n:Int))=false:=decide_eq_false (by omega)
     have k2:decide ((2:Int) < (n:Int))=false:=decide_eq_false (by omega)
     have E:Hid (frB n x y z=false):=by show _=_;unfold frB;rw[hN,hL,hH];simp;omega
     clear hN hL hH
     go_enter Tryd.func83,Tryd.ntmps83
     go_wp2
     go_quiet (fail)
     go_wp2
     go_ret
     exact⟨by rw[E.out];rfl,bel_drU HBW.out _⟩
   have hq:n=2:=by omega
   have k1:decide ((1:Int) < (n:Int))=true:=decide_eq_true (by omega)
   have k2:decide ((2:Int) < (n:Int))=false:=decide_eq_false (by omega)
   have k1':(1:Int) < (n:Int):=by omega
   have d1:(w.alloc (.cells #[I .u8 128,I .u8 191] 102)).cell? ⟨b,off+1,none⟩=some (I .u8 y):=by rw[cell_allocU w _ _ hlt];exact HC1.out (by omega)
   by_cases y1:y < 128
   · have m1:decide (y < 128)=true:=decide_eq_true y1
     have E:Hid (frB n x y z=true):=by show _=_;unfold frB;rw[hN,hL,hH];simp;omega
     clear hN hL hH
     go_enter Tryd.func83,Tryd.ntmps83
     go_wp2
     go_quiet (fail)
     go_wp2
     go_ret
     exact⟨by rw[E.out];rfl,bel_drU HBW.out _⟩
   have m1:decide (y < 128)=false:=decide_eq_false y1
   by_cases y2:191 < y
   · have m2:decide ((191:Int) < y)=true:=decide_eq_true y2
     have E:Hid (frB n x y z=true):=by show _=_;unfold frB;rw[hN,hL,hH];simp;omega
     clear hN hL hH
     go_enter Tryd.func83,Tryd.ntmps83
     go_wp2
     go_quiet (fail)
     go_wp2
     go_ret
     exact⟨by rw[E.out];rfl,bel_drU HBW.out _⟩
   have m2:decide ((191:Int) < y)=false:=decide_eq_false y2
   have E:Hid (frB n x y z=false):=by show _=_;unfold frB;rw[hN,hL,hH];simp;omega
   clear hN hL hH
   go_enter Tryd.func83,Tryd.ntmps83
   go_wp2
   go_quiet (fail)
   go_wp2
   go_ret
   exact⟨by rw[E.out];rfl,bel_drU HBW.out _⟩
 · have hN:needI x=3:=by have:=hv8.1;omega
   have h1:((Lib.accLo (35 / 16):Nat):Int)=128:=by decide
   have h2:((Lib.accHi (35 / 16):Nat):Int)=159:=by decide
   have hLH:loI x=128∧hiI x=159:=by have h:=hv8.2 (by omega);omega
   obtain⟨hL,hH⟩:=hLH
   clear hv8 h1 h2
   by_cases hlong:3≤n
   · have E:Hid (frB n x y z=true):=by show _=_;unfold frB;rw[hN];simp;omega
     clear hN hL hH
     have hlz:(3:Int)≤n:=by omega
     go_enter Tryd.func83,Tryd.ntmps83
     go_wp2
     go_ret
     exact⟨by rw[E.out];rfl,Below.refl _ _⟩
   have hlz:¬ (3:Int)≤n:=by omega
   have ha0:w.cell? ⟨1,4,none⟩=some (I .u8 128):=(HT.out.2 2 (by omega)).1
   have ha1:w.cell? ⟨1,5,none⟩=some (I .u8 159):=(HT.out.2 2 (by omega)).2
   have HBW:Hid (Below w.heap.size w (w.alloc (.cells #[I .u8 128,I .u8 159] 102))):=(Below.refl _ _).alloc (Nat.le_refl _) _
   have g0:(w.alloc (.cells #[I .u8 128,I .u8 159] 102)).cell? ⟨w.heap.size,0,none⟩=some (I .u8 128):=box_cellU (heap_alloc_new w _) rfl
   have g1:(w.alloc (.cells #[I .u8 128,I .u8 159] 102)).cell? ⟨w.heap.size,1,none⟩=some (I .u8 159):=box_cellU (heap_alloc_new w _) rfl
   by_cases hq1:n=1
   · have hq:n=1:=hq1
     have k1:decide ((1:Int) < (n:Int))=false:=decide_eq_false (by omega)
     have k2:decide ((2:Int) < (n:Int))=false:=decide_eq_false (by omega)
     have E:Hid (frB n x y z=false):=by show _=_;unfold frB;rw[hN,hL,hH];simp;omega
     clear hN hL hH
     go_enter Tryd.func83,Tryd.ntmps83
     go_wp2
     go_quiet (fail)
     go_wp2
     go_ret
     exact⟨by rw[E.out];rfl,bel_drU HBW.out _⟩
   have hq:n=2:=by omega
   have k1:decide ((1:Int) < (n:Int))=true:=decide_eq_true (by omega)
   have k2:decide ((2:Int) < (n:Int))=false:=decide_eq_false (by omega)
   have k1':(1:Int) < (n:Int):=by omega
   have d1:(w.alloc (.cells #[I .u8 128,I .u8 159] 102)).cell? ⟨b,off+1,none⟩=some (I .u8 y):=by rw[cell_allocU w _ _ hlt];exact HC1.out (by omega)
   by_cases y1:y < 128
   · have m1:decide (y < 128)=true:=decide_eq_true y1
     have E:Hid (frB n x y z=true):=by show _=_;unfold frB;rw[hN,hL,hH];simp;omega
     clear hN hL hH
     go_enter Tryd.func83,Tryd.ntmps83
     go_wp2
     go_quiet (fail)
     go_wp2
     go_ret
     exact⟨by rw[E.out];rfl,bel_drU HBW.out _⟩
   have m1:decide (y < 128)=false:=decide_eq_false y1
   by_cases y2:159 < y
   · have m2:decide ((159:Int) < y)=true:=decide_eq_true y2
     have E:Hid (frB n x y z=true):=by show _=_;unfold frB;rw[hN,hL,hH];simp;omega
     clear hN hL hH
     go_enter Tryd.func83,Tryd.ntmps83
     go_wp2
     go_quiet (fail)
     go_wp2
     go_ret
     exact⟨by rw[E.out];rfl,bel_drU HBW.out _⟩
   have m2:decide ((159:Int) < y)=false:=decide_eq_false y2
   have E:Hid (frB n x y z=false):=by show _=_;unfold frB;rw[hN,hL,hH];simp;omega
   clear hN hL hH
   go_enter Tryd.func83,Tryd.ntmps83
   go_wp2
   go_quiet (fail)
   go_wp2
   go_ret
   exact⟨by rw[E.out];rfl,bel_drU HBW.out _⟩
 · have hN:needI x=4:=by have:=hv8.1;omega
   have h1:((Lib.accLo (52 / 16):Nat):Int)=144:=by decide
   have h2:((Lib.accHi (52 / 16):Nat):Int)=191:=by decide
   have hLH:loI x=144∧hiI x=191:=by have h:=hv8.2 (by omega);omega
   obtain⟨hL,hH⟩:=hLH
   clear hv8 h1 h2
   by_cases hlong:4≤n
   · have E:Hid (frB n x y z=true):=by show _=_;unfold frB;rw[hN];simp;omega
     clear hN hL hH
     have hlz:(4:Int)≤n:=by omega
     go_enter Tryd.func83,Tryd.ntmps83
     go_wp2
     go_ret
     exact⟨by rw[E.out];rfl,Below.refl _ _⟩
   have hlz:¬ (4:Int)≤n:=by omega
   have ha0:w.cell? ⟨1,6,none⟩=some (I .u8 144):=(HT.out.2 3 (by omega)).1
   have ha1:w.cell? ⟨1,7,none⟩=some (I .u8 191):=(HT.out.2 3 (by omega)).2
   have HBW:Hid (Below w.heap.size w (w.alloc (.cells #[I .u8 144,I .u8 191] 102))):=(Below.refl _ _).alloc (Nat.le_refl _) _
   have g0:(w.alloc (.cells #[I .u8 144,I .u8 191] 102)).cell? ⟨w.heap.size,0,none⟩=some (I .u8 144):=box_cellU (heap_alloc_new w _) rfl
   have g1:(w.alloc (.cells #[I .u8 144,I .u8 191] 102)).cell? ⟨w.heap.size,1,none⟩=some (I .u8 191):=box_cellU (heap_alloc_new w _) rfl
   by_cases hq1:n=1
   · have hq:n=1:=hq1
     have k1:decide ((1:Int) < (n:Int))=false:=decide_eq_false (by omega)
     have k2:decide ((2:Int) < (n:Int))=false:=decide_eq_false (by omega)
     have E:Hid (frB n x y z=false):=by show _=_;unfold frB;rw[hN,hL,hH];simp;omega
     clear hN hL hH
     go_enter Tryd.func83,Tryd.ntmps83
     go_wp2
     go_quiet (fail)
     go_wp2
     go_ret
     exact⟨by rw[E.out];rfl,bel_drU HBW.out _⟩
   by_cases hq2:n=2
   · have hq:n=2:=hq2
     have k1:decide ((1:Int) < (n:Int))=true:=decide_eq_true (by omega)
     have k2:decide ((2:Int) < (n:Int))=false:=decide_eq_false (by omega)
     have k1':(1:Int) < (n:Int):=by omega
     have d1:(w.alloc (.cells #[I .u8 144,I .u8 191] 102)).cell? ⟨b,off+1,none⟩=some (I .u8 y):=by rw[cell_allocU w _ _ hlt];exact HC1.out (by omega)
     by_cases y1:y < 144
     · have m1:decide (y < 144)=true:=decide_eq_true y1
       have E:Hid (frB n x y z=true):=by show _=_;unfold frB;rw[hN,hL,hH];simp;omega
       clear hN hL hH
       go_enter Tryd.func83,Tryd.ntmps83
       go_wp2
       go_quiet (fail)
       go_wp2
       go_ret
       exact⟨by rw[E.out];rfl,bel_drU HBW.out _⟩
     have m1:decide (y < 144)=false:=decide_eq_false y1
     by_cases y2:191 < y
     · have m2:decide ((191:Int) < y)=true:=decide_eq_true y2
       have E:Hid (frB n x y z=true):=by show _=_;unfold frB;rw[hN,hL,hH];simp;omega
       clear hN hL hH
       go_enter Tryd.func83,Tryd.ntmps83
       go_wp2
       go_quiet (fail)
       go_wp2
       go_ret
       exact⟨by rw[E.out];rfl,bel_drU HBW.out _⟩
     have m2:decide ((191:Int) < y)=false:=decide_eq_false y2
     have E:Hid (frB n x y z=false):=by show _=_;unfold frB;rw[hN,hL,hH];simp;omega
     clear hN hL hH
     go_enter Tryd.func83,Tryd.ntmps83
     go_wp2
     go_quiet (fail)
     go_wp2
     go_ret
     exact⟨by rw[E.out];rfl,bel_drU HBW.out _⟩
   have hq:n=3:=by omega
   have k1:decide ((1:Int) < (n:Int))=true:=decide_eq_true (by omega)
   have k2:decide ((2:Int) < (n:Int))=true:=decide_eq_true (by omega)
   have k1':(1:Int) < (n:Int):=by omega
   have d1:(w.alloc (.cells #[I .u8 144,I .u8 191] 102)).cell? ⟨b,off+1,none⟩=some (I .u8 y):=by rw[cell_allocU w _ _ hlt];exact HC1.out (by omega)
   have k2':(2:Int) < (n:Int):=by omega
   have d2:(w.alloc (.cells #[I .u8 144,I .u8 191] 102)).cell? ⟨b,off+2,none⟩=some (I .u8 z):=by rw[cell_allocU w _ _ hlt];exact HC2.out (by omega)
   by_cases y1:y < 144
   · have m1:decide (y < 144)=true:=decide_eq_true y1
     have E:Hid (frB n x y z=true):=by show _=_;unfold frB;rw[hN,hL,hH];simp;omega
     clear hN hL hH
     go_enter Tryd.func83,Tryd.ntmps83
     go_wp2
     go_quiet (fail)
     go_wp2
     go_ret
     exact⟨by rw[E.out];rfl,bel_drU HBW.out _⟩
   have m1:decide (y < 144)=false:=decide_eq_false y1
   by_cases y2:191 < y
   · have m2:decide ((191:Int) < y)=true:=decide_eq_true y2
     have E:Hid (frB n x y z=true):=by show _=_;unfold frB;rw[hN,hL,hH];simp;omega
     clear hN hL hH
     go_enter Tryd.func83,Tryd.ntmps83
     go_wp2
     go_quiet (fail)
     go_wp2
     go_ret
     exact⟨by rw[E.out];rfl,bel_drU HBW.out _⟩
   have m2:decide ((191:Int) < y)=false:=decide_eq_false y2
   by_cases z1:z < 128
   · have m3:decide (z < 128)=true:=decide_eq_true z1
     have E:Hid (frB n x y z=true):=by show _=_;unfold frB;rw[hN,hL,hH];simp;omega
     clear hN hL hH
     go_enter Tryd.func83,Tryd.ntmps83
     go_wp2
     go_quiet (fail)
     go_wp2
     go_ret
     exact⟨by rw[E.out];rfl,bel_drU HBW.out _⟩
   have m3:decide (z < 128)=false:=decide_eq_false z1
   by_cases z2:191 < z
   · have m4:decide ((191:Int) < z)=true:=decide_eq_true z2
     have E:Hid (frB n x y z=true):=by show _=_;unfold frB;rw[hN,hL,hH];simp;omega
     clear hN hL hH
     go_enter Tryd.func83,Tryd.ntmps83
     go_wp2
     go_quiet (fail)
     go_wp2
     go_ret
     exact⟨by rw[E.out];rfl,bel_drU HBW.out _⟩
   have m4:decide ((191:Int) < z)=false:=decide_eq_false z2
   have E:Hid (frB n x y z=false):=by show _=_;unfold frB;rw[hN,hL,hH];simp;omega
   clear hN hL hH
   go_enter Tryd.func83,Tryd.ntmps83
   go_wp2
   go_quiet (fail)
   go_wp2
   go_ret
   exact⟨by rw[E.out];rfl,bel_drU HBW.out _⟩
 · have hN:needI x=4:=by have:=hv8.1;omega
   have h1:((Lib.accLo (4 / 16):Nat):Int)=128:=by decide
   have h2:((Lib.accHi (4 / 16):Nat):Int)=191:=by decide
   have hLH:loI x=128∧hiI x=191:=by have h:=hv8.2 (by omega);omega
   obtain⟨hL,hH⟩:=hLH
   clear hv8 h1 h2
   by_cases hlong:4≤n
   · have E:Hid (frB n x y z=true):=by show _=_;unfold frB;rw[hN];simp;omega
     clear hN hL hH
     have hlz:(4:Int)≤n:=by omega
     go_enter Tryd.func83,Tryd.ntmps83
     go_wp2
     go_ret
     exact⟨by rw[E.out];rfl,Below.refl _ _⟩
   have hlz:¬ (4:Int)≤n:=by omega
   have ha0:w.cell? ⟨1,0,none⟩=some (I .u8 128):=(HT.out.2 0 (by omega)).1
   have ha1:w.cell? ⟨1,1,none⟩=some (I .u8 191):=(HT.out.2 0 (by omega)).2
   have HBW:Hid (Below w.heap.size w (w.alloc (.cells #[I .u8 128,I .u8 191] 102))):=(Below.refl _ _).alloc (Nat.le_refl _) _
   have g0:(w.alloc (.cells #[I .u8 128,I .u8 191] 102)).cell? ⟨w.heap.size,0,none⟩=some (I .u8 128):=box_cellU (heap_alloc_new w _) rfl
   have g1:(w.alloc (.cells #[I .u8 128,I .u8 191] 102)).cell? ⟨w.heap.size,1,none⟩=some (I .u8 191):=box_cellU (heap_alloc_new w _) rfl
   by_cases hq1:n=1
   · have hq:n=1:=hq1
     have k1:decide ((1:Int) < (n:Int))=false:=decide_eq_false (by omega)
     have k2:decide ((2:Int) < (n:Int))=false:=decide_eq_false (by omega)
     have E:Hid (frB n x y z=false):=by show _=_;unfold frB;rw[hN,hL,hH];simp;omega
     clear hN hL hH
     go_enter Tryd.func83,Tryd.ntmps83
     go_wp2
     go_quiet (fail)
     go_wp2
     go_ret
     exact⟨by rw[E.out];rfl,bel_drU HBW.out _⟩
   by_cases hq2:n=2
   · have hq:n=2:=hq2
     have k1:decide ((1:Int) < (n:Int))=true:=decide_eq_true (by omega)
     have k2:decide ((2:Int) < (n:Int))=false:=decide_eq_false (by omega)
     have k1':(1:Int) < (n:Int):=by omega
     have d1:(w.alloc (.cells #[I .u8 128,I .u8 191] 102)).cell? ⟨b,off+1,none⟩=some (I .u8 y):=by rw[cell_allocU w _ _ hlt];exact HC1.out (by omega)
     by_cases y1:y < 128
     · have m1:decide (y < 128)=true:=decide_eq_true y1
       have E:Hid (frB n x y z=true):=by show _=_;unfold frB;rw[hN,hL,hH];simp;omega
       clear hN hL hH
       go_enter Tryd.func83,Tryd.ntmps83
       go_wp2
       go_quiet (fail)
       go_wp2
       go_ret
       exact⟨by rw[E.out];rfl,bel_drU HBW.out _⟩
     have m1:decide (y < 128)=false:=decide_eq_false y1
     by_cases y2:191 < y
     · have m2:decide ((191:Int) < y)=true:=decide_eq_true y2
       have E:Hid (frB n x y z=true):=by show _=_;unfold frB;rw[hN,hL,hH];simp;omega
       clear hN hL hH
       go_enter Tryd.func83,Tryd.ntmps83
       go_wp2
       go_quiet (fail)
       go_wp2
       go_ret
       exact⟨by rw[E.out];rfl,bel_drU HBW.out _⟩
     have m2:decide ((191:Int) < y)=false:=decide_eq_false y2
     have E:Hid (frB n x y z=false):=by show _=_;unfold frB;rw[hN,hL,hH];simp;omega
     clear hN hL hH
     go_enter Tryd.func83,Tryd.ntmps83
     go_wp2
     go_quiet (fail)
     go_wp2
     go_ret
     exact⟨by rw[E.out];rfl,bel_drU HBW.out _⟩
   have hq:n=3:=by omega
   have k1:decide ((1:Int) < (n:Int))=true:=decide_eq_true (by omega)
   have k2:decide ((2:Int) < (n:Int))=true:=decide_eq_true (by omega)
   have k1':(1:Int) < (n:Int):=by omega
   have d1:(w.alloc (.cells #[I .u8 128,I .u8 191] 102)).cell? ⟨b,off+1,none⟩=some (I .u8 y):=by rw[cell_allocU w _ _ hlt];exact HC1.out (by omega)
   have k2':(2:Int) < (n:Int):=by omega
   have d2:(w.alloc (.cells #[I .u8 128,I .u8 191] 102)).cell? ⟨b,off+2,none⟩=some (I .u8 z):=by rw[cell_allocU w _ _ hlt];exact HC2.out (by omega)
   by_cases y1:y < 128
   · have m1:decide (y < 128)=true:=decide_eq_true y1
     have E:Hid (frB n x y z=true):=by show _=_;unfold frB;rw[hN,hL,hH];simp;omega
     clear hN hL hH
     go_enter Tryd.func83,Tryd.ntmps83
     go_wp2
     go_quiet (fail)
     go_wp2
     go_ret
     exact⟨by rw[E.out];rfl,bel_drU HBW.out _⟩
   have m1:decide (y < 128)=false:=decide_eq_false y1
   by_cases y2:191 < y
   · have m2:decide ((191:Int) < y)=true:=decide_eq_true y2
     have E:Hid (frB n x y z=true):=by show _=_;unfold frB;rw[hN,hL,hH];simp;omega
     clear hN hL hH
     go_enter Tryd.func83,Tryd.ntmps83
     go_wp2
     go_quiet (fail)
     go_wp2
     go_ret
     exact⟨by rw[E.out];rfl,bel_drU HBW.out _⟩
   have m2:decide ((191:Int) < y)=false:=decide_eq_false y2
   by_cases z1:z < 128
   · have m3:decide (z < 128)=true:=decide_eq_true z1
     have E:Hid (frB n x y z=true):=by show _=_;unfold frB;rw[hN,hL,hH];simp;omega
     clear hN hL hH
     go_enter Tryd.func83,Tryd.ntmps83
     go_wp2
     go_quiet (fail)
     go_wp2
     go_ret
     exact⟨by rw[E.out];rfl,bel_drU HBW.out _⟩
   have m3:decide (z < 128)=false:=decide_eq_false z1
   by_cases z2:191 < z
   · have m4:decide ((191:Int) < z)=true:=decide_eq_true z2
     have E:Hid (frB n x y z=true):=by show _=_;unfold frB;rw[hN,hL,hH];simp;omega
     clear hN hL hH
     go_enter Tryd.func83,Tryd.ntmps83
     go_wp2
     go_quiet (fail)
     go_wp2
     go_ret
     exact⟨by rw[E.out];rfl,bel_drU HBW.out _⟩
   have m4:decide ((191:Int) < z)=false:=decide_eq_false z2
   have E:Hid (frB n x y z=false):=by show _=_;unfold frB;rw[hN,hL,hH];simp;omega
   clear hN hL hH
   go_enter Tryd.func83,Tryd.ntmps83
   go_wp2
   go_quiet (fail)
   go_wp2
   go_ret
   exact⟨by rw[E.out];rfl,bel_drU HBW.out _⟩
 · have hN:needI x=4:=by have:=hv8.1;omega
   have h1:((Lib.accLo (68 / 16):Nat):Int)=128:=by decide
   have h2:((Lib.accHi (68 / 16):Nat):Int)=143:=by decide
   have hLH:loI x=128∧hiI x=143:=by have h:=hv8.2 (by omega);omega
   obtain⟨hL,hH⟩:=hLH
   clear hv8 h1 h2
   by_cases hlong:4≤n
   · have E:Hid (frB n x y z=true):=by show _=_;unfold frB;rw[hN];simp;omega
     clear hN hL hH
     have hlz:(4:Int)≤n:=by omega
     go_enter Tryd.func83,Tryd.ntmps83
     go_wp2
     go_ret
     exact⟨by rw[E.out];rfl,Below.refl _ _⟩
   have hlz:¬ (4:Int)≤n:=by omega
   have ha0:w.cell? ⟨1,8,none⟩=some (I .u8 128):=(HT.out.2 4 (by omega)).1
   have ha1:w.cell? ⟨1,9,none⟩=some (I .u8 143):=(HT.out.2 4 (by omega)).2
   have HBW:Hid (Below w.heap.size w (w.alloc (.cells #[I .u8 128,I .u8 143] 102))):=(Below.refl _ _).alloc (Nat.le_refl _) _
   have g0:(w.alloc (.cells #[I .u8 128,I .u8 143] 102)).cell? ⟨w.heap.size,0,none⟩=some (I .u8 128):=box_cellU (heap_alloc_new w _) rfl
   have g1:(w.alloc (.cells #[I .u8 128,I .u8 143] 102)).cell? ⟨w.heap.size,1,none⟩=some (I .u8 143):=box_cellU (heap_alloc_new w _) rfl
   by_cases hq1:n=1
   · have hq:n=1:=hq1
     have k1:decide ((1:Int) < (n:Int))=false:=decide_eq_false (by omega)
     have k2:decide ((2:Int) < (n:Int))=false:=decide_eq_false (by omega)
     have E:Hid (frB n x y z=false):=by show _=_;unfold frB;rw[hN,hL,hH];simp;omega
     clear hN hL hH
     go_enter Tryd.func83,Tryd.ntmps83
     go_wp2
     go_quiet (fail)
     go_wp2
     go_ret
     exact⟨by rw[E.out];rfl,bel_drU HBW.out _⟩
   by_cases hq2:n=2
   · have hq:n=2:=hq2
     have k1:decide ((1:Int) < (n:Int))=true:=decide_eq_true (by omega)
     have k2:decide ((2:Int) < (n:Int))=false:=decide_eq_false (by omega)
     have k1':(1:Int) < (n:Int):=by omega
     have d1:(w.alloc (.cells #[I .u8 128,I .u8 143] 102)).cell? ⟨b,off+1,none⟩=some (I .u8 y):=by rw[cell_allocU w _ _ hlt];exact HC1.out (by omega)
     by_cases y1:y < 128
     · have m1:decide (y < 128)=true:=decide_eq_true y1
       have E:Hid (frB n x y z=true):=by show _=_;unfold frB;rw[hN,hL,hH];simp;omega
       clear hN hL hH
       go_enter Tryd.func83,Tryd.ntmps83
       go_wp2
       go_quiet (fail)
       go_wp2
       go_ret
       exact⟨by rw[E.out];rfl,bel_drU HBW.out _⟩
     have m1:decide (y < 128)=false:=decide_eq_false y1
     by_cases y2:143 < y
     · have m2:decide ((143:Int) < y)=true:=decide_eq_true y2
       have E:Hid (frB n x y z=true):=by show _=_;unfold frB;rw[hN,hL,hH];simp;omega
       clear hN hL hH
       go_enter Tryd.func83,Tryd.ntmps83
       go_wp2
       go_quiet (fail)
       go_wp2
       go_ret
       exact⟨by rw[E.out];rfl,bel_drU HBW.out _⟩
     have m2:decide ((143:Int) < y)=false:=decide_eq_false y2
     have E:Hid (frB n x y z=false):=by show _=_;unfold frB;rw[hN,hL,hH];simp;omega
     clear hN hL hH
     go_enter Tryd.func83,Tryd.ntmps83
     go_wp2
     go_quiet (fail)
     go_wp2
     go_ret
     exact⟨by rw[E.out];rfl,bel_drU HBW.out _⟩
   have hq:n=3:=by omega
   have k1:decide ((1:Int) < (n:Int))=true:=decide_eq_true (by omega)
   have k2:decide ((2:Int) < (n:Int))=true:=decide_eq_true (by omega)
   have k1':(1:Int) < (n:Int):=by omega
   have d1:(w.alloc (.cells #[I .u8 128,I .u8 143] 102)).cell? ⟨b,off+1,none⟩=some (I .u8 y):=by rw[cell_allocU w _ _ hlt];exact HC1.out (by omega)
   have k2':(2:Int) < (n:Int):=by omega
   have d2:(w.alloc (.cells #[I .u8 128,I .u8 143] 102)).cell? ⟨b,off+2,none⟩=some (I .u8 z):=by rw[cell_allocU w _ _ hlt];exact HC2.out (by omega)
   by_cases y1:y < 128
   · have m1:decide (y < 128)=true:=decide_eq_true y1
     have E:Hid (frB n x y z=true):=by show _=_;unfold frB;rw[hN,hL,hH];simp;omega
     clear hN hL hH
     go_enter Tryd.func83,Tryd.ntmps83
     go_wp2
     go_quiet (fail)
     go_wp2
     go_ret
     exact⟨by rw[E.out];rfl,bel_drU HBW.out _⟩
   have m1:decide (y < 128)=false:=decide_eq_false y1
   by_cases y2:143 < y
   · have m2:decide ((143:Int) < y)=true:=decide_eq_true y2
     have E:Hid (frB n x y z=true):=by show _=_;unfold frB;rw[hN,hL,hH];simp;omega
     clear hN hL hH
     go_enter Tryd.func83,Tryd.ntmps83
     go_wp2
     go_quiet (fail)
     go_wp2
     go_ret
     exact⟨by rw[E.out];rfl,bel_drU HBW.out _⟩
   have m2:decide ((143:Int) < y)=false:=decide_eq_false y2
   by_cases z1:z < 128
   · have m3:decide (z < 128)=true:=decide_eq_true z1
     have E:Hid (frB n x y z=true):=by show _=_;unfold frB;rw[hN,hL,hH];simp;omega
     clear hN hL hH
     go_enter Tryd.func83,Tryd.ntmps83
     go_wp2
     go_quiet (fail)
     go_wp2
     go_ret
     exact⟨by rw[E.out];rfl,bel_drU HBW.out _⟩
   have m3:decide (z < 128)=false:=decide_eq_false z1
   by_cases z2:191 < z
   · have m4:decide ((191:Int) < z)=true:=decide_eq_true z2
     have E:Hid (frB n x y z=true):=by show _=_;unfold frB;rw[hN,hL,hH];simp;omega
     clear hN hL hH
     go_enter Tryd.func83,Tryd.ntmps83
     go_wp2
     go_quiet (fail)
     go_wp2
     go_ret
     exact⟨by rw[E.out];rfl,bel_drU HBW.out _⟩
   have m4:decide ((191:Int) < z)=false:=decide_eq_false z2
   have E:Hid (frB n x y z=false):=by show _=_;unfold frB;rw[hN,hL,hH];simp;omega
   clear hN hL hH
   go_enter Tryd.func83,Tryd.ntmps83
   go_wp2
   go_quiet (fail)
   go_wp2
   go_ret
   exact⟨by rw[E.out];rfl,bel_drU HBW.out _⟩
set_option maxRecDepth 100000 in
theorem implRbg_any (a:Option Addr) (n cap:Nat) (zs:List Int) (w:World) (hT:Tabs w) (hl:zs.length=n) (hr:Rd w a zs) (hn:n≤2097152) (hcap:n≤cap) (hcm:cap≤maxLen) :
   Calls Tryd.prog 68 #[Sz a n cap] w fun e w'=>e=.returned (.bool (rbgB zs))∧Below w.heap.size w w':=by
 by_cases h0:n=0
 · subst h0
   have E:Hid (rbgB zs=false):=by show _=_;unfold rbgB;rw[hl];rfl
   clear hr hT
   go_enter Tryd.func68,Tryd.ntmps68
   go_wp2
   go_ret
   exact⟨by rw[E.out];rfl,Below.refl _ _⟩
 · have hne:zs≠[]:=by intro h';subst h';simp at hl;omega
   obtain⟨b,off,rfl,hb,hc⟩:=hr.2.resolve_left hne
   obtain⟨f,hf⟩:∃ f,f=frB n (bt zs 0) (bt zs 1) (bt zs 2):=⟨_,rfl⟩
   have q:Hid (Calls Tryd.prog 83 #[Sz (some ⟨b,off,none⟩) n cap] w fun e w'=>e=.returned (.bool f)∧Below w.heap.size w w'):=by
     show Calls _ _ _ _ _
     rw[hf];exact fullRune_any b off n cap zs w hT hl (fun i=>hr.1 i) hb hc (by omega) hn hcap hcm
   have E:Hid (rbgB zs=!f):=by show _=_;unfold rbgB;rw[hl,← hf,decide_eq_true (by omega)];rfl
   have h0':(0:Int) < (n:Int):=by omega
   unfold maxLen at hcm
   clear hf hr hc hT hl hne
   go_enter Tryd.func68,Tryd.ntmps68
   go_wp2_with fail
   refine q.out.mono ?_
   rintro e w2 ⟨rfl,hb2⟩
   go_wp2
   go_ret
   exact⟨by rw[E.out];rfl,hb2⟩
end Go.Proofs.YthodinpflcbklaaDoor
