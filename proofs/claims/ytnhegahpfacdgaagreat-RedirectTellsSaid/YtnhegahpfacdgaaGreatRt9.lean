import Derived.Shelf.Strings.Builder1
import Derived.Shelf.Strings.Builder2
import Derived.Shelf.Strings.OnBuilder
import Derived.Shelf.Small.Strs
import Derived.Shelf.Small.Wraps
import Derived.Shelf.Strings.Search1
import Derived.Shelf.Strings.Search2
import Derived.Shelf.Strings.Prefix
import Derived.Shelf.Slices.Equal
import Derived.Ground.Names2Prog
import Derived.Shelf.Slices.ReverseS
import Derived.Shelf.Slices.Cells
import Derived.Test.YtnhegahpfacdgaaGreatProg
import Derived.Test.YtnhegahpfacdgaaGreatRt8
import Derived.Sort.OwnSorted
import Derived.Lib.RowBridge
import Derived.DeepKeys4
import Derived.Test.YtnhegahpfacdgaaGreatRt2
import Derived.BigQuiet
import Derived.Deep.QuietTactic

namespace Go.Proofs
open Go.Shelf
def Tryz.lays156_ren:Go.Shelf.Ren:=⟨fun|156=>101|165=>109|166=>110|169=>111|240=>117|241=>118|276=>123|277=>124|n=>n,fun|31=>30|9=>9|3=>3|4=>4|0=>0|20=>20|72=>160|76=>163|70=>158|37=>58|75=>162|127=>170|164=>174|5=>5|80=>165|n=>n,fun|n=>n⟩
theorem Tryz.lays156 : Go.Proofs.Lays.n156 Tryz.prog Tryz.lays156_ren := {
 mixed:=by kernel_rfl
 f156:=Tryz.func101.trans (congrArg some (by kernel_rfl))
 f165:=Tryz.func109.trans (congrArg some (by kernel_rfl))
 f166:=Tryz.func110.trans (congrArg some (by kernel_rfl))
 f169:=Tryz.func111.trans (congrArg some (by kernel_rfl))
 f240:=Tryz.func117.trans (congrArg some (by kernel_rfl))
 f241:=Tryz.func118.trans (congrArg some (by kernel_rfl))
 f276:=Tryz.func123.trans (congrArg some (by kernel_rfl))
 f277:=Tryz.func124.trans (congrArg some (by kernel_rfl))
 t0:=Tryz.underlying0
 a0:=Tryz.isAgg0
 z0:=Tryz.sizeOf0
 v0:=Tryz.zeroValue0
 t3:=Tryz.underlying3
 a3:=Tryz.isAgg3
 z3:=Tryz.sizeOf3
 v3:=Tryz.zeroValue3
 t4:=Tryz.underlying4
 a4:=Tryz.isAgg4
 z4:=Tryz.sizeOf4
 v4:=Tryz.zeroValue4
 t9:=Tryz.underlying9
 a9:=Tryz.isAgg9
 z9:=Tryz.sizeOf9
 v9:=Tryz.zeroValue9
 t20:=Tryz.underlying20
 a20:=Tryz.isAgg20
 z20:=Tryz.sizeOf20
 v20:=Tryz.zeroValue20
 t31:=Tryz.underlying30
 a31:=Tryz.isAgg30
 z31:=Tryz.sizeOf30
 v31:=Tryz.zeroValue30
 t37:=Tryz.underlying58
 a37:=Tryz.isAgg58
 z37:=Tryz.sizeOf58
 v37:=Tryz.zeroValue58
 t70:=Tryz.underlying158
 a70:=Tryz.isAgg158
 z70:=Tryz.sizeOf158
 v70:=Tryz.zeroValue158
 t72:=Tryz.underlying160
 a72:=Tryz.isAgg160
 z72:=Tryz.sizeOf160
 v72:=Tryz.zeroValue160
 t75:=Tryz.underlying162
 a75:=Tryz.isAgg162
 z75:=Tryz.sizeOf162
 v75:=Tryz.zeroValue162
 t76:=Tryz.underlying163
 a76:=Tryz.isAgg163
 z76:=Tryz.sizeOf163
 v76:=Tryz.zeroValue163
 t127:=Tryz.underlying170
 a127:=Tryz.isAgg170
 z127:=Tryz.sizeOf170
 v127:=Tryz.zeroValue170
 t164:=Tryz.underlying174
 a164:=Tryz.isAgg174
 z164:=Tryz.sizeOf174
 v164:=Tryz.zeroValue174}
theorem Tryz.Builder_Extra_156 : Builder.Extra Tryz.prog Tryz.lays156_ren := {
 sizeBuilder:=by kernel_rfl
 liesBuilder:=by kernel_rfl
 t5:=Tryz.underlying5
 a5:=Tryz.isAgg5
 z5:=Tryz.sizeOf5
 v5:=Tryz.zeroValue5
 infoByte:=by kernel_rfl
 cellsByte:=by kernel_rfl
 sizeByte:=by kernel_rfl
 neB5:=by decide}
open Go.RowKit in
theorem Tryz.strings_Join_none (a:Option Addr) (c:Nat) (sep:ByteArray) (w:World) :
  Calls Tryz.prog 101 #[.slice a 0 c,.string sep] w fun e w'=>e=.returned (.string ⟨#[]⟩)∧w'=w:=Any.strings_Join_none Tryz.lays156 Tryz.Builder_Extra_156 a c sep w
open Go.RowKit in
theorem Tryz.strings_Join (bk o c:Nat) (xs:List ByteArray) (sep:ByteArray) (w:World) (hcells:∀(j:Nat) x,xs[j]?=some x→w.cell? ⟨bk,o+j,none⟩=some (.string x)) (hbk:bk < w.heap.size) (hN:xs.length≤140737488355328) (hcap:xs.length≤c) (hlen:(Lib.join (xs.map (·.data.toList)) sep.data.toList).length≤140737488355328) :
  Calls Tryz.prog 101 #[.slice (some ⟨bk,o,none⟩) xs.length c,.string sep] w fun e w'=>e=.returned (.string ⟨(Lib.join (xs.map (·.data.toList)) sep.data.toList).toArray⟩)∧Below w.heap.size w w':=Any.strings_Join Tryz.lays156 Tryz.Builder_Extra_156 bk o c xs sep w hcells hbk hN hcap hlen
def Tryz.lays137_ren:Go.Shelf.Ren:=⟨fun|137=>79|217=>97|266=>106|n=>n,fun|9=>9|5=>5|3=>3|n=>n,fun|n=>n⟩
theorem Tryz.lays137 : Go.Proofs.Lays.n137 Tryz.prog Tryz.lays137_ren := {
 mixed:=by kernel_rfl
 f137:=Tryz.func79.trans (congrArg some (by kernel_rfl))
 f217:=Tryz.func97.trans (congrArg some (by kernel_rfl))
 f266:=Tryz.func106.trans (congrArg some (by kernel_rfl))
 t3:=Tryz.underlying3
 a3:=Tryz.isAgg3
 z3:=Tryz.sizeOf3
 v3:=Tryz.zeroValue3
 t5:=Tryz.underlying5
 a5:=Tryz.isAgg5
 z5:=Tryz.sizeOf5
 v5:=Tryz.zeroValue5
 t9:=Tryz.underlying9
 a9:=Tryz.isAgg9
 z9:=Tryz.sizeOf9
 v9:=Tryz.zeroValue9}
open Go.RowKit in
theorem Tryz.strings_IndexByte (s:ByteArray) (c:Int) (w:World) :
  Calls Tryz.prog 79 #[.string s,.int .u8 c] w fun e w'=>e=.returned (.int .i64 (Lib.indexByte s.data.toList c.toNat.toUInt8))∧w'=w:=Any.strings_IndexByte Tryz.lays137 s c w
def Tryz.lays103_ren:Go.Shelf.Ren:=⟨fun|103=>99|210=>107|206=>115|n=>n,fun|9=>9|4=>4|24=>151|3=>3|n=>n,fun|n=>n⟩
theorem Tryz.lays103 : Go.Proofs.Lays.n103 Tryz.prog Tryz.lays103_ren := {
 mixed:=by kernel_rfl
 f103:=Tryz.func99.trans (congrArg some (by kernel_rfl))
 f206:=Tryz.func115.trans (congrArg some (by kernel_rfl))
 f210:=Tryz.func107.trans (congrArg some (by kernel_rfl))
 t3:=Tryz.underlying3
 a3:=Tryz.isAgg3
 z3:=Tryz.sizeOf3
 v3:=Tryz.zeroValue3
 t4:=Tryz.underlying4
 a4:=Tryz.isAgg4
 z4:=Tryz.sizeOf4
 v4:=Tryz.zeroValue4
 t9:=Tryz.underlying9
 a9:=Tryz.isAgg9
 z9:=Tryz.sizeOf9
 v9:=Tryz.zeroValue9
 t24:=Tryz.underlying151
 a24:=Tryz.isAgg151
 z24:=Tryz.sizeOf151
 v24:=Tryz.zeroValue151}
open Go.RowKit in
theorem Tryz.strings_CutPrefix (s p:ByteArray) (w:World) :
  Calls Tryz.prog 99 #[.string s,.string p] w fun e w'=>e=.returned (.tuple #[.string ⟨(Lib.trimPrefix s.data.toList p.data.toList).toArray⟩,.bool (Lib.hasPrefix s.data.toList p.data.toList)])∧w'=w:=Any.strings_CutPrefix Tryz.lays103 s p w
def Tryz.lays219_ren:Go.Shelf.Ren:=⟨fun|219=>116|217=>97|225=>120|224=>121|267=>122|266=>106|314=>126|n=>n,fun|9=>9|3=>3|4=>4|5=>5|46=>173|146=>180|51=>179|n=>n,fun|1=>0|n=>n⟩
theorem Tryz.lays219 : Go.Proofs.Lays.n219 Tryz.prog Tryz.lays219_ren := {
 mixed:=by kernel_rfl
 f217:=Tryz.func97.trans (congrArg some (by kernel_rfl))
 f219:=Tryz.func116.trans (congrArg some (by kernel_rfl))
 f224:=Tryz.func121.trans (congrArg some (by kernel_rfl))
 f225:=Tryz.func120.trans (congrArg some (by kernel_rfl))
 f266:=Tryz.func106.trans (congrArg some (by kernel_rfl))
 f267:=Tryz.func122.trans (congrArg some (by kernel_rfl))
 f314:=Tryz.func126.trans (congrArg some (by kernel_rfl))
 t3:=Tryz.underlying3
 a3:=Tryz.isAgg3
 z3:=Tryz.sizeOf3
 v3:=Tryz.zeroValue3
 t4:=Tryz.underlying4
 a4:=Tryz.isAgg4
 z4:=Tryz.sizeOf4
 v4:=Tryz.zeroValue4
 t5:=Tryz.underlying5
 a5:=Tryz.isAgg5
 z5:=Tryz.sizeOf5
 v5:=Tryz.zeroValue5
 t9:=Tryz.underlying9
 a9:=Tryz.isAgg9
 z9:=Tryz.sizeOf9
 v9:=Tryz.zeroValue9
 t46:=Tryz.underlying173
 a46:=Tryz.isAgg173
 z46:=Tryz.sizeOf173
 v46:=Tryz.zeroValue173
 t51:=Tryz.underlying179
 a51:=Tryz.isAgg179
 z51:=Tryz.sizeOf179
 v51:=Tryz.zeroValue179
 t146:=Tryz.underlying180
 a146:=Tryz.isAgg180
 z146:=Tryz.sizeOf180
 v146:=Tryz.zeroValue180
 g1:=by kernel_rfl}
open Go.RowKit Go.Lib in
theorem Tryz.stringslite_Index_one (s:ByteArray) (c:UInt8) (w:World) :
  Calls Tryz.prog 116 #[.string s,.string ⟨#[c]⟩] w fun e w'=>e=.returned (.int .i64 (Lib.indexByte s.data.toList c))∧w'=w:=Any.stringslite_Index_one Tryz.lays219 s c w
def Tryz.laysNm217_ren:Go.Shelf.Ren:=⟨fun|17=>89|n=>n,fun|24=>30|9=>9|3=>3|4=>4|0=>0|n=>n,fun|n=>n⟩
theorem Tryz.laysNm217 : Go.Proofs.Lays2.n17 Tryz.prog Tryz.laysNm217_ren := {
 mixed:=by kernel_rfl
 f17:=Tryz.func89.trans (congrArg some (by kernel_rfl))
 t0:=Tryz.underlying0
 a0:=Tryz.isAgg0
 z0:=Tryz.sizeOf0
 v0:=Tryz.zeroValue0
 t3:=Tryz.underlying3
 a3:=Tryz.isAgg3
 z3:=Tryz.sizeOf3
 v3:=Tryz.zeroValue3
 t4:=Tryz.underlying4
 a4:=Tryz.isAgg4
 z4:=Tryz.sizeOf4
 v4:=Tryz.zeroValue4
 t9:=Tryz.underlying9
 a9:=Tryz.isAgg9
 z9:=Tryz.sizeOf9
 v9:=Tryz.zeroValue9
 t24:=Tryz.underlying30
 a24:=Tryz.isAgg30
 z24:=Tryz.sizeOf30
 v24:=Tryz.zeroValue30}
open Go.RowKit Go.Lib Go.Sort in
theorem Tryz.slices_Reverse_string (blk off cap:Nat) (zs:List (List UInt8)) (w:World) (hH:Holds encStr w blk off zs.toArray) (hsz:zs.length≤9223372036854775807) :
  Calls Tryz.prog 89 #[.slice (some ⟨blk,off,none⟩) zs.length cap] w fun e w'=>e=.returned (.tuple #[])∧∃n,w'=putRow encStr (Sort.ahead w n) blk off zs.reverse.toArray:=Any.slices_Reverse_string Tryz.laysNm217 blk off cap zs w hH hsz
open Go.RowKit Go.Lib Go.Sort in
theorem Tryz.slices_Reverse_string_empty (a:Option Addr) (cap:Nat) (w:World) :
  Calls Tryz.prog 89 #[.slice a 0 cap] w fun e w'=>e=.returned (.tuple #[])∧w'=w:=Any.slices_Reverse_string_empty Tryz.laysNm217 a cap w
end Go.Proofs

namespace Go.Proofs.YtnhegahpfacdgaaGreat
open Go.RowKit Go.Shelf Plain Go.Sort

set_option maxRecDepth 100000 in
set_option maxHeartbeats 1600000 in
theorem Reach_any {A F:Option Addr} {n c k d:Nat} {ns:List NodV} {ff:List Int} (w:World) (h:RdE nodEn w (Under w.heap.size) A n ns) (hf:RdE Enc.int w (Under w.heap.size) F k ff) (hM:Many ns) (hk:k≤1000) :
  Calls Tryz.prog 22 #[.agg #[.slice A n c],.slice F k d] w (BoolsRet w (reachL ns (walkW ns ff).1)):=by
 have hb1:=below_new (below_self w) (.cells #[.slice A n c] 26)
 have H1:=hide (h.on hb1)
 have HF1:=hide (hf.on hb1)
 have HB1:=hide hb1
 have HM:=hide hM
 clear h hf hb1
 go_enter Tryz.func22,Tryz.ntmps22
 go_wp2_with (first|(go_at_call 42;refine (walked_any _ H1.out HF1.out HM.out hk).mono ?_;rintro e w2 ⟨g,b,rfl,hw2,hb2⟩;have HW2:=hide hw2;have HB2:=hide (below_step HB1.out hb2);clear hw2 hb2)|(go_at_call 43;refine (reach_any _ HW2.out (walk_ok ns ff) HM.out).mono ?_;rintro e w3 ⟨A3,n3,c3,rfl,hn3,hr3,hb3,hf3⟩;have HR3:=hide hr3;have HF3:=hide hf3;clear hf3;have HB3:=hide (HB2.out.trans (hb3.mono HB2.out.size));clear hr3 hb3))
 go_ret
 exact ⟨A3,n3,c3,rfl,hn3,HR3.out,HB3.out,fun b o e=>Nat.le_trans HB2.out.size (HF3.out b o e)⟩
def wayI (l:List WayV) (i:Int):Option WayV:=if 0≤i∧i < (l.length:Int) then l[i.toNat]? else none
def upsF (l : List WayV) : Nat → Int → List (List UInt8)
 | 0,_=>[]
 | f+1,i=>match wayI l i with
  | none=>[]
  | some y=>if 0≤y.up∧y.up < i then y.name::upsF l f y.up else []
def pathS (l:List WayV) (i:Int):List (List UInt8):=(upsF l l.length i).reverse
theorem upsF_len (l : List WayV) : ∀ (f : Nat) (i : Int), (upsF l f i).length ≤ f
 | 0,_=>by simp [upsF]
 | f+1,i=>by
  unfold upsF
  split
  ·simp
  ·rename_i y _
   split
   ·have:=upsF_len l f y.up
    simp only [List.length_cons]
    omega
   ·simp
theorem upsF_none {l : List WayV} {i : Int} (h : wayI l i = none) : ∀ f, upsF l f i = []
 | 0=>rfl
 | f+1=>by unfold upsF;rw [h]
theorem upsF_stop {l : List WayV} {i : Int} {y : WayV} (h : wayI l i = some y) (hn : ¬ (0 ≤ y.up ∧ y.up < i)) : ∀ f, upsF l f i = []
 | 0=>rfl
 | f+1=>by unfold upsF;rw [h];simp only [if_neg hn]
theorem upsF_go {l:List WayV} {i:Int} {y:WayV} {f:Nat} (h:wayI l i=some y) (hn:0≤y.up∧y.up < i):upsF l (f+1) i=y.name::upsF l f y.up:=by
 conv=>lhs;unfold upsF
 rw [h]
 simp only [if_pos hn]
theorem wayI_some {l:List WayV} {i:Int} {y:WayV} (h:wayI l i=some y):∃j:Nat,i=(j:Int)∧l[j]?=some y:=by
 unfold wayI at h
 split at h
 ·rename_i hh
  obtain ⟨j,rfl⟩:=Int.eq_ofNat_of_zero_le hh.1
  exact ⟨j,rfl,by simpa using h⟩
 ·cases h
theorem way_get {w:World} {D:Nat→Prop} {A:Option Addr} {n j:Nat} {l:List WayV} {y:WayV} (h:RdE wayEn w D A n l) (hy:l[j]?=some y):∃b o,A=some ⟨b,o,none⟩∧D b∧∀i v,(wayC y)[i]?=some v→w.cell? ⟨b,o+j*3+i,none⟩=some v:=by
 have hj:=(List.getElem?_eq_some_iff.1 hy).1
 obtain ⟨b,o,e,hb,hc⟩:=h.2 (by rw [←h.1];omega)
 obtain ⟨cs,hR,hcs⟩:=hc j y hy
 refine ⟨b,o,e,hb,fun i v hv=>?_⟩
 have:=hcs i v (by rw [show cs=wayC y from hR];exact hv)
 rwa [show o+(j*wayEn.k+i)=o+j*3+i from by show o+(j*3+i)=o+j*3+i;omega] at this
theorem ReverseS_own {base g n c:Nat} {l:List (List UInt8)} (w:World) (h:Ow st w base 9 (some ⟨g,0,none⟩) n c l) (hn:n≤1000000) :
  Calls Tryz.prog 89 #[.slice (some ⟨g,0,none⟩) n c] w fun e w'=>e=.returned (.tuple #[])∧Ow st w' base 9 (some ⟨g,0,none⟩) n c l.reverse∧w.grownBy w' (some g):=by
 have hl:=h.len
 rcases h.2 with ⟨h0,_⟩|⟨g',cap,cur,he,hbase,hb,h1,h2,h3,h4⟩
 ·cases h0
 ·cases he
  subst hl
  refine (Tryz.slices_Reverse_string g 0 c l w (holds_of_block hb (by rw [Nat.mul_one] at h4;exact h4)) (by omega)).mono ?_
  rintro e w' ⟨rfl,q,rfl⟩
  have ho:Ow st (grow (putRow encStr (Sort.ahead w q) g 0 l.reverse.toArray) #[]) base 9 (some ⟨g,0,none⟩) l.length c l.reverse :=
   ownsRow_sorted (by simp) hbase hb h1 h2 h3
  have hg:=grownBy_sorted (w:=w) (g:=g) (n:=q) (os:=#[]) l.reverse.toArray
  rw [show ∀w:World,grow w #[]=w from fun w=>by simp [grow]] at ho hg
  exact ⟨rfl,ho,hg⟩
set_option maxRecDepth 100000 in
theorem str_info:(Tryz.prog.info? 9).map (fun i=>(i.zero,i.size,i.bytes))=some (some (.string ⟨#[]⟩),1,16):=by kernel_rfl
set_option maxRecDepth 100000 in
set_option maxHeartbeats 4000000 in
theorem Path_any {A:Option Addr} {n c:Nat} {l:List WayV} {i:Int} (w:World) (h:RdE wayEn w (Under w.heap.size) A n l) (hn:n≤1000) :
  Calls Tryz.prog 64 #[.slice A n c,.int .i64 i] w (ORet st w 9 (pathS l i).length (pathS l i)):=by
 have H:=hide h
 have hl:=h.1
 obtain ⟨T,hT⟩:∃T,upsF l l.length i=T:=⟨_,rfl⟩
 have hTl:T.length≤1000:=by have:=upsF_len l l.length i;rw [hT] at this;omega
 have HP:=hide (show pathS l i=T.reverse from by unfold pathS;rw [hT])
 rw [HP.out,List.length_reverse]
 clear h HP
 go_enter Tryz.func64,Tryz.ntmps64
 go_wp2
 go_loopw [1,5] (fun vi v5 wr=>∃(f:Nat) (i':Int) (A5:Option Addr) (c5:Nat) (acc:List (List UInt8)),vi=.int .i64 i'∧v5=.slice A5 acc.length c5∧Ow st wr w.heap.size 9 A5 acc.length c5 acc∧acc++upsF l f i'=T∧(i' < (l.length:Int)→(i'+1).toNat≤f)∧Below w.heap.size w wr) (fun vi _ _=>match vi with|.int _ x=>if x < (l.length:Int) then (x+1).toNat else l.length+1|_=>0)
 case atStart=>exact ⟨l.length,i,none,0,[],rfl,rfl,Ow.nil_ _ _ _ _,hT,fun h=>by omega,below_self _⟩
 case round =>
  obtain ⟨f,i',A5,c5,acc,rfl,rfl,ho,ht,hf,hbr⟩:=hrel
  have HO:=hide ho
  have HBR:=hide hbr
  have HT:=hide ht
  have hbr':=hbr
  clear ho hbr ht
  cases hw:wayI l i' with
  | none =>
   have hr1:(decide (0≤i')&&decide (i' < (n:Int)))=false:=by
    unfold wayI at hw
    split at hw
    ·rename_i hh
     rw [List.getElem?_eq_getElem (by omega)] at hw
     cases hw
    ·rename_i hh
     rw [Bool.and_eq_false_iff,decide_eq_false_iff_not,decide_eq_false_iff_not]
     omega
   rw [upsF_none hw] at HT
   clear hw
   rw [List.append_nil] at HT
   obtain rfl:acc=T:=HT.out
   clear HT
   by_cases h0:acc.length=0
   ·obtain rfl:acc=[]:=List.eq_nil_of_length_eq_zero h0
    simp only [List.length_nil] at HO ⊢
    go_wp2_with (first|(go_at_call 88;refine (there_any _ hr1).mono ?_;rintro e w' ⟨rfl,rfl⟩;clear hr1)|(go_at_call 89;refine (Tryz.slices_Reverse_string_empty A5 c5 _).mono ?_;rintro e w' ⟨rfl,rfl⟩))
    go_ret
    exact ⟨A5,c5,rfl,HO.out,HBR.out⟩
   ·obtain ⟨g5,rfl,hb5,-⟩:=HO.out.at_ (by omega)
    have hbsz:=HBR.out.size
    go_wp2_with (first|(go_at_call 88;refine (there_any _ hr1).mono ?_;rintro e w' ⟨rfl,rfl⟩;clear hr1)|(go_at_call 89;refine (ReverseS_own _ HO.out (by omega)).mono ?_;rintro e w' ⟨rfl,ho2,hg2⟩;have HO2:=hide ho2;have HG2:=hide hg2;clear ho2 hg2))
    go_ret
    exact ⟨some ⟨g5,0,none⟩,c5,rfl,HO2.out,HBR.out.grown HG2.out hbsz (pu4 (by omega))⟩
  | some y =>
   obtain ⟨j,rfl,hy⟩:=wayI_some hw
   have hjl:=(List.getElem?_eq_some_iff.1 hy).1
   obtain ⟨b,o,rfl,hbB,hcy⟩:=way_get (H.out.under hbr' (Nat.le_refl _)) hy
   have qu:wr.cell? ⟨b,o+j*3+1,none⟩=some (.int .i64 y.up):=hcy 1 _ rfl
   have qn:wr.cell? ⟨b,o+j*3+2,none⟩=some (.string ⟨y.name.toArray⟩):=hcy 2 _ rfl
   have hr1:(decide (0≤(j:Int))&&decide ((j:Int) < (n:Int)))=true:=by simp;omega
   have hjt:((j:Nat):Int).toNat=j:=by omega
   have hjn:j < n:=by omega
   clear hcy
   by_cases h1:y.up < (j:Int)
   ·have hd1:decide (y.up < (j:Int))=true:=by simpa using h1
    by_cases h2:0≤y.up
    ·have hr2:(decide (0≤y.up)&&decide (y.up < (n:Int)))=true:=by simp;omega
     have hfj:=hf (by omega)
     obtain ⟨f',rfl⟩:∃f',f=f'+1:=⟨f - 1,by omega⟩
     rw [upsF_go hw ⟨h2,h1⟩] at HT
     have hacc:acc.length+1≤1000:=by have:=congrArg List.length HT.out;rw [List.length_append,List.length_cons] at this;omega
     have hbsz:=HBR.out.size
     clear hw hy hf
     go_wp2_with (first|(go_at_call 88;refine (there_any _ hr1).mono ?_;rintro e w' ⟨rfl,rfl⟩;clear hr1)|(go_at_call 88;refine (there_any _ hr2).mono ?_;rintro e w' ⟨rfl,rfl⟩;clear hr2)|(at_builtin;refine wpList_append_Rd (f:=st) _ rfl (.tmp 27) (.tmp 33) 30 rfl w.heap.size 9 (.string ⟨#[]⟩) 16 Tryz.underlying30 str_info rfl (fun _=>rfl) _ acc.length _ acc rfl (HO.out.alloc _) _ _ 1 1 [y.name] rfl (Rd.one _ _ rfl) (acc.length+1) rfl (by omega) (by omega) (by simp only [World.size_alloc];omega) ?_;intro A6 c6 w6 ho6 hb6;have HO6:=hide ho6;have HB6:=hide hb6;have qu6:w6.cell? ⟨b,o+j*3+1,none⟩=some (.int .i64 y.up):=(hb6.cell (p:=⟨b,o+j*3+1,none⟩) hbB).trans (((below_new (below_self _) _).cell (p:=⟨b,o+j*3+1,none⟩) (Nat.lt_of_lt_of_le hbB hbsz)).trans qu);clear ho6 hb6))
     go_roundw
     case rel=>exact ⟨f',y.up,A6,c6,acc++[y.name],rfl,by rw [List.length_append];rfl,by rw [List.length_append];exact HO6.out,by rw [List.append_assoc];exact HT.out,fun _=>by omega,(HBR.out.alloc hbsz _).trans HB6.out⟩
     case measure =>
      have e1:y.up < (l.length:Int):=by omega
      have e2:(j:Int) < (l.length:Int):=by omega
      simp only [e1,e2,if_true]
      omega
    ·have hr2:(decide (0≤y.up)&&decide (y.up < (n:Int)))=false:=by simp;omega
     rw [upsF_stop hw (fun h=>h2 h.1)] at HT
     clear hw hy hf
     rw [List.append_nil] at HT
     obtain rfl:acc=T:=HT.out
     clear HT
     by_cases h0:acc.length=0
     ·obtain rfl:acc=[]:=List.eq_nil_of_length_eq_zero h0
      simp only [List.length_nil] at HO ⊢
      go_wp2_with (first|(go_at_call 88;refine (there_any _ hr1).mono ?_;rintro e w' ⟨rfl,rfl⟩;clear hr1)|(go_at_call 88;refine (there_any _ hr2).mono ?_;rintro e w' ⟨rfl,rfl⟩;clear hr2)|(go_at_call 89;refine (Tryz.slices_Reverse_string_empty A5 c5 _).mono ?_;rintro e w' ⟨rfl,rfl⟩))
      go_ret
      exact ⟨A5,c5,rfl,HO.out,HBR.out⟩
     ·obtain ⟨g5,rfl,hb5,-⟩:=HO.out.at_ (by omega)
      have hbsz:=HBR.out.size
      go_wp2_with (first|(go_at_call 88;refine (there_any _ hr1).mono ?_;rintro e w' ⟨rfl,rfl⟩;clear hr1)|(go_at_call 88;refine (there_any _ hr2).mono ?_;rintro e w' ⟨rfl,rfl⟩;clear hr2)|(go_at_call 89;refine (ReverseS_own _ HO.out (by omega)).mono ?_;rintro e w' ⟨rfl,ho2,hg2⟩;have HO2:=hide ho2;have HG2:=hide hg2;clear ho2 hg2))
      go_ret
      exact ⟨some ⟨g5,0,none⟩,c5,rfl,HO2.out,HBR.out.grown HG2.out hbsz (pu4 (by omega))⟩
   ·have hd1:decide (y.up < (j:Int))=false:=by simpa using h1
    rw [upsF_stop hw (fun h=>h1 h.2)] at HT
    clear hw hy hf
    rw [List.append_nil] at HT
    obtain rfl:acc=T:=HT.out
    clear HT
    by_cases h0:acc.length=0
    ·obtain rfl:acc=[]:=List.eq_nil_of_length_eq_zero h0
     simp only [List.length_nil] at HO ⊢
     go_wp2_with (first|(go_at_call 88;refine (there_any _ hr1).mono ?_;rintro e w' ⟨rfl,rfl⟩;clear hr1)|(go_at_call 89;refine (Tryz.slices_Reverse_string_empty A5 c5 _).mono ?_;rintro e w' ⟨rfl,rfl⟩))
     go_ret
     exact ⟨A5,c5,rfl,HO.out,HBR.out⟩
    ·obtain ⟨g5,rfl,hb5,-⟩:=HO.out.at_ (by omega)
     have hbsz:=HBR.out.size
     go_wp2_with (first|(go_at_call 88;refine (there_any _ hr1).mono ?_;rintro e w' ⟨rfl,rfl⟩;clear hr1)|(go_at_call 89;refine (ReverseS_own _ HO.out (by omega)).mono ?_;rintro e w' ⟨rfl,ho2,hg2⟩;have HO2:=hide ho2;have HG2:=hide hg2;clear ho2 hg2))
     go_ret
     exact ⟨some ⟨g5,0,none⟩,c5,rfl,HO2.out,HBR.out.grown HG2.out hbsz (pu4 (by omega))⟩
end Go.Proofs.YtnhegahpfacdgaaGreat

namespace Go.Proofs.YtnhegahpfacdgaaGreat
open Go.RowKit Go.Shelf Plain

set_option maxRecDepth 100000 in
set_option maxHeartbeats 4000000 in
theorem RPath_any {A:Option Addr} {n c:Nat} {l:List WayV} {i:Int} (w:World) (h:RdE wayEn w (Under w.heap.size) A n l) (hn:n≤1000) :
  Calls Tryz.prog 76 #[.slice A n c,.int .i64 i] w (ORet st w 9 (pathS l i).length (pathS l i)):=by
 have H:=hide h
 have hl:=h.1
 obtain ⟨T,hT⟩:∃T,pathS l i=T:=⟨_,rfl⟩
 have hTl:T.length≤1000:=by have:=upsF_len l l.length i;rw [←hT];unfold pathS;rw [List.length_reverse];omega
 rw [hT]
 have hb0:=below_new (below_self w) (.cells #[] 9)
 have ho0:=Ow.empty st w 9
 have HB0:=hide hb0
 have HO0:=hide ho0
 clear h hb0 ho0
 go_enter Tryz.func76,Tryz.ntmps76
 go_wp2
 go_loopw [1,5] (fun vi v5 wr=>∃(f:Nat) (i':Int) (A5:Option Addr) (c5:Nat) (acc:List (List UInt8)),vi=.int .i64 i'∧v5=.slice A5 acc.length c5∧Ow st wr w.heap.size 9 A5 acc.length c5 acc∧(upsF l f i').reverse++acc=T∧(i' < (l.length:Int)→(i'+1).toNat≤f)∧Below w.heap.size w wr) (fun vi _ _=>match vi with|.int _ x=>if x < (l.length:Int) then (x+1).toNat else l.length+1|_=>0)
 case atStart=>exact ⟨l.length,i,_,0,[],rfl,rfl,HO0.out,by rw [List.append_nil];exact hT,fun h=>by omega,HB0.out⟩
 case round =>
  obtain ⟨f,i',A5,c5,acc,rfl,rfl,ho,ht,hf,hbr⟩:=hrel
  have HO:=hide ho
  have HBR:=hide hbr
  have HT:=hide ht
  have hbr':=hbr
  clear ho hbr ht
  cases hw:wayI l i' with
  | none =>
   rw [upsF_none hw,List.reverse_nil,List.nil_append] at HT
   obtain rfl:acc=T:=HT.out
   clear HT
   by_cases h1:0≤i'
   ·have d1:decide (0≤i')=true:=by simpa using h1
    have d2:decide (i' < (n:Int))=false:=by
     unfold wayI at hw
     split at hw
     ·rename_i hh
      rw [List.getElem?_eq_getElem (by omega)] at hw
      cases hw
     ·rw [decide_eq_false_iff_not]
      omega
    clear hw
    go_wp2
    go_ret
    exact ⟨A5,c5,rfl,HO.out,HBR.out⟩
   ·have d1:decide (0≤i')=false:=by simpa using h1
    clear hw
    go_wp2
    go_ret
    exact ⟨A5,c5,rfl,HO.out,HBR.out⟩
  | some y =>
   obtain ⟨j,rfl,hy⟩:=wayI_some hw
   have hjl:=(List.getElem?_eq_some_iff.1 hy).1
   obtain ⟨b,o,rfl,hbB,hcy⟩:=way_get (H.out.under hbr' (Nat.le_refl _)) hy
   have qu:wr.cell? ⟨b,o+j*3+1,none⟩=some (.int .i64 y.up):=hcy 1 _ rfl
   have qn:wr.cell? ⟨b,o+j*3+2,none⟩=some (.string ⟨y.name.toArray⟩):=hcy 2 _ rfl
   have d1:decide (0≤(j:Int))=true:=by simp
   have d2:decide ((j:Int) < (n:Int))=true:=by simp;omega
   have hjt:((j:Nat):Int).toNat=j:=by omega
   have hjn:j < n:=by omega
   clear hcy
   by_cases h2:0≤y.up
   ·have d3:decide (0≤y.up)=true:=by simpa using h2
    by_cases h1:y.up < (j:Int)
    ·have d4:decide (y.up < (j:Int))=true:=by simpa using h1
     have hfj:=hf (by omega)
     obtain ⟨f',rfl⟩:∃f',f=f'+1:=⟨f - 1,by omega⟩
     rw [upsF_go hw ⟨h2,h1⟩] at HT
     have hacc:acc.length+1≤1000:=by have:=congrArg List.length HT.out;rw [List.length_append,List.length_reverse,List.length_cons] at this;omega
     have hbsz:=HBR.out.size
     clear hw hy hf
     go_wp2_with (at_builtin;refine wpList_append_Rd (f:=st) _ rfl (.tmp 37) (.tmp 38) 30 rfl wr.heap.size 9 (.string ⟨#[]⟩) 16 Tryz.underlying30 str_info rfl (fun _=>rfl) _ 1 _ [y.name] rfl (Ow.lit wr 9 rfl rfl (by omega)) _ _ acc.length _ acc rfl (HO.out.alloc _).rd (acc.length+1) (by omega) (by omega) (by omega) (by simp only [World.size_alloc];omega) ?_;intro A6 c6 w6 ho6 hb6;have HO6:=hide ho6;have HB6:=hide hb6;have qu6:w6.cell? ⟨b,o+j*3+1,none⟩=some (.int .i64 y.up):=(hb6.cell (p:=⟨b,o+j*3+1,none⟩) (Nat.lt_of_lt_of_le hbB hbsz)).trans (((below_new (below_self _) _).cell (p:=⟨b,o+j*3+1,none⟩) (Nat.lt_of_lt_of_le hbB hbsz)).trans qu);clear ho6 hb6)
     go_roundw
     case rel=>exact ⟨f',y.up,A6,c6,y.name::acc,rfl,rfl,HO6.out.rebase hbsz,by have e:=HT.out;rw [List.reverse_cons,List.append_assoc] at e;exact e,fun _=>by omega,(HBR.out.alloc hbsz _).trans (HB6.out.mono hbsz)⟩
     case measure =>
      have e1:y.up < (l.length:Int):=by omega
      have e2:(j:Int) < (l.length:Int):=by omega
      simp only [e1,e2,if_true]
      omega
    ·have d4:decide (y.up < (j:Int))=false:=by simpa using h1
     rw [upsF_stop hw (fun h=>h1 h.2),List.reverse_nil,List.nil_append] at HT
     obtain rfl:acc=T:=HT.out
     clear HT hw hy hf
     go_wp2
     go_ret
     exact ⟨A5,c5,rfl,HO.out,HBR.out⟩
   ·have d3:decide (0≤y.up)=false:=by simpa using h2
    rw [upsF_stop hw (fun h=>h2 h.1),List.reverse_nil,List.nil_append] at HT
    obtain rfl:acc=T:=HT.out
    clear HT hw hy hf
    go_wp2
    go_ret
    exact ⟨A5,c5,rfl,HO.out,HBR.out⟩
set_option maxRecDepth 100000 in
set_option maxHeartbeats 1600000 in
theorem At_any {A:Option Addr} {n c:Nat} {ns:List NodV} {i:Int} (w:World) (h:RdE nodEn w (Under w.heap.size) A n ns) (hm:ns.length≤100000):Calls Tryz.prog 50 #[.agg #[.slice A n c],.int .i64 i] w (NodRet w w.heap.size (nodAt ns i)):=by
 have hl:=h.1
 obtain ⟨rz0,rz,hbz,-⟩:=rows2 w [.slice A n c] (nodC nod0 (.slice none 0 0) (.slice none 0 0)) 26 65
 have HZ:=hide rz
 have HB:=hide hbz
 have qb:((w.alloc (.cells [Value.slice A n c].toArray 26)).alloc (.cells (nodC nod0 (.slice none 0 0) (.slice none 0 0)).toArray 65)).cell? ⟨w.heap.size,0,none⟩=some (.slice A n c):=rz0.cell 0
 have hN:=h
 by_cases h1:i < 1
 ·have e:nodAt ns i=nod0:=nodAt_out (by omega)
  have d1:decide (i < 1)=true:=by simpa using h1
  rw [e]
  clear h hN rz rz0 hbz e
  go_enter Tryz.func50,Tryz.ntmps50
  go_wp2_with (refine wpList_storeW rfl 65 (.tmp 4) (.tmp 14) rfl 13 nod_size (w.heap.size+1) 65 rfl (nodC nod0 (.slice none 0 0) (.slice none 0 0)) (nodC nod0 (.slice none 0 0) (.slice none 0 0)) rfl HZ.out rfl rfl (nodC_one nod0 none none 0 0 0 0) ?_;intro w9 hr9 hg9 hs9;have HR9:=hide hr9;have HB9:=hide (HB.out.grown hg9 HB.out.size (pu4 (by omega)));clear hr9 hg9 hs9)
  exact bodyPost_ret (res_cell Tryz.results50 rfl nod_agg nod_size HR9.out rfl) rfl (NodRet.of (Nat.le_refl _) (RdE.none_ _ _ _ _) (Nat.le_refl _) (RdE.none_ _ _ _ _) HB9.out (Nat.le_refl _))
 ·have d1:decide (i < 1)=false:=by simpa using h1
  by_cases h2:(n:Int) < i
  ·have e:nodAt ns i=nod0:=nodAt_out (by omega)
   have d2:decide ((n:Int) < i)=true:=by simpa using h2
   rw [e]
   clear h hN rz rz0 hbz e
   go_enter Tryz.func50,Tryz.ntmps50
   go_wp2_with (refine wpList_storeW rfl 65 (.tmp 4) (.tmp 14) rfl 13 nod_size (w.heap.size+1) 65 rfl (nodC nod0 (.slice none 0 0) (.slice none 0 0)) (nodC nod0 (.slice none 0 0) (.slice none 0 0)) rfl HZ.out rfl rfl (nodC_one nod0 none none 0 0 0 0) ?_;intro w9 hr9 hg9 hs9;have HR9:=hide hr9;have HB9:=hide (HB.out.grown hg9 HB.out.size (pu4 (by omega)));clear hr9 hg9 hs9)
   exact bodyPost_ret (res_cell Tryz.results50 rfl nod_agg nod_size HR9.out rfl) rfl (NodRet.of (Nat.le_refl _) (RdE.none_ _ _ _ _) (Nat.le_refl _) (RdE.none_ _ _ _ _) HB9.out (Nat.le_refl _))
  ·have d2:decide ((n:Int) < i)=false:=by simpa using h2
   obtain ⟨j,x,rfl,hx,e⟩:=nodAt_in (ns:=ns) (i:=i) (by omega)
   rw [e]
   obtain ⟨b,o,cs,rfl,hbB,hNd,hcell⟩:=hN.get_nod hx
   have hjn:j < n:=by omega
   have hcell1:=fun j' v (hv:cs[j']?=some v)=>(hbz.cell (p:=⟨b,o+j*13+j',none⟩) hbB).trans (hcell j' v hv)
   obtain ⟨A1,n1,c1,C1,m1,d1',rfl,e2,e3,e4,e5⟩:=hNd
   have HC:=hide hcell1
   have E3:=hide e3
   have E5:=hide e5
   have hw1:IntKind.i64.wrap ((j:Int)+1 - 1)=(j:Int):=by rw [show (j:Int)+1 - 1=j from by omega];exact IntWalk.i64_in _ (by omega)
   have hw2:IntKind.i64.wrap (j:Int)=(j:Int):=IntWalk.i64_in _ (by omega)
   clear h hN rz rz0 hbz e hcell hcell1 e3 e5 hx h1 h2
   go_enter Tryz.func50,Tryz.ntmps50
   go_wp2_with (first|(refine wpList_loadX rfl 65 (.tmp 19) rfl 13 nod_agg nod_size b (o+j*13) rfl (nodC x (.slice A1 n1 c1) (.slice C1 m1 d1')) HC.out rfl ?_)|(refine wpList_storeW rfl 65 (.tmp 4) (.tmp 20) rfl 13 nod_size (w.heap.size+1) 65 rfl (nodC nod0 (.slice none 0 0) (.slice none 0 0)) (nodC x (.slice A1 n1 c1) (.slice C1 m1 d1')) rfl HZ.out rfl rfl (nodC_one x A1 C1 n1 c1 m1 d1') ?_;intro w9 hr9 hg9 hs9;have HR9:=hide hr9;have HB9:=hide (HB.out.grown hg9 HB.out.size (pu4 (by omega)));clear hr9 hg9 hs9))
   exact bodyPost_ret (res_cell Tryz.results50 rfl nod_agg nod_size HR9.out rfl) rfl (NodRet.of e2 E3.out e4 E5.out HB9.out (Nat.le_refl _))
end Go.Proofs.YtnhegahpfacdgaaGreat

namespace Go.Proofs.YtnhegahpfacdgaaGreat
open Go.RowKit Go.Shelf Plain Go.Maps

def SetN (w:World) (b c:Nat) (f:Int×Int→Bool):Prop:=∃D:DataW Unit,w.ownsMap Tryz.prog 144 unitElem b c D∧∀x y kl,i64 x→i64 y→keyOf Tryz.prog 144 (.agg #[.int .i64 x,.int .i64 y])=some kl→Maps.has D kl=f (x,y)
section
variable {w w' : World} {b c : Nat} {f : Int × Int → Bool}
theorem SetN.made (w:World):SetN (w.alloc (.map #[] 0)) w.heap.size 0 (fun _=>false):=⟨.map [],World.ownsMap_made w _ _ _,fun _ _ _ _ _ _=>rfl⟩
theorem SetN.lt (h:SetN w b c f):b < w.heap.size:=by obtain ⟨D,h1,h2⟩:=h;exact h1.lt
theorem SetN.kept {row:Option Nat} (h:SetN w b c f) (hg:w.grownBy w' row) (hne:some b≠row):SetN w' b c f:=by obtain ⟨D,h1,h2⟩:=h;exact ⟨D,h1.kept hg hne,h2⟩
theorem SetN.on (h:SetN w b c f) (hb:Below w.heap.size w w'):SetN w' b c f:=h.kept (grown_below hb) (by simp)
theorem SetN.eq {g:Int×Int→Bool} (h:SetN w b c f) (e:f=g):SetN w b c g:=e ▸ h
theorem SetN.obj (h:SetN w b c f):∃o:Obj,w.heap[b]?=some o∧(∀x,o≠.deferred x)∧o.isCells=false:=by
 obtain ⟨D,⟨es,clock,h1,_⟩,h2⟩:=h
 exact ⟨_,h1,(fun x e=>by cases e),rfl⟩
end
end Go.Proofs.YtnhegahpfacdgaaGreat

namespace Go.Proofs.YtnhegahpfacdgaaGreat
open Go.RowKit Go.Shelf Plain

theorem wpList_litW {P:Program} {w w':World} {ops:Array Oper} {rest:List Oper} {o:Oper} {a:Act} {Q:Exit→Act→World→Prop} (hgd:o.guard=none) (t:Nat) (x:Operand) (ho:o.op=.buildSlice t 1 #[(0,x)]) (vx v:Value) (hx:a.eval x=vx) (hr:(Instr.buildSlice t 1 #[(0,vx)]).run P w=.ok v w') (hK:wpList P ops Q rest (a.put o.dst v) w'):wpList P ops Q (o::rest) a w:=by
 refine wpList_plain hgd fun K hK'=>?_
 unfold Oper.wp execOp
 simp only [ho,List.map_toArray,List.map_cons,List.map_nil,hx,Sem.run_bind,Sem.run_pure,Result.andThen_ok,hr]
 exact hK' _ _ hK
end Go.Proofs.YtnhegahpfacdgaaGreat

namespace Go.Proofs.YtnhegahpfacdgaaGreat
open Go.RowKit Go.Shelf Plain

def nodZ:List Value:=nodC nod0 (.slice none 0 0) (.slice none 0 0)
theorem flat_put {k:Nat}:∀ {css:List (List Value)} (_:∀cs∈css,cs.length=k) (j:Nat) (cs:List Value) (_:cs.length=k) (_:j < css.length),splice css.flatten (j*k) cs=(css.set j cs).flatten:=by
 intro css
 induction css with
 | nil=>intro _ j cs _ hj;simp at hj
 | cons c0 r ih =>
  intro hk j cs hc hj
  have h0:c0.length=k:=hk c0 List.mem_cons_self
  cases j with
  | zero =>
   simp only [splice,Nat.zero_mul,List.take_zero,List.nil_append,Nat.zero_add,List.set_cons_zero,List.flatten_cons]
   rw [List.drop_left' (by omega)]
  | succ j =>
   have:=ih (fun c h=>hk c (List.mem_cons_of_mem _ h)) j cs hc (by simpa using hj)
   simp only [List.set_cons_succ,List.flatten_cons,←this]
   unfold splice
   have e1:(j+1)*k=c0.length+j*k:=by rw [Nat.succ_mul,h0];omega
   rw [e1,List.take_append,List.take_of_length_le (by omega),Nat.add_sub_cancel_left,List.append_assoc,show c0.length+j*k+cs.length=c0.length+(j*k+cs.length) from by omega,List.drop_append,List.drop_of_length_le (by omega),Nat.add_sub_cancel_left,List.nil_append]
def NodesAt (B g:Nat) (l:List NodV) (W:World):Prop:=∃css,RowL W g 65 css.flatten∧CellsE nodEn W (fun b=>B≤b∧b < W.heap.size∧b≠g) css l
theorem NodesAt.on {B g:Nat} {l:List NodV} {W W':World} (h:NodesAt B g l W) (hb:Below W.heap.size W W'):NodesAt B g l W':=by
 obtain ⟨css,h1,h2⟩:=h
 exact ⟨css,h1.on hb,h2.mono (fun b hb'=>hb.block b hb'.2.1) (fun b hb'=>⟨hb'.1,Nat.lt_of_lt_of_le hb'.2.1 hb.size,hb'.2.2⟩)⟩
theorem NodesAt.len {B g:Nat} {l:List NodV} {W:World} (h:NodesAt B g l W):∃cs,RowL W g 65 cs∧cs.length=l.length*13:=by
 obtain ⟨css,h1,h2⟩:=h
 exact ⟨_,h1,by rw [flat_len h2.lens,h2.1];rfl⟩
theorem NodesAt.put {B g j:Nat} {l:List NodV} {x:NodV} {W W':World} {cur cs:List Value} (h:NodesAt B g l W) (hj:j < l.length) (hx:NodR W (fun b=>B≤b∧b < W.heap.size∧b≠g) cs x) (hcur:RowL W g 65 cur) (hr:RowL W' g 65 (splice cur (j*13) cs)) (hg:W.grownBy W' (some g)):NodesAt B g (l.set j x) W':=by
 obtain ⟨css,h1,h2⟩:=h
 have hc:cs.length=13:=nodEn.len hx
 have e:cur=css.flatten:=by
  have:=h1.symm.trans hcur
  injection this with this
  injection this with this
  simpa using this.symm
 subst e
 rw [flat_put (k:=13) (fun c hc=>h2.lens c hc) j cs hc (by rw [h2.1];exact hj)] at hr
 have hk:Kept (fun b=>B≤b∧b < W.heap.size∧b≠g) W W':=fun b hb=>hg.block b hb.2.1 (fun e=>hb.2.2 (Option.some.inj e))
 have hD:∀b,(B≤b∧b < W.heap.size∧b≠g)→(B≤b∧b < W'.heap.size∧b≠g):=fun b hb=>⟨hb.1,Nat.lt_of_lt_of_le hb.2.1 hg.size,hb.2.2⟩
 refine ⟨css.set j cs,hr,by rw [List.length_set,List.length_set,h2.1],fun i c y hc1 hy1=>?_⟩
 by_cases hi:j=i
 ·subst hi
  rw [List.getElem?_set_self (by rw [h2.1];exact hj)] at hc1
  rw [List.getElem?_set_self hj] at hy1
  cases hc1
  cases hy1
  exact NodR.mono hx hk hD
 ·rw [List.getElem?_set_ne hi] at hc1 hy1
  exact nodEn.mono (h2.2 i c y hc1 hy1) hk hD
theorem NodesAt.rd {B g n:Nat} {l:List NodV} {W:World} (h:NodesAt B g l W) (hB:B≤g) (hn:l.length=n):RdE nodEn W (fun b=>B≤b∧b < W.heap.size) (some ⟨g,0,none⟩) n l:=by
 subst hn
 obtain ⟨css,h1,h2⟩:=h
 refine ⟨rfl,fun _=>⟨g,0,rfl,⟨hB,h1.lt⟩,fun i x hx=>?_⟩⟩
 have hi:=(List.getElem?_eq_some_iff.1 hx).1
 have hc:css[i]?=some (css[i]'(by rw [h2.1];exact hi)):=List.getElem?_eq_getElem _
 have hR:=h2.2 i _ x hc hx
 refine ⟨_,nodEn.mono hR (fun _ _=>rfl) (fun b hb=>⟨hb.1,hb.2.1⟩),fun j v hv=>?_⟩
 have hj:j < 13:=by have:=(List.getElem?_eq_some_iff.1 hv).1;have h13:=nodEn.len hR;rw [h13] at this;exact this
 rw [Nat.zero_add,h1.cell]
 exact (flat_get h2.lens hc hj).trans hv
set_option maxRecDepth 100000 in
theorem nodw_info:(Tryz.prog.info? 65).map (fun i=>(i.zero,i.size,i.bytes))=some (some (.agg nodZ.toArray),13,144):=by kernel_rfl
end Go.Proofs.YtnhegahpfacdgaaGreat

namespace Go.Proofs.YtnhegahpfacdgaaGreat
open Go.RowKit Go.Shelf Plain

theorem cell_same {W W':World} {b o:Nat} (h:W'.heap[b]?=W.heap[b]?):W'.cell? ⟨b,o,none⟩=W.cell? ⟨b,o,none⟩:=by
 unfold World.cell?
 simp only [h]
set_option maxRecDepth 100000 in
theorem lay_agg:∀w,(isAgg 26).run Tryz.prog w=.ok true w:=fun w=>by kernel_rfl
set_option maxRecDepth 100000 in
theorem lay_size:∀w,(Go.sizeOf 26).run Tryz.prog w=.ok 1 w:=fun w=>by kernel_rfl
end Go.Proofs.YtnhegahpfacdgaaGreat

namespace Go.Proofs.YtnhegahpfacdgaaGreat
open Go.RowKit

theorem quietL {P:Program} {C:World→Prop} {o:Oper} {a:Act} {K:Act→Prop} (T:Nat) (x:Operand) (ho:o.op=.load T x) (p v:Value) (hx:a.eval x=p) (hl:∀w,C w→(Instr.loadAt T p).run P w=.ok v w) (hk:K (a.put o.dst v)):o.quiet P a C K :=
 ⟨v,fun w hw=>by
  unfold Oper.quietAt execOp
  simp only [ho,Sem.run_bind,Sem.run_pure,Result.andThen_ok,hx,hl w hw]
  exact ⟨rfl,rfl⟩,hk⟩
end Go.Proofs.YtnhegahpfacdgaaGreat

