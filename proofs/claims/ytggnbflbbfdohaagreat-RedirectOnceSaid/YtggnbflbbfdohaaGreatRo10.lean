import Derived.Test.YtggnbflbbfdohaaGreatRows
import Derived.Test.YtggnbflbbfdohaaGreatRo1
import Derived.Test.YtggnbflbbfdohaaGreatRo9
import Derived.Shelf.Strings.Builder1
import Derived.Shelf.Strings.Builder2
import Derived.Shelf.Strings.OnBuilder
import Derived.Shelf.Small.Strs
import Derived.Shelf.Small.Wraps
import Derived.Shelf.Strings.Search1
import Derived.Shelf.Strings.Search2
import Derived.Shelf.Sort.Plain
import Derived.Shelf.Strings.Prefix
import Derived.Shelf.Slices.Equal
import Derived.Ground.Names2Prog
import Derived.Shelf.Slices.ReverseS
import Derived.Shelf.Slices.Clone
import Derived.Shelf.Slices.CompactS
import Derived.Shelf.Slices.Cells
import Derived.Shelf.Slices.In.SortNone
import Derived.Ground.SlgnProg
import Derived.Shelf.SlicesE.Clone
import Derived.Test.YtggnbflbbfdohaaGreatProg
import Derived.Sort.OwnSorted
import Derived.Lib.RowBridge

namespace Go.Proofs.YtggnbflbbfdohaaGreat
open Go.RowKit Plain
def st (l:List UInt8):Value:=.string ⟨l.toArray⟩
theorem add_lists {P:Program} {x y z:List UInt8} (h:x.length+y.length≤9223372036854775807) (hz:x++y=z) (W:World):(Op.stringOp .add ⟨x.toArray⟩ ⟨y.toArray⟩).run P W=.ok (.string ⟨z.toArray⟩) W:=by
 subst hz
 rw [run_string_add_sum W _ _ (by simp [ByteArray.size];omega),ByteArray.mk_append_mk]
theorem ret_bool {a b:Bool} (h:a=b):Ending.returned (.bool a)=.returned (.bool b):=by rw [h]

set_option maxHeartbeats 400000 in
theorem Rletter_any (x:Nat) (hx:x < 256) (w:World) :
  Calls Tryz.prog 129 #[.int .u8 x] w fun e w'=>e=.returned (.bool (letB x))∧w=w':=by
 go_enter Tryz.func129,Tryz.ntmps129
 go_wp2
 all_goals
  go_ret
  refine ⟨ret_bool ?_,rfl⟩
  rw [Bool.eq_iff_iff]
  simp [letB]
  omega
theorem Rletter_b {x:Nat} {b:Bool} (hx:x < 256) (hb:letB x=b) (w:World) :
  Calls Tryz.prog 129 #[.int .u8 x] w fun e w'=>e=.returned (.bool b)∧w=w':=by
 have:=Rletter_any x hx w;rw [hb] at this;exact this

set_option maxHeartbeats 400000 in
theorem RNRight_any (l:List UInt8) (w:World) (hl:l.length≤140737488355328) :
  Calls Tryz.prog 95 #[st l] w fun e w'=>e=.returned (.bool (nameB l))∧w=w':=by
 unfold st
 by_cases h1:l.length < 1
 ·have hr:nameB l=false:=by
   have:decide (1≤l.length∧l.length≤12)=false:=by simp;omega
   simp [nameB,this]
  rw [hr]
  clear hr
  obtain rfl:l=[]:=List.eq_nil_of_length_eq_zero (by omega)
  go_enter Tryz.func95,Tryz.ntmps95
  go_wp2
  go_ret
  exact ⟨rfl,rfl⟩
 by_cases h2:12 < l.length
 ·have hr:nameB l=false:=by
   have:decide (1≤l.length∧l.length≤12)=false:=by simp;omega
   simp [nameB,this]
  rw [hr]
  clear hr
  have d1:decide ((l.length:Int) < 1)=false:=by simp;omega
  have d2:decide ((12:Int) < (l.length:Int))=true:=by simp;omega
  go_enter Tryz.func95,Tryz.ntmps95
  go_wp2
  go_ret
  exact ⟨rfl,rfl⟩
 by_cases h3:l=[46]
 ·subst h3
  go_enter Tryz.func95,Tryz.ntmps95
  go_wp2
  go_ret
  exact ⟨rfl,rfl⟩
 by_cases h4:l=[46,46]
 ·subst h4
  go_enter Tryz.func95,Tryz.ntmps95
  go_wp2
  go_ret
  exact ⟨rfl,rfl⟩
 have d1:decide ((l.length:Int) < 1)=false:=by simp;omega
 have d2:decide ((12:Int) < (l.length:Int))=false:=by simp;omega
 have d3:(l==[46])=false:=by simpa using h3
 have d4:(l==[46,46])=false:=by simpa using h4
 have hr:nameB l=l.all fun x=>letB x.toNat:=by
  have:decide (1≤l.length∧l.length≤12)=true:=by simp;omega
  simp [nameB,this,d3,d4]
 rw [hr]
 obtain ⟨r,hre⟩:∃r,(l.all fun x=>letB x.toNat)=r:=⟨_,rfl⟩
 rw [hre]
 have HR:=hide hre
 clear hr hre h3 h4
 go_enter Tryz.func95,Tryz.ntmps95
 go_wp2_with fail
 clear d1 d2 d3 d4
 go_loop [3] (fun i=>∃k:Nat,k≤l.length∧i=.int .i64 k∧((l.take k).all fun x=>letB x.toNat)=true) (fun i=>l.length - (intOf i).toNat)
 case atStart=>exact ⟨0,Nat.zero_le _,rfl,rfl⟩
 case round =>
  obtain ⟨k,hk,rfl,hall⟩:=hrel
  have HALL:=hide hall
  clear hall
  by_cases hlt:k < l.length
  ·have hb:=l[k].toNat_lt
   cases hb2:letB l[k].toNat with
   | true =>
    have HB:=hide hb2
    clear hb2
    go_wp2_with fail
    refine (Rletter_b hb HB.out _).mono ?_
    rintro e w' ⟨rfl,rfl⟩
    go_wp2_with fail
    go_round
    case rel=>exact ⟨k+1,by omega,by go_num,by rw [all_take_succ hlt,HALL.out,HB.out];rfl⟩
    case measure=>simp [intOf];omega
   | false =>
    have hrf:r=false:=by rw [←HR.out];exact all_false hlt hb2
    have HRF:=hide hrf
    have HB:=hide hb2
    clear hb2 hrf
    go_wp2_with fail
    refine (Rletter_b hb HB.out _).mono ?_
    rintro e w' ⟨rfl,rfl⟩
    go_wp2_with fail
    go_ret
    rw [HRF.out]
    exact ⟨rfl,rfl⟩
  ·have hrt:r=true:=by
    rw [←HR.out]
    have:=HALL.out
    rwa [List.take_of_length_le (by omega)] at this
   have HRT:=hide hrt
   clear hrt
   go_wp2
   go_ret
   rw [HRT.out]
   exact ⟨rfl,rfl⟩
end Go.Proofs.YtggnbflbbfdohaaGreat

namespace Go.Proofs
open Go.Shelf
def Tryz.lays156_ren:Go.Shelf.Ren:=⟨fun|156=>110|165=>141|166=>142|169=>143|240=>156|241=>157|276=>175|277=>176|n=>n,fun|31=>41|9=>9|3=>3|4=>4|0=>0|20=>20|72=>192|76=>195|70=>190|37=>58|75=>194|127=>214|164=>229|5=>5|80=>197|n=>n,fun|n=>n⟩
theorem Tryz.lays156 : Go.Proofs.Lays.n156 Tryz.prog Tryz.lays156_ren := {
 mixed:=by kernel_rfl
 f156:=Tryz.func110.trans (congrArg some (by kernel_rfl))
 f165:=Tryz.func141.trans (congrArg some (by kernel_rfl))
 f166:=Tryz.func142.trans (congrArg some (by kernel_rfl))
 f169:=Tryz.func143.trans (congrArg some (by kernel_rfl))
 f240:=Tryz.func156.trans (congrArg some (by kernel_rfl))
 f241:=Tryz.func157.trans (congrArg some (by kernel_rfl))
 f276:=Tryz.func175.trans (congrArg some (by kernel_rfl))
 f277:=Tryz.func176.trans (congrArg some (by kernel_rfl))
 t0:=Tryz.underlying0
 a0:=Tryz.isAgg0
 z0:=Tryz.sizeOf0
 v0:=Tryz.zeroValue0
 t3:=Tryz.underlying3
 a3:=Tryz.isAgg3
 z3:=Tryz.sizeOf3
 v3:=Tryz.zeroValue3
 t4:=Tryz.underlying4
 a4:=Tryz.isAgg4
 z4:=Tryz.sizeOf4
 v4:=Tryz.zeroValue4
 t9:=Tryz.underlying9
 a9:=Tryz.isAgg9
 z9:=Tryz.sizeOf9
 v9:=Tryz.zeroValue9
 t20:=Tryz.underlying20
 a20:=Tryz.isAgg20
 z20:=Tryz.sizeOf20
 v20:=Tryz.zeroValue20
 t31:=Tryz.underlying41
 a31:=Tryz.isAgg41
 z31:=Tryz.sizeOf41
 v31:=Tryz.zeroValue41
 t37:=Tryz.underlying58
 a37:=Tryz.isAgg58
 z37:=Tryz.sizeOf58
 v37:=Tryz.zeroValue58
 t70:=Tryz.underlying190
 a70:=Tryz.isAgg190
 z70:=Tryz.sizeOf190
 v70:=Tryz.zeroValue190
 t72:=Tryz.underlying192
 a72:=Tryz.isAgg192
 z72:=Tryz.sizeOf192
 v72:=Tryz.zeroValue192
 t75:=Tryz.underlying194
 a75:=Tryz.isAgg194
 z75:=Tryz.sizeOf194
 v75:=Tryz.zeroValue194
 t76:=Tryz.underlying195
 a76:=Tryz.isAgg195
 z76:=Tryz.sizeOf195
 v76:=Tryz.zeroValue195
 t127:=Tryz.underlying214
 a127:=Tryz.isAgg214
 z127:=Tryz.sizeOf214
 v127:=Tryz.zeroValue214
 t164:=Tryz.underlying229
 a164:=Tryz.isAgg229
 z164:=Tryz.sizeOf229
 v164:=Tryz.zeroValue229}
theorem Tryz.Builder_Extra_156 : Builder.Extra Tryz.prog Tryz.lays156_ren := {
 sizeBuilder:=by kernel_rfl
 liesBuilder:=by kernel_rfl
 t5:=Tryz.underlying5
 a5:=Tryz.isAgg5
 z5:=Tryz.sizeOf5
 v5:=Tryz.zeroValue5
 infoByte:=by kernel_rfl
 cellsByte:=by kernel_rfl
 sizeByte:=by kernel_rfl
 neB5:=by decide}
open Go.RowKit in
theorem Tryz.strings_Join_none (a:Option Addr) (c:Nat) (sep:ByteArray) (w:World) :
  Calls Tryz.prog 110 #[.slice a 0 c,.string sep] w fun e w'=>e=.returned (.string ⟨#[]⟩)∧w'=w:=Any.strings_Join_none Tryz.lays156 Tryz.Builder_Extra_156 a c sep w
open Go.RowKit in
theorem Tryz.strings_Join (bk o c:Nat) (xs:List ByteArray) (sep:ByteArray) (w:World) (hcells:∀(j:Nat) x,xs[j]?=some x→w.cell? ⟨bk,o+j,none⟩=some (.string x)) (hbk:bk < w.heap.size) (hN:xs.length≤140737488355328) (hcap:xs.length≤c) (hlen:(Lib.join (xs.map (·.data.toList)) sep.data.toList).length≤140737488355328) :
  Calls Tryz.prog 110 #[.slice (some ⟨bk,o,none⟩) xs.length c,.string sep] w fun e w'=>e=.returned (.string ⟨(Lib.join (xs.map (·.data.toList)) sep.data.toList).toArray⟩)∧Below w.heap.size w w':=Any.strings_Join Tryz.lays156 Tryz.Builder_Extra_156 bk o c xs sep w hcells hbk hN hcap hlen
def Tryz.lays137_ren:Go.Shelf.Ren:=⟨fun|137=>125|217=>149|266=>161|n=>n,fun|9=>9|5=>5|3=>3|n=>n,fun|n=>n⟩
theorem Tryz.lays137 : Go.Proofs.Lays.n137 Tryz.prog Tryz.lays137_ren := {
 mixed:=by kernel_rfl
 f137:=Tryz.func125.trans (congrArg some (by kernel_rfl))
 f217:=Tryz.func149.trans (congrArg some (by kernel_rfl))
 f266:=Tryz.func161.trans (congrArg some (by kernel_rfl))
 t3:=Tryz.underlying3
 a3:=Tryz.isAgg3
 z3:=Tryz.sizeOf3
 v3:=Tryz.zeroValue3
 t5:=Tryz.underlying5
 a5:=Tryz.isAgg5
 z5:=Tryz.sizeOf5
 v5:=Tryz.zeroValue5
 t9:=Tryz.underlying9
 a9:=Tryz.isAgg9
 z9:=Tryz.sizeOf9
 v9:=Tryz.zeroValue9}
open Go.RowKit in
theorem Tryz.strings_IndexByte (s:ByteArray) (c:Int) (w:World) :
  Calls Tryz.prog 125 #[.string s,.int .u8 c] w fun e w'=>e=.returned (.int .i64 (Lib.indexByte s.data.toList c.toNat.toUInt8))∧w'=w:=Any.strings_IndexByte Tryz.lays137 s c w
def Tryz.lays103_ren:Go.Shelf.Ren:=⟨fun|103=>151|210=>162|206=>178|n=>n,fun|9=>9|4=>4|24=>205|3=>3|n=>n,fun|n=>n⟩
theorem Tryz.lays103 : Go.Proofs.Lays.n103 Tryz.prog Tryz.lays103_ren := {
 mixed:=by kernel_rfl
 f103:=Tryz.func151.trans (congrArg some (by kernel_rfl))
 f206:=Tryz.func178.trans (congrArg some (by kernel_rfl))
 f210:=Tryz.func162.trans (congrArg some (by kernel_rfl))
 t3:=Tryz.underlying3
 a3:=Tryz.isAgg3
 z3:=Tryz.sizeOf3
 v3:=Tryz.zeroValue3
 t4:=Tryz.underlying4
 a4:=Tryz.isAgg4
 z4:=Tryz.sizeOf4
 v4:=Tryz.zeroValue4
 t9:=Tryz.underlying9
 a9:=Tryz.isAgg9
 z9:=Tryz.sizeOf9
 v9:=Tryz.zeroValue9
 t24:=Tryz.underlying205
 a24:=Tryz.isAgg205
 z24:=Tryz.sizeOf205
 v24:=Tryz.zeroValue205}
open Go.RowKit in
theorem Tryz.strings_CutPrefix (s p:ByteArray) (w:World) :
  Calls Tryz.prog 151 #[.string s,.string p] w fun e w'=>e=.returned (.tuple #[.string ⟨(Lib.trimPrefix s.data.toList p.data.toList).toArray⟩,.bool (Lib.hasPrefix s.data.toList p.data.toList)])∧w'=w:=Any.strings_CutPrefix Tryz.lays103 s p w
def Tryz.lays219_ren:Go.Shelf.Ren:=⟨fun|219=>179|217=>149|225=>186|224=>187|267=>188|266=>161|314=>190|n=>n,fun|9=>9|3=>3|4=>4|5=>5|46=>213|146=>243|51=>226|n=>n,fun|1=>0|n=>n⟩
theorem Tryz.lays219 : Go.Proofs.Lays.n219 Tryz.prog Tryz.lays219_ren := {
 mixed:=by kernel_rfl
 f217:=Tryz.func149.trans (congrArg some (by kernel_rfl))
 f219:=Tryz.func179.trans (congrArg some (by kernel_rfl))
 f224:=Tryz.func187.trans (congrArg some (by kernel_rfl))
 f225:=Tryz.func186.trans (congrArg some (by kernel_rfl))
 f266:=Tryz.func161.trans (congrArg some (by kernel_rfl))
 f267:=Tryz.func188.trans (congrArg some (by kernel_rfl))
 f314:=Tryz.func190.trans (congrArg some (by kernel_rfl))
 t3:=Tryz.underlying3
 a3:=Tryz.isAgg3
 z3:=Tryz.sizeOf3
 v3:=Tryz.zeroValue3
 t4:=Tryz.underlying4
 a4:=Tryz.isAgg4
 z4:=Tryz.sizeOf4
 v4:=Tryz.zeroValue4
 t5:=Tryz.underlying5
 a5:=Tryz.isAgg5
 z5:=Tryz.sizeOf5
 v5:=Tryz.zeroValue5
 t9:=Tryz.underlying9
 a9:=Tryz.isAgg9
 z9:=Tryz.sizeOf9
 v9:=Tryz.zeroValue9
 t46:=Tryz.underlying213
 a46:=Tryz.isAgg213
 z46:=Tryz.sizeOf213
 v46:=Tryz.zeroValue213
 t51:=Tryz.underlying226
 a51:=Tryz.isAgg226
 z51:=Tryz.sizeOf226
 v51:=Tryz.zeroValue226
 t146:=Tryz.underlying243
 a146:=Tryz.isAgg243
 z146:=Tryz.sizeOf243
 v146:=Tryz.zeroValue243
 g1:=by kernel_rfl}
open Go.RowKit Go.Lib in
theorem Tryz.stringslite_Index_one (s:ByteArray) (c:UInt8) (w:World) :
  Calls Tryz.prog 179 #[.string s,.string ⟨#[c]⟩] w fun e w'=>e=.returned (.int .i64 (Lib.indexByte s.data.toList c))∧w'=w:=Any.stringslite_Index_one Tryz.lays219 s c w
def Tryz.laysNm217_ren:Go.Shelf.Ren:=⟨fun|17=>146|n=>n,fun|24=>41|9=>9|3=>3|4=>4|0=>0|n=>n,fun|n=>n⟩
theorem Tryz.laysNm217 : Go.Proofs.Lays2.n17 Tryz.prog Tryz.laysNm217_ren := {
 mixed:=by kernel_rfl
 f17:=Tryz.func146.trans (congrArg some (by kernel_rfl))
 t0:=Tryz.underlying0
 a0:=Tryz.isAgg0
 z0:=Tryz.sizeOf0
 v0:=Tryz.zeroValue0
 t3:=Tryz.underlying3
 a3:=Tryz.isAgg3
 z3:=Tryz.sizeOf3
 v3:=Tryz.zeroValue3
 t4:=Tryz.underlying4
 a4:=Tryz.isAgg4
 z4:=Tryz.sizeOf4
 v4:=Tryz.zeroValue4
 t9:=Tryz.underlying9
 a9:=Tryz.isAgg9
 z9:=Tryz.sizeOf9
 v9:=Tryz.zeroValue9
 t24:=Tryz.underlying41
 a24:=Tryz.isAgg41
 z24:=Tryz.sizeOf41
 v24:=Tryz.zeroValue41}
open Go.RowKit Go.Lib Go.Sort in
theorem Tryz.slices_Reverse_string (blk off cap:Nat) (zs:List (List UInt8)) (w:World) (hH:Holds encStr w blk off zs.toArray) (hsz:zs.length≤9223372036854775807) :
  Calls Tryz.prog 146 #[.slice (some ⟨blk,off,none⟩) zs.length cap] w fun e w'=>e=.returned (.tuple #[])∧∃n,w'=putRow encStr (Sort.ahead w n) blk off zs.reverse.toArray:=Any.slices_Reverse_string Tryz.laysNm217 blk off cap zs w hH hsz
open Go.RowKit Go.Lib Go.Sort in
theorem Tryz.slices_Reverse_string_empty (a:Option Addr) (cap:Nat) (w:World) :
  Calls Tryz.prog 146 #[.slice a 0 cap] w fun e w'=>e=.returned (.tuple #[])∧w'=w:=Any.slices_Reverse_string_empty Tryz.laysNm217 a cap w
end Go.Proofs

namespace Go.Proofs.YtggnbflbbfdohaaGreat
open Go.RowKit Go.Shelf Plain Go.Sort

set_option maxRecDepth 100000 in
set_option maxHeartbeats 1600000 in
theorem Reach_any {A F:Option Addr} {n c k d:Nat} {ns:List NodV} {ff:List Int} (w:World) (h:RdE nodEn w (Under w.heap.size) A n ns) (hf:RdE Enc.int w (Under w.heap.size) F k ff) (hM:Many ns) (hk:k≤1000) :
  Calls Tryz.prog 51 #[.agg #[.slice A n c],.slice F k d] w (BoolsRet w (reachL ns (walkW ns ff).1)):=by
 have hb1:=below_new (below_self w) (.cells #[.slice A n c] 26)
 have H1:=hide (h.on hb1)
 have HF1:=hide (hf.on hb1)
 have HB1:=hide hb1
 have HM:=hide hM
 clear h hf hb1
 go_enter Tryz.func51,Tryz.ntmps51
 go_wp2_with (first|(go_at_call 87;refine (walked_any _ H1.out HF1.out HM.out hk).mono ?_;rintro e w2 ⟨g,b,rfl,hw2,hb2⟩;have HW2:=hide hw2;have HB2:=hide (below_step HB1.out hb2);clear hw2 hb2)|(go_at_call 88;refine (reach_any _ HW2.out (walk_ok ns ff) HM.out).mono ?_;rintro e w3 ⟨A3,n3,c3,rfl,hn3,hr3,hb3,hf3⟩;have HR3:=hide hr3;have HF3:=hide hf3;clear hf3;have HB3:=hide (HB2.out.trans (hb3.mono HB2.out.size));clear hr3 hb3))
 go_ret
 exact ⟨A3,n3,c3,rfl,hn3,HR3.out,HB3.out,fun b o e=>Nat.le_trans HB2.out.size (HF3.out b o e)⟩
def wayI (l:List WayV) (i:Int):Option WayV:=if 0≤i∧i < (l.length:Int) then l[i.toNat]? else none
def upsF (l : List WayV) : Nat → Int → List (List UInt8)
 | 0,_=>[]
 | f+1,i=>match wayI l i with
  | none=>[]
  | some y=>if 0≤y.up∧y.up < i then y.name::upsF l f y.up else []
def pathS (l:List WayV) (i:Int):List (List UInt8):=(upsF l l.length i).reverse
theorem upsF_len (l : List WayV) : ∀ (f : Nat) (i : Int), (upsF l f i).length ≤ f
 | 0,_=>by simp [upsF]
 | f+1,i=>by
  unfold upsF
  split
  ·simp
  ·rename_i y _
   split
   ·have:=upsF_len l f y.up
    simp only [List.length_cons]
    omega
   ·simp
theorem upsF_none {l : List WayV} {i : Int} (h : wayI l i = none) : ∀ f, upsF l f i = []
 | 0=>rfl
 | f+1=>by unfold upsF;rw [h]
theorem upsF_stop {l : List WayV} {i : Int} {y : WayV} (h : wayI l i = some y) (hn : ¬ (0 ≤ y.up ∧ y.up < i)) : ∀ f, upsF l f i = []
 | 0=>rfl
 | f+1=>by unfold upsF;rw [h];simp only [if_neg hn]
theorem upsF_go {l:List WayV} {i:Int} {y:WayV} {f:Nat} (h:wayI l i=some y) (hn:0≤y.up∧y.up < i):upsF l (f+1) i=y.name::upsF l f y.up:=by
 conv=>lhs;unfold upsF
 rw [h]
 simp only [if_pos hn]
theorem wayI_some {l:List WayV} {i:Int} {y:WayV} (h:wayI l i=some y):∃j:Nat,i=(j:Int)∧l[j]?=some y:=by
 unfold wayI at h
 split at h
 ·rename_i hh
  obtain ⟨j,rfl⟩:=Int.eq_ofNat_of_zero_le hh.1
  exact ⟨j,rfl,by simpa using h⟩
 ·cases h
theorem way_get {w:World} {D:Nat→Prop} {A:Option Addr} {n j:Nat} {l:List WayV} {y:WayV} (h:RdE wayEn w D A n l) (hy:l[j]?=some y):∃b o,A=some ⟨b,o,none⟩∧D b∧∀i v,(wayC y)[i]?=some v→w.cell? ⟨b,o+j*3+i,none⟩=some v:=by
 have hj:=(List.getElem?_eq_some_iff.1 hy).1
 obtain ⟨b,o,e,hb,hc⟩:=h.2 (by rw [←h.1];omega)
 obtain ⟨cs,hR,hcs⟩:=hc j y hy
 refine ⟨b,o,e,hb,fun i v hv=>?_⟩
 have:=hcs i v (by rw [show cs=wayC y from hR];exact hv)
 rwa [show o+(j*wayEn.k+i)=o+j*3+i from by show o+(j*3+i)=o+j*3+i;omega] at this
theorem ReverseS_own {base g n c:Nat} {l:List (List UInt8)} (w:World) (h:Ow st w base 9 (some ⟨g,0,none⟩) n c l) (hn:n≤1000000) :
  Calls Tryz.prog 146 #[.slice (some ⟨g,0,none⟩) n c] w fun e w'=>e=.returned (.tuple #[])∧Ow st w' base 9 (some ⟨g,0,none⟩) n c l.reverse∧w.grownBy w' (some g):=by
 have hl:=h.len
 rcases h.2 with ⟨h0,_⟩|⟨g',cap,cur,he,hbase,hb,h1,h2,h3,h4⟩
 ·cases h0
 ·cases he
  subst hl
  refine (Tryz.slices_Reverse_string g 0 c l w (holds_of_block hb (by rw [Nat.mul_one] at h4;exact h4)) (by omega)).mono ?_
  rintro e w' ⟨rfl,q,rfl⟩
  have ho:Ow st (grow (putRow encStr (Sort.ahead w q) g 0 l.reverse.toArray) #[]) base 9 (some ⟨g,0,none⟩) l.length c l.reverse :=
   ownsRow_sorted (by simp) hbase hb h1 h2 h3
  have hg:=grownBy_sorted (w:=w) (g:=g) (n:=q) (os:=#[]) l.reverse.toArray
  rw [show ∀w:World,grow w #[]=w from fun w=>by simp [grow]] at ho hg
  exact ⟨rfl,ho,hg⟩
set_option maxRecDepth 100000 in
theorem str_info:(Tryz.prog.info? 9).map (fun i=>(i.zero,i.size,i.bytes))=some (some (.string ⟨#[]⟩),1,16):=by kernel_rfl
set_option maxRecDepth 100000 in
set_option maxHeartbeats 4000000 in
theorem Path_any {A:Option Addr} {n c:Nat} {l:List WayV} {i:Int} (w:World) (h:RdE wayEn w (Under w.heap.size) A n l) (hn:n≤1000) :
  Calls Tryz.prog 118 #[.slice A n c,.int .i64 i] w (ORet st w 9 (pathS l i).length (pathS l i)):=by
 have H:=hide h
 have hl:=h.1
 obtain ⟨T,hT⟩:∃T,upsF l l.length i=T:=⟨_,rfl⟩
 have hTl:T.length≤1000:=by have:=upsF_len l l.length i;rw [hT] at this;omega
 have HP:=hide (show pathS l i=T.reverse from by unfold pathS;rw [hT])
 rw [HP.out,List.length_reverse]
 clear h HP
 go_enter Tryz.func118,Tryz.ntmps118
 go_wp2
 go_loopw [1,5] (fun vi v5 wr=>∃(f:Nat) (i':Int) (A5:Option Addr) (c5:Nat) (acc:List (List UInt8)),vi=.int .i64 i'∧v5=.slice A5 acc.length c5∧Ow st wr w.heap.size 9 A5 acc.length c5 acc∧acc++upsF l f i'=T∧(i' < (l.length:Int)→(i'+1).toNat≤f)∧Below w.heap.size w wr) (fun vi _ _=>match vi with|.int _ x=>if x < (l.length:Int) then (x+1).toNat else l.length+1|_=>0)
 case atStart=>exact ⟨l.length,i,none,0,[],rfl,rfl,Ow.nil_ _ _ _ _,hT,fun h=>by omega,below_self _⟩
 case round =>
  obtain ⟨f,i',A5,c5,acc,rfl,rfl,ho,ht,hf,hbr⟩:=hrel
  have HO:=hide ho
  have HBR:=hide hbr
  have HT:=hide ht
  have hbr':=hbr
  clear ho hbr ht
  cases hw:wayI l i' with
  | none =>
   have hr1:(decide (0≤i')&&decide (i' < (n:Int)))=false:=by
    unfold wayI at hw
    split at hw
    ·rename_i hh
     rw [List.getElem?_eq_getElem (by omega)] at hw
     cases hw
    ·rename_i hh
     rw [Bool.and_eq_false_iff,decide_eq_false_iff_not,decide_eq_false_iff_not]
     omega
   rw [upsF_none hw] at HT
   clear hw
   rw [List.append_nil] at HT
   obtain rfl:acc=T:=HT.out
   clear HT
   by_cases h0:acc.length=0
   ·obtain rfl:acc=[]:=List.eq_nil_of_length_eq_zero h0
    simp only [List.length_nil] at HO ⊢
    go_wp2_with (first|(go_at_call 145;refine (there_any _ hr1).mono ?_;rintro e w' ⟨rfl,rfl⟩;clear hr1)|(go_at_call 146;refine (Tryz.slices_Reverse_string_empty A5 c5 _).mono ?_;rintro e w' ⟨rfl,rfl⟩))
    go_ret
    exact ⟨A5,c5,rfl,HO.out,HBR.out⟩
   ·obtain ⟨g5,rfl,hb5,-⟩:=HO.out.at_ (by omega)
    have hbsz:=HBR.out.size
    go_wp2_with (first|(go_at_call 145;refine (there_any _ hr1).mono ?_;rintro e w' ⟨rfl,rfl⟩;clear hr1)|(go_at_call 146;refine (ReverseS_own _ HO.out (by omega)).mono ?_;rintro e w' ⟨rfl,ho2,hg2⟩;have HO2:=hide ho2;have HG2:=hide hg2;clear ho2 hg2))
    go_ret
    exact ⟨some ⟨g5,0,none⟩,c5,rfl,HO2.out,HBR.out.grown HG2.out hbsz (pu4 (by omega))⟩
  | some y =>
   obtain ⟨j,rfl,hy⟩:=wayI_some hw
   have hjl:=(List.getElem?_eq_some_iff.1 hy).1
   obtain ⟨b,o,rfl,hbB,hcy⟩:=way_get (H.out.under hbr' (Nat.le_refl _)) hy
   have qu:wr.cell? ⟨b,o+j*3+1,none⟩=some (.int .i64 y.up):=hcy 1 _ rfl
   have qn:wr.cell? ⟨b,o+j*3+2,none⟩=some (.string ⟨y.name.toArray⟩):=hcy 2 _ rfl
   have hr1:(decide (0≤(j:Int))&&decide ((j:Int) < (n:Int)))=true:=by simp;omega
   have hjt:((j:Nat):Int).toNat=j:=by omega
   have hjn:j < n:=by omega
   clear hcy
   by_cases h1:y.up < (j:Int)
   ·have hd1:decide (y.up < (j:Int))=true:=by simpa using h1
    by_cases h2:0≤y.up
    ·have hr2:(decide (0≤y.up)&&decide (y.up < (n:Int)))=true:=by simp;omega
     have hfj:=hf (by omega)
     obtain ⟨f',rfl⟩:∃f',f=f'+1:=⟨f - 1,by omega⟩
     rw [upsF_go hw ⟨h2,h1⟩] at HT
     have hacc:acc.length+1≤1000:=by have:=congrArg List.length HT.out;rw [List.length_append,List.length_cons] at this;omega
     have hbsz:=HBR.out.size
     clear hw hy hf
     go_wp2_with (first|(go_at_call 145;refine (there_any _ hr1).mono ?_;rintro e w' ⟨rfl,rfl⟩;clear hr1)|(go_at_call 145;refine (there_any _ hr2).mono ?_;rintro e w' ⟨rfl,rfl⟩;clear hr2)|(at_builtin;refine wpList_append_Rd (f:=st) _ rfl (.tmp 27) (.tmp 33) 41 rfl w.heap.size 9 (.string ⟨#[]⟩) 16 Tryz.underlying41 str_info rfl (fun _=>rfl) _ acc.length _ acc rfl (HO.out.alloc _) _ _ 1 1 [y.name] rfl (Rd.one _ _ rfl) (acc.length+1) rfl (by omega) (by omega) (by simp only [World.size_alloc];omega) ?_;intro A6 c6 w6 ho6 hb6;have HO6:=hide ho6;have HB6:=hide hb6;have qu6:w6.cell? ⟨b,o+j*3+1,none⟩=some (.int .i64 y.up):=(hb6.cell (p:=⟨b,o+j*3+1,none⟩) hbB).trans (((below_new (below_self _) _).cell (p:=⟨b,o+j*3+1,none⟩) (Nat.lt_of_lt_of_le hbB hbsz)).trans qu);clear ho6 hb6))
     go_roundw
     case rel=>exact ⟨f',y.up,A6,c6,acc++[y.name],rfl,by rw [List.length_append];rfl,by rw [List.length_append];exact HO6.out,by rw [List.append_assoc];exact HT.out,fun _=>by omega,(HBR.out.alloc hbsz _).trans HB6.out⟩
     case measure =>
      have e1:y.up < (l.length:Int):=by omega
      have e2:(j:Int) < (l.length:Int):=by omega
      simp only [e1,e2,if_true]
      omega
    ·have hr2:(decide (0≤y.up)&&decide (y.up < (n:Int)))=false:=by simp;omega
     rw [upsF_stop hw (fun h=>h2 h.1)] at HT
     clear hw hy hf
     rw [List.append_nil] at HT
     obtain rfl:acc=T:=HT.out
     clear HT
     by_cases h0:acc.length=0
     ·obtain rfl:acc=[]:=List.eq_nil_of_length_eq_zero h0
      simp only [List.length_nil] at HO ⊢
      go_wp2_with (first|(go_at_call 145;refine (there_any _ hr1).mono ?_;rintro e w' ⟨rfl,rfl⟩;clear hr1)|(go_at_call 145;refine (there_any _ hr2).mono ?_;rintro e w' ⟨rfl,rfl⟩;clear hr2)|(go_at_call 146;refine (Tryz.slices_Reverse_string_empty A5 c5 _).mono ?_;rintro e w' ⟨rfl,rfl⟩))
      go_ret
      exact ⟨A5,c5,rfl,HO.out,HBR.out⟩
     ·obtain ⟨g5,rfl,hb5,-⟩:=HO.out.at_ (by omega)
      have hbsz:=HBR.out.size
      go_wp2_with (first|(go_at_call 145;refine (there_any _ hr1).mono ?_;rintro e w' ⟨rfl,rfl⟩;clear hr1)|(go_at_call 145;refine (there_any _ hr2).mono ?_;rintro e w' ⟨rfl,rfl⟩;clear hr2)|(go_at_call 146;refine (ReverseS_own _ HO.out (by omega)).mono ?_;rintro e w' ⟨rfl,ho2,hg2⟩;have HO2:=hide ho2;have HG2:=hide hg2;clear ho2 hg2))
      go_ret
      exact ⟨some ⟨g5,0,none⟩,c5,rfl,HO2.out,HBR.out.grown HG2.out hbsz (pu4 (by omega))⟩
   ·have hd1:decide (y.up < (j:Int))=false:=by simpa using h1
    rw [upsF_stop hw (fun h=>h1 h.2)] at HT
    clear hw hy hf
    rw [List.append_nil] at HT
    obtain rfl:acc=T:=HT.out
    clear HT
    by_cases h0:acc.length=0
    ·obtain rfl:acc=[]:=List.eq_nil_of_length_eq_zero h0
     simp only [List.length_nil] at HO ⊢
     go_wp2_with (first|(go_at_call 145;refine (there_any _ hr1).mono ?_;rintro e w' ⟨rfl,rfl⟩;clear hr1)|(go_at_call 146;refine (Tryz.slices_Reverse_string_empty A5 c5 _).mono ?_;rintro e w' ⟨rfl,rfl⟩))
     go_ret
     exact ⟨A5,c5,rfl,HO.out,HBR.out⟩
    ·obtain ⟨g5,rfl,hb5,-⟩:=HO.out.at_ (by omega)
     have hbsz:=HBR.out.size
     go_wp2_with (first|(go_at_call 145;refine (there_any _ hr1).mono ?_;rintro e w' ⟨rfl,rfl⟩;clear hr1)|(go_at_call 146;refine (ReverseS_own _ HO.out (by omega)).mono ?_;rintro e w' ⟨rfl,ho2,hg2⟩;have HO2:=hide ho2;have HG2:=hide hg2;clear ho2 hg2))
     go_ret
     exact ⟨some ⟨g5,0,none⟩,c5,rfl,HO2.out,HBR.out.grown HG2.out hbsz (pu4 (by omega))⟩
end Go.Proofs.YtggnbflbbfdohaaGreat

namespace Go.Proofs.YtggnbflbbfdohaaGreat
open Go.RowKit Go.Shelf Plain

set_option maxRecDepth 100000 in
set_option maxHeartbeats 1600000 in
theorem At_any {A:Option Addr} {n c:Nat} {ns:List NodV} {i:Int} (w:World) (h:RdE nodEn w (Under w.heap.size) A n ns) (hm:ns.length≤100000):Calls Tryz.prog 61 #[.agg #[.slice A n c],.int .i64 i] w (NodRet w w.heap.size (nodAt ns i)):=by
 have hl:=h.1
 obtain ⟨rz0,rz,hbz,-⟩:=rows2 w [.slice A n c] (nodC nod0 (.slice none 0 0) (.slice none 0 0)) 26 65
 have HZ:=hide rz
 have HB:=hide hbz
 have qb:((w.alloc (.cells [Value.slice A n c].toArray 26)).alloc (.cells (nodC nod0 (.slice none 0 0) (.slice none 0 0)).toArray 65)).cell? ⟨w.heap.size,0,none⟩=some (.slice A n c):=rz0.cell 0
 have hN:=h
 by_cases h1:i < 1
 ·have e:nodAt ns i=nod0:=nodAt_out (by omega)
  have d1:decide (i < 1)=true:=by simpa using h1
  rw [e]
  clear h hN rz rz0 hbz e
  go_enter Tryz.func61,Tryz.ntmps61
  go_wp2_with (refine wpList_storeW rfl 65 (.tmp 4) (.tmp 14) rfl 13 nod_size (w.heap.size+1) 65 rfl (nodC nod0 (.slice none 0 0) (.slice none 0 0)) (nodC nod0 (.slice none 0 0) (.slice none 0 0)) rfl HZ.out rfl rfl (nodC_one nod0 none none 0 0 0 0) ?_;intro w9 hr9 hg9 hs9;have HR9:=hide hr9;have HB9:=hide (HB.out.grown hg9 HB.out.size (pu4 (by omega)));clear hr9 hg9 hs9)
  exact bodyPost_ret (res_cell Tryz.results61 rfl nod_agg nod_size HR9.out rfl) rfl (NodRet.of (Nat.le_refl _) (RdE.none_ _ _ _ _) (Nat.le_refl _) (RdE.none_ _ _ _ _) HB9.out (Nat.le_refl _))
 ·have d1:decide (i < 1)=false:=by simpa using h1
  by_cases h2:(n:Int) < i
  ·have e:nodAt ns i=nod0:=nodAt_out (by omega)
   have d2:decide ((n:Int) < i)=true:=by simpa using h2
   rw [e]
   clear h hN rz rz0 hbz e
   go_enter Tryz.func61,Tryz.ntmps61
   go_wp2_with (refine wpList_storeW rfl 65 (.tmp 4) (.tmp 14) rfl 13 nod_size (w.heap.size+1) 65 rfl (nodC nod0 (.slice none 0 0) (.slice none 0 0)) (nodC nod0 (.slice none 0 0) (.slice none 0 0)) rfl HZ.out rfl rfl (nodC_one nod0 none none 0 0 0 0) ?_;intro w9 hr9 hg9 hs9;have HR9:=hide hr9;have HB9:=hide (HB.out.grown hg9 HB.out.size (pu4 (by omega)));clear hr9 hg9 hs9)
   exact bodyPost_ret (res_cell Tryz.results61 rfl nod_agg nod_size HR9.out rfl) rfl (NodRet.of (Nat.le_refl _) (RdE.none_ _ _ _ _) (Nat.le_refl _) (RdE.none_ _ _ _ _) HB9.out (Nat.le_refl _))
  ·have d2:decide ((n:Int) < i)=false:=by simpa using h2
   obtain ⟨j,x,rfl,hx,e⟩:=nodAt_in (ns:=ns) (i:=i) (by omega)
   rw [e]
   obtain ⟨b,o,cs,rfl,hbB,hNd,hcell⟩:=hN.get_nod hx
   have hjn:j < n:=by omega
   have hcell1:=fun j' v (hv:cs[j']?=some v)=>(hbz.cell (p:=⟨b,o+j*13+j',none⟩) hbB).trans (hcell j' v hv)
   obtain ⟨A1,n1,c1,C1,m1,d1',rfl,e2,e3,e4,e5⟩:=hNd
   have HC:=hide hcell1
   have E3:=hide e3
   have E5:=hide e5
   have hw1:IntKind.i64.wrap ((j:Int)+1 - 1)=(j:Int):=by rw [show (j:Int)+1 - 1=j from by omega];exact IntWalk.i64_in _ (by omega)
   have hw2:IntKind.i64.wrap (j:Int)=(j:Int):=IntWalk.i64_in _ (by omega)
   clear h hN rz rz0 hbz e hcell hcell1 e3 e5 hx h1 h2
   go_enter Tryz.func61,Tryz.ntmps61
   go_wp2_with (first|(refine wpList_loadX rfl 65 (.tmp 19) rfl 13 nod_agg nod_size b (o+j*13) rfl (nodC x (.slice A1 n1 c1) (.slice C1 m1 d1')) HC.out rfl ?_)|(refine wpList_storeW rfl 65 (.tmp 4) (.tmp 20) rfl 13 nod_size (w.heap.size+1) 65 rfl (nodC nod0 (.slice none 0 0) (.slice none 0 0)) (nodC x (.slice A1 n1 c1) (.slice C1 m1 d1')) rfl HZ.out rfl rfl (nodC_one x A1 C1 n1 c1 m1 d1') ?_;intro w9 hr9 hg9 hs9;have HR9:=hide hr9;have HB9:=hide (HB.out.grown hg9 HB.out.size (pu4 (by omega)));clear hr9 hg9 hs9))
   exact bodyPost_ret (res_cell Tryz.results61 rfl nod_agg nod_size HR9.out rfl) rfl (NodRet.of e2 E3.out e4 E5.out HB9.out (Nat.le_refl _))
end Go.Proofs.YtggnbflbbfdohaaGreat

