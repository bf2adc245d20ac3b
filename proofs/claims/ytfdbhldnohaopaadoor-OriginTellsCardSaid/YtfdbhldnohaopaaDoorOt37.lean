import Derived.Test.YtfdbhldnohaopaaDoorOt35
import Derived.Test.YtfdbhldnohaopaaDoorOt28
import Derived.Test.YtfdbhldnohaopaaDoorOt25
import Derived.Test.YtfdbhldnohaopaaDoorOt17
import Derived.Test.YtfdbhldnohaopaaDoorProg
import Derived.Lib.Bytealg
import Derived.Lib.CutLaws
import Derived.Lib.Join
import Derived.Shelf.Small.Wraps
import Derived.Shelf.Small.Strs
import Derived.Shelf.Strings.Prefix
import Derived.Shelf.Slices.Clone
import Derived.Shelf.Slices.CompactS
import Derived.Shelf.Slices.Cells
import Derived.IntWalk
import Derived.Test.YtfdbhldnohaopaaDoorOt2
import Derived.Test.YtfdbhldnohaopaaDoorOt16
import Derived.ScopeJumps
import Derived.WalkMore
import Derived.Test.YtfdbhldnohaopaaDoorOt18
import Derived.BigQuiet
import Derived.Deep.QuietTactic
import Derived.Test.YtfdbhldnohaopaaDoorRows
import Derived.Laws.Cover3
import Derived.Test.YtfdbhldnohaopaaDoorOt1
import Derived.Lib.SlicesCompact
import Derived.Sort.Row
import Derived.Sort.OwnSorted
import Derived.Lib.RowBridge
import Derived.Test.YtfdbhldnohaopaaDoorOt9
import Derived.Test.YtfdbhldnohaopaaDoorOt23
import Derived.Test.YtfdbhldnohaopaaDoorOt24
import Derived.Test.YtfdbhldnohaopaaDoorOt36

namespace Go.Proofs.YtfdbhldnohaopaaDoor
open Go.RowKit Go.Shelf Plain

theorem attC_one (a:AttV):∀v∈attC a,v.oneCell'=true:=by simp [attC,Value.oneCell']
def ndE:NodV:={ndD with ents:=[⟨0,5,[99]⟩]}
def ndK (a:AttV):NodV:={nod0 with k:=2,n:=1,att:=a}
def upK (a:AttV):List NodV:=[ndE,ndD,ndD,nod0,ndK a]
def upC3 (E:Value) (a:AttV):List Value:=nodC ndD (.slice none 0 0) E++(nodC ndD (.slice none 0 0) (.slice none 0 0)++(nodC ndD (.slice none 0 0) (.slice none 0 0)++(nodC nod0 (.slice none 0 0) (.slice none 0 0)++nodC (ndK a) (.slice none 0 0) (.slice none 0 0))))
theorem up_three (E:Value) (a:AttV):splice (upC1 E) 52 (nodC (ndK a) (.slice none 0 0) (.slice none 0 0))=upC3 E a:=rfl
def CopRet (w:World) (a:AttV) (e:Ending) (w':World):Prop:=∃g0 E AL nL cL,e=.returned (.agg (stkC gB (.slice (some ⟨g0,0,none⟩) 5 5) (.slice AL nL cL)).toArray)∧RowL w' g0 37 (upC3 E a)∧RdE nodEn w' (Under w'.heap.size) (some ⟨g0,0,none⟩) 5 (upK a)∧RdE layEn w' (Under w'.heap.size) AL nL lsB∧Below w.heap.size w w'
set_option maxRecDepth 100000 in
set_option maxHeartbeats 1600000 in
theorem Copied_any (a:AttV) (w:World):Calls Tryd.prog 23 #[.agg (attC a).toArray] w (CopRet w a):=by
 obtain ⟨W1,hW1⟩:∃W1,((w.alloc (.cells (attC a).toArray 35)).alloc (.cells (stkC ⟨0,0,0,0⟩ (.slice none 0 0) (.slice none 0 0)).toArray 29))=W1:=⟨_,rfl⟩
 obtain ⟨r0,r1,hb1,hs1⟩:=rowA2 w _ _ _ _ hW1
 have hW1':((w.alloc (.cells #[.int .i64 a.h,.int .i64 a.o,.string ⟨a.r.toArray⟩,.int .i64 a.l,.int .i64 a.i,.int .i64 a.g,.int .i64 a.s] 35)).alloc (.cells #[.int .i64 0,.int .i64 0,.int .i64 0,.int .i64 0,.slice none 0 0,.slice none 0 0] 29))=W1:=hW1
 have R1:=hide r0
 have R2:=hide r1
 have HB:=hide hb1
 have hsz0:=hb1.size
 unfold attC
 clear r0 r1 hb1 hW1
 go_enter Tryd.func23,Tryd.ntmps23
 go_wp2_with (first|(go_at_call 36;refine (Base_o W1).mono ?_;rintro e1 wB ⟨g0,AL,nL,cL,rfl,hrow,hlay,hg0,hbel⟩;have hg0l:=hrow.lt;replace HB:=hide (HB.out.trans (hbel.mono HB.out.size));replace R1:=hide (R1.out.on hbel);replace R2:=hide (R2.out.on hbel);have hsz2:=hbel.size;have HG:=hide hrow;clear hrow;have HLY:=hide hlay;clear hlay;clear hbel)|(refine wpList_storeW rfl 29 (.tmp 3) (.tmp 4) rfl 6 stk_size (wB.heap.size) 29 rfl (stkC ⟨0,0,0,0⟩ (.slice none 0 0) (.slice none 0 0)) (stkC gB (.slice (some ⟨g0,0,none⟩) 5 5) (.slice AL nL cL)) rfl (RowL.new wB 29 (stkC ⟨0,0,0,0⟩ (.slice none 0 0) (.slice none 0 0))) rfl rfl (stkC_one _ _ _ _ _ _ _) ?_;intro wS3 hr3 hg3 hs3;have hzb:=below_stored' hg3;replace HB:=hide (HB.out.trans (hzb.mono HB.out.size));replace R1:=hide (R1.out.on hzb);replace R2:=hide (R2.out.on hzb);replace HG:=hide (HG.out.on hzb);replace HLY:=hide (btw_on HLY.out hzb (by omega));have hsz4:=hzb.size;have R3:=hide hr3;have hlt3:=hr3.lt;have q3_4:wS3.cell? ⟨wB.heap.size,4,none⟩=some (.slice (some ⟨g0,0,none⟩) 5 5):=R3.out.cell 4;clear hzb hr3;clear hg3 hs3)|(refine wpList_storeV rfl 31 (.tmp 11) (.tmp 9) rfl ens_size g0 5 37 rfl (.slice (some ⟨wS3.heap.size,0,none⟩) 1 1) rfl rfl rfl upC (HG.out.on (below_new (below_self wS3) (.cells #[.int .i64 0,.int .i64 5,.string ⟨#[99]⟩] 53))) (show 5 < 65 from by decide) ?_;intro w5 hr5 hg5 hs5;replace hr5:RowL w5 g0 37 (upC1 (.slice (some ⟨wS3.heap.size,0,none⟩) 1 1)):=hr5;have hbe:=(below_new (below_self wS3) (.cells #[.int .i64 0,.int .i64 5,.string ⟨#[99]⟩] 53));have hbs:=hbe.size;have HG5:=hide hr5;have HB5:=hide ((HB.out.trans (hbe.mono HB.out.size)).grown hg5 (by omega) (pu4 (by omega)));have R15:=hide ((R1.out.on hbe).grown hg5 (pu5 (by omega)));have R25:=hide ((R2.out.on hbe).grown hg5 (pu5 (by omega)));have R35:=hide ((R3.out.on hbe).grown hg5 (pu5 (by omega)));have HE5:=hide ((RowL.new wS3 53 (cellsE ⟨0,5,[99]⟩)).grown hg5 (pu5 (by omega)));have HL5:=hide (btw_grown (btw_on HLY.out hbe (by omega)) hg5 (by omega) (by omega));have hs5l:=hg5.size;have q4:w5.cell? ⟨wB.heap.size,4,none⟩=some (.slice (some ⟨g0,0,none⟩) 5 5):=R35.out.cell 4;clear hr5 hg5 hs5 hbe HG R1 R2 R3 HLY HB)|(refine wpList_loadW rfl 35 (.tmp 1) rfl 7 att_agg att_size w.heap.size 35 rfl [.int .i64 a.h,.int .i64 a.o,.string ⟨a.r.toArray⟩,.int .i64 a.l,.int .i64 a.i,.int .i64 a.g,.int .i64 a.s] R15.out rfl ?_)|(refine wpList_storeC rfl 37 (.tmp 17) (.tmp 16) rfl 13 nod_size g0 52 37 rfl (upC1 (.slice (some ⟨wS3.heap.size,0,none⟩) 1 1)) (nodC (ndK a) (.slice none 0 0) (.slice none 0 0)) rfl HG5.out rfl (show 52+13≤65 from (by decide)) (nodC_one _ _ _ _ _ _ _) ?_;intro w6 hr6 hg6 hs6;rw [up_three] at hr6;have HG6:=hide hr6;have HB6:=hide (HB5.out.grown hg6 HB5.out.size (pu4 (by omega)));have R26:=hide (R25.out.grown hg6 (pu5 (by omega)));have R36:=hide (R35.out.grown hg6 (pu5 (by omega)));have HE6:=hide (HE5.out.grown hg6 (pu5 (by omega)));have HL6:=hide (btw_grown HL5.out hg6 (by omega) (by omega));have hs6l:=hg6.size;clear hr6 hg6 hs6)|(refine wpList_loadW rfl 29 (.tmp 3) rfl 6 stk_agg stk_size (wB.heap.size) 29 rfl (stkC gB (.slice (some ⟨g0,0,none⟩) 5 5) (.slice AL nL cL)) R36.out rfl ?_)|(refine wpList_storeW rfl 29 (.tmp 2) (.tmp 18) rfl 6 stk_size (w.heap.size+1) 29 rfl (stkC ⟨0,0,0,0⟩ (.slice none 0 0) (.slice none 0 0)) (stkC gB (.slice (some ⟨g0,0,none⟩) 5 5) (.slice AL nL cL)) rfl R26.out rfl rfl (stkC_one _ _ _ _ _ _ _) ?_;intro w7 hr7 hg7 hs7;have HR7:=hide hr7;have HG7:=hide (HG6.out.grown hg7 (pu5 (by omega)));have HB7:=hide (HB6.out.grown hg7 HB6.out.size (pu4 (by omega)));have HE7:=hide (HE6.out.grown hg7 (pu5 (by omega)));have HL7:=hide (RdE.mono (btw_grown HL6.out hg7 (by omega) (by omega)) (w':=w7) (D':=Under w7.heap.size) (fun _ _=>rfl) (fun b hb=>by have:=hg7.size;unfold Under;omega));clear hr7 hg7 hs7))
 have u7:RdE nodEn w7 (Under w7.heap.size) (some ⟨g0,0,none⟩) 5 (upK a):=nods_row HG7.out HG7.out.lt ⟨none,0,0,_,1,1,rfl,Nat.le_refl _,RdE.none_ _ _ _ _,Nat.le_refl _,ent_row (l:=[⟨0,5,[99]⟩]) HE7.out HE7.out.lt⟩ (ndDR _ _) (ndDR _ _) (nod0R _ _) ⟨none,0,0,none,0,0,rfl,Nat.le_refl _,RdE.none_ _ _ _ _,Nat.le_refl _,RdE.none_ _ _ _ _⟩
 exact bodyPost_ret (res_cell Tryd.results23 rfl stk_agg stk_size HR7.out rfl) rfl ⟨_,_,AL,nL,cL,rfl,HG7.out,u7,HL7.out,HB7.out⟩
def aR:AttV:=⟨20,0,[],1,2,3,0⟩
def aS:AttV:=⟨20,0,[],1,2,4,0⟩
def aO:AttV:=⟨1,121,[],0,0,0,0⟩
def rsK:List Bool:=[true,false,false,false,true]
theorem aw_rsR:reachL (upK aR) (walkW (upK aR) [1]).1=rsK:=by decide +kernel
theorem aw_rs:reachL (upK aS) (walkW (upK aS) [1]).1=rsK:=by decide +kernel
theorem aw_right:findO (upK aR) lsB rsK=[]:=by decide +kernel
theorem aw_stale:findO (upK aS) lsB rsK=[⟨13,0,5,-1⟩,⟨14,0,5,-1⟩]:=by decide +kernel
theorem aw_odd:oddO (ndK aO)=true:=by decide +kernel
theorem aw_lacks:lacksO lsB (ndK aS)=true:=by decide +kernel
theorem cl_grown {w w':World} {g:Nat} (h:ClW w) (hg:w.grownBy w' (some g)) (h0:0 < g):ClW w':=fun j hj=>(cell_same (hg.block 0 h.lt (pu5 (by omega)))).trans (h j hj)
theorem up_few (a:AttV) (h0:0≤a.h) (h1:a.h≤31) (h2:a.r.length≤40):FewU (upK a):=by
 refine ⟨by simp [upK],fun x hx=>?_⟩
 simp only [upK,List.mem_cons,List.not_mem_nil,or_false] at hx
 rcases hx with rfl|rfl|rfl|rfl|rfl
 ·refine ⟨fun i e hi he=>?_,by decide,by decide,by decide,by decide,by decide,fun e he=>?_⟩
  ·obtain rfl:i=0:=by have:i < 1:=hi;omega
   cases he
   exact ⟨by decide,by decide,fun p h=>absurd h (by omega)⟩
  ·rw [List.mem_singleton.1 he]
   decide
 ·exact ⟨fun i e hi he=>absurd hi (by simp [ndD,nod0]),by decide,by decide,by decide,by decide,by decide,fun e he=>by simp [ndD,nod0] at he⟩
 ·exact ⟨fun i e hi he=>absurd hi (by simp [ndD,nod0]),by decide,by decide,by decide,by decide,by decide,fun e he=>by simp [ndD,nod0] at he⟩
 ·exact plain0
 ·exact ⟨fun i e hi he=>absurd hi (by simp [ndK,nod0]),⟨by simp [ndK],by simp [ndK]⟩,⟨h0,h1⟩,by simp [ndK,nod0],by simp [ndK,nod0],h2,fun e he=>by simp [ndK,nod0] at he⟩
theorem OFinds_p {g:GeoQ} {AU AL:Option Addr} {nU cU nL cL B:Nat} {up:List NodV} {ls:List (List NodV)} {rs:List Bool} {R:List FinV} {n:Nat} (hrs:reachL up (walkW up [1]).1=rs) (hR:findO up ls rs=R) (hn:R.length=n) (w:World) (hu:RdE nodEn w (Under B) AU nU up) (h:RdE layEn w (Under B) AL nL ls) (hB:B≤w.heap.size) (hF:FewL ls) (hup:FewU up) (hcw:ClW w):Calls Tryd.prog 9 #[.agg (stkC g (.slice AU nU cU) (.slice AL nL cL)).toArray] w (FinsP w n R):=by
 refine (OFinds_any hrs w hu h hB hF hup hcw).mono fun e w' hh=>?_
 rw [hR] at hh
 exact hh.p hn
theorem lit_fin2 (a b:FinV) (W:World):(Instr.buildSlice 42 2 #[(0,.agg #[.int .i64 a.c,.int .i64 a.l,.int .i64 a.i,.int .i64 a.s]),(1,.agg #[.int .i64 b.c,.int .i64 b.l,.int .i64 b.i,.int .i64 b.s])]).run Tryd.prog W=.ok (.slice (some ⟨W.heap.size,0,none⟩) 2 2) (W.alloc (.cells #[.int .i64 a.c,.int .i64 a.l,.int .i64 a.i,.int .i64 a.s,.int .i64 b.c,.int .i64 b.l,.int .i64 b.i,.int .i64 b.s] 44)):=by
 obtain ⟨it,hi,hz,hsz,-⟩:=info_parts finW_info
 refine run_buildSlice W _ 44 2 _ _ it (.agg #[.int .i64 0,.int .i64 0,.int .i64 0,.int .i64 0]) Tryd.underlying42 hi hz (by omega) (by omega) ?_
 rw [hsz]
 have:=Great.fill_whole (s:=4) (by omega) [.agg #[.int .i64 a.c,.int .i64 a.l,.int .i64 a.i,.int .i64 a.s],.agg #[.int .i64 b.c,.int .i64 b.l,.int .i64 b.i,.int .i64 b.s]] ((Array.range (2*4)).map ((Value.agg #[.int .i64 0,.int .i64 0,.int .i64 0,.int .i64 0]).cells[· % (Value.agg #[.int .i64 0,.int .i64 0,.int .i64 0,.int .i64 0]).cells.size]!)) (by intro v hv;simp only [List.mem_cons,List.not_mem_nil,or_false] at hv;rcases hv with rfl|rfl <;> simp [Value.cells]) (by simp)
 simpa [Value.cells] using this
theorem fin_row2 {w:World} {g:Nat} (a b:FinV) (h:RowL w g 44 [.int .i64 a.c,.int .i64 a.l,.int .i64 a.i,.int .i64 a.s,.int .i64 b.c,.int .i64 b.l,.int .i64 b.i,.int .i64 b.s]):RdE finEn w (Under w.heap.size) (some ⟨g,0,none⟩) 2 [a,b]:=by
 refine ⟨rfl,fun _=>⟨g,0,rfl,h.lt,fun i x hx=>⟨finC x,rfl,fun j v hv=>?_⟩⟩⟩
 have hi:i < 2:=(List.getElem?_eq_some_iff.1 hx).1
 have hj:j < 4:=by have:=(List.getElem?_eq_some_iff.1 hv).1;simpa [finC] using this
 rw [show (⟨g,0+(i*finEn.k+j),none⟩:Addr)=⟨g,i*4+j,none⟩ from by rw [Nat.zero_add];rfl,h.cell]
 obtain rfl|rfl:i=0∨i=1:=by omega
 ·obtain rfl:a=x:=by simpa using hx
  rw [←hv]
  obtain rfl|rfl|rfl|rfl:j=0∨j=1∨j=2∨j=3:=by omega
  all_goals rfl
 ·obtain rfl:b=x:=by simpa using hx
  rw [←hv]
  obtain rfl|rfl|rfl|rfl:j=0∨j=1∨j=2∨j=3:=by omega
  all_goals rfl
set_option maxRecDepth 100000 in
theorem stk_f1 (g:GeoQ) (A B:Option Addr) (n c m d:Nat) (W:World):(Instr.field 29 (.agg (stkC g (.slice A n c) (.slice B m d)).toArray) 1).run Tryd.prog W=.ok (.agg #[.slice A n c]) W:=by kernel_rfl
set_option maxRecDepth 100000 in
theorem brn_f0 (A:Option Addr) (n c:Nat) (W:World):(Instr.field 26 (.agg #[.slice A n c]) 0).run Tryd.prog W=.ok (.slice A n c) W:=by kernel_rfl
set_option maxRecDepth 100000 in
set_option maxHeartbeats 8000000 in
theorem awake22_any (w:World) (hcw:ClW w):Calls Tryd.prog 7 #[] w (LawOk w):=by
 have HB:=hide (below_self w)
 have HC:=hide hcw
 have hw0:=hcw.lt
 clear hcw
 go_enter Tryd.func7,Tryd.ntmps7
 go_wp2_with (first|(refine wpList_storeW rfl 35 (.tmp 1) (.tmp 6) rfl 7 att_size (w.heap.size) 35 rfl (attC att0) (attC aR) rfl (RowL.new w 35 (attC att0)) rfl rfl (attC_one _) ?_;intro wS1 hr1 hg1 hs1;have hzb:=below_stored' hg1;replace HB:=hide (HB.out.trans (hzb.mono HB.out.size));replace HC:=hide (HC.out.below hzb);have hsz2:=hzb.size;have R1:=hide hr1;have hlt1:=hr1.lt;clear hzb hr1;clear hg1 hs1)|(refine wpList_loadW rfl 35 (.tmp 1) rfl 7 att_agg att_size (w.heap.size) 35 rfl (attC aR) R1.out rfl ?_)|(obtain ⟨hz2,hz3,hzb,hzs⟩:=rows2 wS1 (attC att0) (attC att0) 35 35;refine wpList_storeW rfl 35 (.tmp 2) (.tmp 7) rfl 7 att_size (wS1.heap.size) 35 rfl (attC att0) (attC aR) rfl hz2 rfl rfl (attC_one _) ?_;intro wS3 hr3 hg3 hs3;replace hzb:=hzb.grown hg3 hzb.size (pu4 (by omega));replace hz3:=hz3.grown hg3 (pu5 (by omega));have hz2:=hr3;clear hg3 hs3 hr3)|(refine wpList_storeW rfl 35 (.tmp 3) (.tmp 8) rfl 7 att_size (wS1.heap.size+1) 35 rfl (attC att0) (attC aO) rfl hz3 rfl rfl (attC_one _) ?_;intro wS4 hr4 hg4 hs4;replace hzb:=hzb.grown hg4 hzb.size (pu4 (by omega));replace hz2:=hz2.grown hg4 (pu5 (by omega));have hz3:=hr4;replace HB:=hide (HB.out.trans (hzb.mono HB.out.size));replace HC:=hide (HC.out.below hzb);replace R1:=hide (R1.out.on hzb);have hsz5:=hzb.size;have R2:=hide hz2;have hlt3:=hz2.lt;have R3:=hide hz3;have hlt4:=hz3.lt;have q3_0:wS4.cell? ⟨wS1.heap.size+1,0,none⟩=some (.int .i64 1):=R3.out.cell 0;have q3_1:wS4.cell? ⟨wS1.heap.size+1,1,none⟩=some (.int .i64 121):=R3.out.cell 1;have q3_2:wS4.cell? ⟨wS1.heap.size+1,2,none⟩=some (.string ⟨#[]⟩):=R3.out.cell 2;have q3_3:wS4.cell? ⟨wS1.heap.size+1,3,none⟩=some (.int .i64 0):=R3.out.cell 3;have q3_4:wS4.cell? ⟨wS1.heap.size+1,4,none⟩=some (.int .i64 0):=R3.out.cell 4;have q3_5:wS4.cell? ⟨wS1.heap.size+1,5,none⟩=some (.int .i64 0):=R3.out.cell 5;have q3_6:wS4.cell? ⟨wS1.heap.size+1,6,none⟩=some (.int .i64 0):=R3.out.cell 6;have q2_0:wS4.cell? ⟨wS1.heap.size,0,none⟩=some (.int .i64 20):=R2.out.cell 0;have q2_1:wS4.cell? ⟨wS1.heap.size,1,none⟩=some (.int .i64 0):=R2.out.cell 1;have q2_2:wS4.cell? ⟨wS1.heap.size,2,none⟩=some (.string ⟨#[]⟩):=R2.out.cell 2;have q2_3:wS4.cell? ⟨wS1.heap.size,3,none⟩=some (.int .i64 1):=R2.out.cell 3;have q2_4:wS4.cell? ⟨wS1.heap.size,4,none⟩=some (.int .i64 2):=R2.out.cell 4;have q2_5:wS4.cell? ⟨wS1.heap.size,5,none⟩=some (.int .i64 3):=R2.out.cell 5;have q2_6:wS4.cell? ⟨wS1.heap.size,6,none⟩=some (.int .i64 0):=R2.out.cell 6;clear hzb hzs hz2 hz3;clear hg4 hs4)|(refine wpList_storeV rfl 3 (.tmp 10) (Operand.const (Value.int IntKind.i64 4)) rfl int_size (wS1.heap.size) 5 35 rfl (.int .i64 4) rfl rfl rfl (attC aR) R2.out (by show 5 < 7;omega) ?_;intro wS6 hr6 hg6 hs6;replace hr6:RowL wS6 (wS1.heap.size) 35 [.int .i64 20,.int .i64 0,.string ⟨#[]⟩,.int .i64 1,.int .i64 2,.int .i64 4,.int .i64 0]:=hr6;clear q3_0 q3_1 q3_2 q3_3 q3_4 q3_5 q3_6 q2_0 q2_1 q2_2 q2_3 q2_4 q2_5 q2_6;replace HB:=hide (HB.out.grown hg6 (by omega) (pu4 (by omega)));replace HC:=hide ((cl_grown HC.out hg6 (by omega)));replace R1:=hide (R1.out.grown hg6 (pu5 (by omega)));replace R3:=hide (R3.out.grown hg6 (pu5 (by omega)));have hsz7:=hg6.size;replace R2:=hide hr6;have q3_0:wS6.cell? ⟨wS1.heap.size+1,0,none⟩=some (.int .i64 1):=R3.out.cell 0;have q3_1:wS6.cell? ⟨wS1.heap.size+1,1,none⟩=some (.int .i64 121):=R3.out.cell 1;have q3_2:wS6.cell? ⟨wS1.heap.size+1,2,none⟩=some (.string ⟨#[]⟩):=R3.out.cell 2;have q3_3:wS6.cell? ⟨wS1.heap.size+1,3,none⟩=some (.int .i64 0):=R3.out.cell 3;have q3_4:wS6.cell? ⟨wS1.heap.size+1,4,none⟩=some (.int .i64 0):=R3.out.cell 4;have q3_5:wS6.cell? ⟨wS1.heap.size+1,5,none⟩=some (.int .i64 0):=R3.out.cell 5;have q3_6:wS6.cell? ⟨wS1.heap.size+1,6,none⟩=some (.int .i64 0):=R3.out.cell 6;have q2_0:wS6.cell? ⟨wS1.heap.size,0,none⟩=some (.int .i64 20):=R2.out.cell 0;have q2_1:wS6.cell? ⟨wS1.heap.size,1,none⟩=some (.int .i64 0):=R2.out.cell 1;have q2_2:wS6.cell? ⟨wS1.heap.size,2,none⟩=some (.string ⟨#[]⟩):=R2.out.cell 2;have q2_3:wS6.cell? ⟨wS1.heap.size,3,none⟩=some (.int .i64 1):=R2.out.cell 3;have q2_4:wS6.cell? ⟨wS1.heap.size,4,none⟩=some (.int .i64 2):=R2.out.cell 4;have q2_5:wS6.cell? ⟨wS1.heap.size,5,none⟩=some (.int .i64 4):=R2.out.cell 5;have q2_6:wS6.cell? ⟨wS1.heap.size,6,none⟩=some (.int .i64 0):=R2.out.cell 6;clear hr6 hg6 hs6)|(refine wpList_loadW rfl 35 (.tmp 2) rfl 7 att_agg att_size (wS1.heap.size) 35 rfl (attC aS) R2.out rfl ?_)|(go_at_call 23;refine (Copied_any aS wS6).mono ?_;rintro e8 wK4 ⟨g4,E4,AL4,nL4,cL4,rfl,hr4,hu4,hl4,hbel⟩;clear hr4;clear q3_0 q3_1 q3_2 q3_3 q3_4 q3_5 q3_6 q2_0 q2_1 q2_2 q2_3 q2_4 q2_5 q2_6;replace HB:=hide (HB.out.trans (hbel.mono HB.out.size));replace HC:=hide (HC.out.below hbel);replace R1:=hide (R1.out.on hbel);replace R2:=hide (R2.out.on hbel);replace R3:=hide (R3.out.on hbel);have hsz9:=hbel.size;have q3_0:wK4.cell? ⟨wS1.heap.size+1,0,none⟩=some (.int .i64 1):=R3.out.cell 0;have q3_1:wK4.cell? ⟨wS1.heap.size+1,1,none⟩=some (.int .i64 121):=R3.out.cell 1;have q3_2:wK4.cell? ⟨wS1.heap.size+1,2,none⟩=some (.string ⟨#[]⟩):=R3.out.cell 2;have q3_3:wK4.cell? ⟨wS1.heap.size+1,3,none⟩=some (.int .i64 0):=R3.out.cell 3;have q3_4:wK4.cell? ⟨wS1.heap.size+1,4,none⟩=some (.int .i64 0):=R3.out.cell 4;have q3_5:wK4.cell? ⟨wS1.heap.size+1,5,none⟩=some (.int .i64 0):=R3.out.cell 5;have q3_6:wK4.cell? ⟨wS1.heap.size+1,6,none⟩=some (.int .i64 0):=R3.out.cell 6;have q2_0:wK4.cell? ⟨wS1.heap.size,0,none⟩=some (.int .i64 20):=R2.out.cell 0;have q2_1:wK4.cell? ⟨wS1.heap.size,1,none⟩=some (.int .i64 0):=R2.out.cell 1;have q2_2:wK4.cell? ⟨wS1.heap.size,2,none⟩=some (.string ⟨#[]⟩):=R2.out.cell 2;have q2_3:wK4.cell? ⟨wS1.heap.size,3,none⟩=some (.int .i64 1):=R2.out.cell 3;have q2_4:wK4.cell? ⟨wS1.heap.size,4,none⟩=some (.int .i64 2):=R2.out.cell 4;have q2_5:wK4.cell? ⟨wS1.heap.size,5,none⟩=some (.int .i64 4):=R2.out.cell 5;have q2_6:wK4.cell? ⟨wS1.heap.size,6,none⟩=some (.int .i64 0):=R2.out.cell 6;have HU:=hide hu4;clear hu4;have HL:=hide hl4;clear hl4;clear hbel)|(go_at_call 9;refine (OFinds_p (g:=gB) (n:=2) aw_rs aw_stale rfl wK4 HU.out HL.out (by omega) ba_few (up_few aS (by decide) (by decide) (by decide)) HC.out).mono ?_;rintro e10 wF4 ⟨A4,c4,rfl,h4,hbel⟩;clear q3_0 q3_1 q3_2 q3_3 q3_4 q3_5 q3_6 q2_0 q2_1 q2_2 q2_3 q2_4 q2_5 q2_6;replace HB:=hide (HB.out.trans (hbel.mono HB.out.size));replace HC:=hide (HC.out.below hbel);replace R1:=hide (R1.out.on hbel);replace R2:=hide (R2.out.on hbel);replace R3:=hide (R3.out.on hbel);replace HU:=hide (HU.out.under hbel (by omega));replace HL:=hide (HL.out.under hbel (by omega));have hsz11:=hbel.size;have q3_0:wF4.cell? ⟨wS1.heap.size+1,0,none⟩=some (.int .i64 1):=R3.out.cell 0;have q3_1:wF4.cell? ⟨wS1.heap.size+1,1,none⟩=some (.int .i64 121):=R3.out.cell 1;have q3_2:wF4.cell? ⟨wS1.heap.size+1,2,none⟩=some (.string ⟨#[]⟩):=R3.out.cell 2;have q3_3:wF4.cell? ⟨wS1.heap.size+1,3,none⟩=some (.int .i64 0):=R3.out.cell 3;have q3_4:wF4.cell? ⟨wS1.heap.size+1,4,none⟩=some (.int .i64 0):=R3.out.cell 4;have q3_5:wF4.cell? ⟨wS1.heap.size+1,5,none⟩=some (.int .i64 0):=R3.out.cell 5;have q3_6:wF4.cell? ⟨wS1.heap.size+1,6,none⟩=some (.int .i64 0):=R3.out.cell 6;have q2_0:wF4.cell? ⟨wS1.heap.size,0,none⟩=some (.int .i64 20):=R2.out.cell 0;have q2_1:wF4.cell? ⟨wS1.heap.size,1,none⟩=some (.int .i64 0):=R2.out.cell 1;have q2_2:wF4.cell? ⟨wS1.heap.size,2,none⟩=some (.string ⟨#[]⟩):=R2.out.cell 2;have q2_3:wF4.cell? ⟨wS1.heap.size,3,none⟩=some (.int .i64 1):=R2.out.cell 3;have q2_4:wF4.cell? ⟨wS1.heap.size,4,none⟩=some (.int .i64 2):=R2.out.cell 4;have q2_5:wF4.cell? ⟨wS1.heap.size,5,none⟩=some (.int .i64 4):=R2.out.cell 5;have q2_6:wF4.cell? ⟨wS1.heap.size,6,none⟩=some (.int .i64 0):=R2.out.cell 6;have H4:=hide h4;clear h4;clear hbel))
 refine wp_region_planN (fun w'=>Below wF4.heap.size wF4 w') [(0,true),(1,false),(2,false),(3,true),(4,true),(5,true),(6,true),(7,true),(8,true),(9,false),(10,false),(11,true),(12,true),(13,true),(14,false),(15,true),(16,true),(17,true),(18,false),(19,false),(20,true),(21,true),(22,true),(24,true),(23,false),(25,false),(26,true),(27,true),(28,true),(29,false),(30,false),(31,true),(32,true)] (by kernel_rfl) (by kernel_rfl) (by kernel_rfl) (by kernel_rfl) rfl (fun _ _ _ _ _ h=>h) (below_drew (below_self wF4)) (fun hHeld=>?_)
 simp only [planOps,List.filterMap_cons,List.filterMap_nil,List.getElem?_toArray,List.getElem?_cons_succ,List.getElem?_cons_zero,Option.map_some]
 refine wpPlan_take (v:=?_) (by kernel_rfl) (fun wS hSw=>?_) ?_
 rotate_left
 ·refine execOp_load (x:=.tmp 1) (k:=7) (g:=w.heap.size) (off:=0) (cs:=(attC aR)) ?_ att_agg att_size ?_ (fun j v hv=>by rw [Nat.zero_add];exact ((R1.out.on hSw).cell j).trans hv) rfl <;> rfl
 (try simp only [Act.put,pu1,pu2,pu3])
 refine wpPlan_call (by kernel_rfl) (fun K hK=>?_)
 have hOld:=hide hHeld
 clear hHeld
 go_simp
 go_at_call 23
 refine (Copied_any aR _).mono ?_
 rintro e w' ⟨g5,E5,AL5,nL5,cL5,rfl,hr5,hu5,hl5,hbel⟩
 have HU5:=hide hu5
 have HL5:=hide hl5
 clear hr5 hu5 hl5
 refine hK.out _ _ (hOld.out.trans (hbel.mono hOld.out.size)) (fun hHeld=>?_)
 clear hK K
 (try simp only [Act.put,pu1,pu2,pu3])
 refine wpPlan_call (by kernel_rfl) (fun K hK=>?_)
 have hOld:=hide hHeld
 clear hHeld
 go_simp
 go_at_call 9
 refine (OFinds_p (g:=gB) (n:=0) aw_rsR aw_right rfl _ HU5.out HL5.out (Nat.le_refl _) ba_few (up_few aR (by decide) (by decide) (by decide)) (HC.out.below hOld.out)).mono ?_
 rintro e w' ⟨A5,c5,rfl,h5,hbel⟩
 clear h5 HU5 HL5
 refine hK.out _ _ (hOld.out.trans (hbel.mono hOld.out.size)) (fun hHeld=>?_)
 clear hK K
 (try simp only [Act.put,pu1,pu2,pu3])
 iterate 6
  refine wpPlan_take (v:=?_) (by kernel_rfl) (fun wS hSw=>?_) ?_
  rotate_left
  ·(try dsimp only at hSw);go_simp;(try with_reducible rfl)
  (try simp only [Act.put,pu1,pu2,pu3])
 refine wpPlan_call (by kernel_rfl) (fun K hK=>?_)
 have hOld:=hide hHeld
 clear hHeld
 unfold Oper.wp execOp
 have hlit:=lit_fin2 ⟨13,0,5,-1⟩ ⟨14,0,5,-1⟩ w'
 go_simp
 have hb':=below_new (below_self w') (.cells #[.int .i64 13,.int .i64 0,.int .i64 5,.int .i64 (-1),.int .i64 14,.int .i64 0,.int .i64 5,.int .i64 (-1)] 44)
 have HLT:=hide (fin_row2 ⟨13,0,5,-1⟩ ⟨14,0,5,-1⟩ (RowL.new w' 44 [.int .i64 13,.int .i64 0,.int .i64 5,.int .i64 (-1),.int .i64 14,.int .i64 0,.int .i64 5,.int .i64 (-1)]))
 refine hK.out _ _ (hOld.out.trans (hb'.mono hOld.out.size)) (fun hHeld=>?_)
 clear hK K
 clear hlit hb'
 (try simp only [Act.put,pu1,pu2,pu3])
 refine wpPlan_call (by kernel_rfl) (fun K hK=>?_)
 have hOld:=hide hHeld
 clear hHeld
 go_simp
 go_at_call 8
 refine (EqualFin_same (L:=[⟨13,0,5,-1⟩,⟨14,0,5,-1⟩]) _ (und_up (H4.out.under hOld.out (by omega)) (by have:=hOld.out.size;omega)) HLT.out (by omega)).mono ?_
 rintro e w' ⟨rfl,hbel⟩
 clear HLT
 refine hK.out _ _ (hOld.out.trans (hbel.mono hOld.out.size)) (fun hHeld=>?_)
 clear hK K
 (try simp only [Act.put,pu1,pu2,pu3])
 iterate 2
  refine wpPlan_take (v:=?_) (by kernel_rfl) (fun wS hSw=>?_) ?_
  rotate_left
  ·(try dsimp only at hSw);go_simp;(try with_reducible rfl)
  (try simp only [Act.put,pu1,pu2,pu3])
 refine wpPlan_take (v:=?_) (by kernel_rfl) (fun wS hSw=>?_) ?_
 rotate_left
 ·refine execOp_load (x:=.tmp 3) (k:=7) (g:=wS1.heap.size+1) (off:=0) (cs:=(attC aO)) ?_ att_agg att_size ?_ (fun j v hv=>by rw [Nat.zero_add];exact ((R3.out.on hSw).cell j).trans hv) rfl <;> rfl
 (try simp only [Act.put,pu1,pu2,pu3])
 refine wpPlan_call (by kernel_rfl) (fun K hK=>?_)
 have hOld:=hide hHeld
 clear hHeld
 go_simp
 go_at_call 23
 refine (Copied_any aO _).mono ?_
 rintro e w' ⟨g6,E6,AL6,nL6,cL6,rfl,hr6,hu6,hl6,hbel⟩
 have HR6:=hide hr6
 have HX6:=hide hbel
 clear hr6 hu6 hl6
 refine hK.out _ _ (hOld.out.trans (hbel.mono hOld.out.size)) (fun hHeld=>?_)
 clear hK K
 (try simp only [Act.put,pu1,pu2,pu3])
 refine wpPlan_take (v:=?_) (by kernel_rfl) (fun wS hSw=>?_) ?_
 rotate_left
 ·have qx:=stk_f1 gB (some ⟨g6,0,none⟩) AL6 5 5 nL6 cL6 wS;(try dsimp only at hSw);go_simp;(try with_reducible rfl)
 (try simp only [Act.put,pu1,pu2,pu3])
 refine wpPlan_take (v:=?_) (by kernel_rfl) (fun wS hSw=>?_) ?_
 rotate_left
 ·have qx:=brn_f0 (some ⟨g6,0,none⟩) 5 5 wS;(try dsimp only at hSw);go_simp;(try with_reducible rfl)
 (try simp only [Act.put,pu1,pu2,pu3])
 refine wpPlan_take (v:=?_) (by kernel_rfl) (fun wS hSw=>?_) ?_
 rotate_left
 ·(try dsimp only at hSw);go_simp;(try with_reducible rfl)
 (try simp only [Act.put,pu1,pu2,pu3])
 refine wpPlan_call (by kernel_rfl) (fun K hK=>?_)
 have hOld:=hide hHeld
 clear hHeld
 have q0:w'.cell? ⟨g6,52,none⟩=some (.int .i64 2):=HR6.out.cell 52
 have q1:w'.cell? ⟨g6,53,none⟩=some (.int .i64 0):=HR6.out.cell 53
 have q2:w'.cell? ⟨g6,54,none⟩=some (.int .i64 1):=HR6.out.cell 54
 have q3:w'.cell? ⟨g6,55,none⟩=some (.int .i64 0):=HR6.out.cell 55
 have q4:w'.cell? ⟨g6,56,none⟩=some (.slice none 0 0):=HR6.out.cell 56
 have q5:w'.cell? ⟨g6,57,none⟩=some (.slice none 0 0):=HR6.out.cell 57
 have q6:w'.cell? ⟨g6,58,none⟩=some (.int .i64 1):=HR6.out.cell 58
 have q7:w'.cell? ⟨g6,59,none⟩=some (.int .i64 121):=HR6.out.cell 59
 have q8:w'.cell? ⟨g6,60,none⟩=some (.string ⟨#[]⟩):=HR6.out.cell 60
 have q9:w'.cell? ⟨g6,61,none⟩=some (.int .i64 0):=HR6.out.cell 61
 have q10:w'.cell? ⟨g6,62,none⟩=some (.int .i64 0):=HR6.out.cell 62
 have q11:w'.cell? ⟨g6,63,none⟩=some (.int .i64 0):=HR6.out.cell 63
 have q12:w'.cell? ⟨g6,64,none⟩=some (.int .i64 0):=HR6.out.cell 64
 unfold Oper.wp execOp
 go_simp
 refine hK.out _ _ (hOld.out) (fun hHeld=>?_)
 clear hK K
 clear q0 q1 q2 q3 q4 q5 q6 q7 q8 q9 q10 q11 q12 hOld
 (try simp only [Act.put,pu1,pu2,pu3])
 refine wpPlan_call (by kernel_rfl) (fun K hK=>?_)
 have hOld:=hide hHeld
 clear hHeld
 go_simp
 go_at_call 11
 refine (Odd_any (x:=ndK aO) aw_odd (by decide) (by decide) _).mono ?_
 rintro e w' ⟨rfl,hbel⟩
 clear HR6 HX6
 refine hK.out _ _ (hOld.out.trans (hbel.mono hOld.out.size)) (fun hHeld=>?_)
 clear hK K
 (try simp only [Act.put,pu1,pu2,pu3])
 iterate 2
  refine wpPlan_take (v:=?_) (by kernel_rfl) (fun wS hSw=>?_) ?_
  rotate_left
  ·(try dsimp only at hSw);go_simp;(try with_reducible rfl)
  (try simp only [Act.put,pu1,pu2,pu3])
 refine wpPlan_take (v:=?_) (by kernel_rfl) (fun wS hSw=>?_) ?_
 rotate_left
 ·refine execOp_load (x:=.tmp 2) (k:=7) (g:=wS1.heap.size) (off:=0) (cs:=(attC aS)) ?_ att_agg att_size ?_ (fun j v hv=>by rw [Nat.zero_add];exact ((R2.out.on hSw).cell j).trans hv) rfl <;> rfl
 (try simp only [Act.put,pu1,pu2,pu3])
 refine wpPlan_take (v:=?_) (by kernel_rfl) (fun wS hSw=>?_) ?_
 rotate_left
 ·refine execOp_load (x:=.tmp 2) (k:=7) (g:=wS1.heap.size) (off:=0) (cs:=(attC aS)) ?_ att_agg att_size ?_ (fun j v hv=>by rw [Nat.zero_add];exact ((R2.out.on hSw).cell j).trans hv) rfl <;> rfl
 (try simp only [Act.put,pu1,pu2,pu3])
 refine wpPlan_call (by kernel_rfl) (fun K hK=>?_)
 have hOld:=hide hHeld
 clear hHeld
 go_simp
 go_at_call 23
 refine (Copied_any aS _).mono ?_
 rintro e w' ⟨g7,E7,AL7,nL7,cL7,rfl,hr7,hu7,hl7,hbel⟩
 have HU7:=hide hu7
 have HL7:=hide hl7
 have HZ7:=hide hbel
 clear hr7 hu7 hl7
 refine hK.out _ _ (hOld.out.trans (hbel.mono hOld.out.size)) (fun hHeld=>?_)
 clear hK K
 (try simp only [Act.put,pu1,pu2,pu3])
 refine wpPlan_call (by kernel_rfl) (fun K hK=>?_)
 have hOld:=hide hHeld
 clear hHeld
 go_simp
 go_at_call 23
 refine (Copied_any aS _).mono ?_
 rintro e w' ⟨g8,E8,AL8,nL8,cL8,rfl,hr8,hu8,hl8,hbel⟩
 have HR8:=hide hr8
 replace HU7:=hide (und_at HU7.out hbel (Nat.le_refl _))
 replace HL7:=hide (und_at HL7.out hbel (Nat.le_refl _))
 have hbs8:=hbel.size
 clear hr8 hu8 hl8
 refine hK.out _ _ (hOld.out.trans (hbel.mono hOld.out.size)) (fun hHeld=>?_)
 clear hK K
 (try simp only [Act.put,pu1,pu2,pu3])
 refine wpPlan_take (v:=?_) (by kernel_rfl) (fun wS hSw=>?_) ?_
 rotate_left
 ·have qx:=stk_f1 gB (some ⟨g8,0,none⟩) AL8 5 5 nL8 cL8 wS;(try dsimp only at hSw);go_simp;(try with_reducible rfl)
 (try simp only [Act.put,pu1,pu2,pu3])
 refine wpPlan_take (v:=?_) (by kernel_rfl) (fun wS hSw=>?_) ?_
 rotate_left
 ·have qx:=brn_f0 (some ⟨g8,0,none⟩) 5 5 wS;(try dsimp only at hSw);go_simp;(try with_reducible rfl)
 (try simp only [Act.put,pu1,pu2,pu3])
 refine wpPlan_take (v:=?_) (by kernel_rfl) (fun wS hSw=>?_) ?_
 rotate_left
 ·(try dsimp only at hSw);go_simp;(try with_reducible rfl)
 (try simp only [Act.put,pu1,pu2,pu3])
 refine wpPlan_call (by kernel_rfl) (fun K hK=>?_)
 have hOld:=hide hHeld
 clear hHeld
 have q0:w'.cell? ⟨g8,52,none⟩=some (.int .i64 2):=HR8.out.cell 52
 have q1:w'.cell? ⟨g8,53,none⟩=some (.int .i64 0):=HR8.out.cell 53
 have q2:w'.cell? ⟨g8,54,none⟩=some (.int .i64 1):=HR8.out.cell 54
 have q3:w'.cell? ⟨g8,55,none⟩=some (.int .i64 0):=HR8.out.cell 55
 have q4:w'.cell? ⟨g8,56,none⟩=some (.slice none 0 0):=HR8.out.cell 56
 have q5:w'.cell? ⟨g8,57,none⟩=some (.slice none 0 0):=HR8.out.cell 57
 have q6:w'.cell? ⟨g8,58,none⟩=some (.int .i64 20):=HR8.out.cell 58
 have q7:w'.cell? ⟨g8,59,none⟩=some (.int .i64 0):=HR8.out.cell 59
 have q8:w'.cell? ⟨g8,60,none⟩=some (.string ⟨#[]⟩):=HR8.out.cell 60
 have q9:w'.cell? ⟨g8,61,none⟩=some (.int .i64 1):=HR8.out.cell 61
 have q10:w'.cell? ⟨g8,62,none⟩=some (.int .i64 2):=HR8.out.cell 62
 have q11:w'.cell? ⟨g8,63,none⟩=some (.int .i64 4):=HR8.out.cell 63
 have q12:w'.cell? ⟨g8,64,none⟩=some (.int .i64 0):=HR8.out.cell 64
 unfold Oper.wp execOp
 go_simp
 refine hK.out _ _ (hOld.out) (fun hHeld=>?_)
 clear hK K
 clear q0 q1 q2 q3 q4 q5 q6 q7 q8 q9 q10 q11 q12 hOld
 (try simp only [Act.put,pu1,pu2,pu3])
 refine wpPlan_call (by kernel_rfl) (fun K hK=>?_)
 have hOld:=hide hHeld
 clear hHeld
 go_simp
 go_at_call 15
 refine (Lacks_any (x:=ndK aS) (g:=gB) aw_lacks (by decide) (by decide) _ (und_up HU7.out (by omega)) (und_up HL7.out (by omega)) (Nat.le_refl _) ba_few (up_few aS (by decide) (by decide) (by decide))).mono ?_
 rintro e w' ⟨rfl,hbel⟩
 clear HR8 HU7 HL7
 refine hK.out _ _ (hOld.out.trans (hbel.mono hOld.out.size)) (fun hHeld=>?_)
 clear hK K
 (try simp only [Act.put,pu1,pu2,pu3])
 refine wpPlan_take (v:=?_) (by kernel_rfl) (fun wS hSw=>?_) ?_
 rotate_left
 ·(try dsimp only at hSw);go_simp;(try with_reducible rfl)
 (try simp only [Act.put,pu1,pu2,pu3])
 refine wpPlan_take (v:=?_) (by kernel_rfl) (fun wS hSw=>?_) ?_
 rotate_left
 ·(try dsimp only at hSw);go_simp;(try with_reducible rfl)
 (try simp only [Act.put,List.setIfInBounds_toArray,List.set_cons_zero])
 refine wpPlan_end ?_
 have HBX:=hide (HB.out.trans (hHeld.mono HB.out.size))
 clear hHeld
 go_wp2_with fail
 go_ret
 exact LawOk.of HBX.out
end Go.Proofs.YtfdbhldnohaopaaDoor

