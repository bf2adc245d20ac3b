import Derived.Test.YthdoimgbbabcaaaGreatMs16
import Derived.Test.YthdoimgbbabcaaaGreatMs5
import Derived.Lib.CutLaws
import Derived.IntWalk
import Derived.Test.YthdoimgbbabcaaaGreatMs1

namespace Go.Proofs.YthdoimgbbabcaaaGreat
open Go.RowKit Go.Shelf Plain

def viwC (u:Int) (s:Value):List Value:=[.int .i64 u,s]
def vwdC (g:GeoQ) (U L:Value) (u:Int) (s:Value):List Value:=[.int .i64 g.a,.int .i64 g.b,.int .i64 g.c,.int .i64 g.d,U,L,.int .i64 u,s]
theorem viwC_one (u:Int) (A:Option Addr) (n c:Nat):∀v∈viwC u (.slice A n c),v.oneCell'=true:=by simp [viwC,Value.oneCell']
theorem vwdC_one (g:GeoQ) (A B C:Option Addr) (n c m d k e:Nat) (u:Int):∀v∈vwdC g (.slice A n c) (.slice B m d) u (.slice C k e),v.oneCell'=true:=by simp [vwdC,Value.oneCell']
set_option maxRecDepth 100000 in
theorem viw_agg:∀w,(isAgg 47).run Tryz.prog w=.ok true w:=fun w=>by kernel_rfl
set_option maxRecDepth 100000 in
theorem viw_size:∀w,(Go.sizeOf 47).run Tryz.prog w=.ok 2 w:=fun w=>by kernel_rfl
set_option maxRecDepth 100000 in
theorem vwd_agg:∀w,(isAgg 103).run Tryz.prog w=.ok true w:=fun w=>by kernel_rfl
set_option maxRecDepth 100000 in
theorem vwd_size:∀w,(Go.sizeOf 103).run Tryz.prog w=.ok 8 w:=fun w=>by kernel_rfl
set_option maxRecDepth 100000 in
theorem int_size:∀w,(Go.sizeOf 3).run Tryz.prog w=.ok 1 w:=fun w=>by kernel_rfl
theorem At_e {A:Option Addr} {B:Nat} {n c:Nat} {ns:List NodV} {i:Int} {x:NodV} (hx:nodAt ns i=x) (w:World) (h:RdE nodEn w (Under B) A n ns) (hB:B≤w.heap.size) (hm:ns.length≤100000):Calls Tryz.prog 101 #[.agg #[.slice A n c],.int .i64 i] w (NodRet w B x):=by rw [←hx];exact At_anyB w h hB hm
def FewU (up:List NodV):Prop:=up.length≤24∧∀x∈up,PlainN x
def ViewF (lo:Nat) (w:World) (v:ViewV) (e:Ending) (w':World):Prop:=∃A c,e=.returned (.agg (viwC v.1 (.slice A v.2.length c)).toArray)∧RdE prEn w' (fun b=>lo≤b∧b < w'.heap.size) A v.2.length v.2∧Below w.heap.size w w'
set_option maxRecDepth 100000 in
set_option maxHeartbeats 1600000 in
theorem VOpq_b {x:NodV} {D C:Option Addr} {n c m d:Nat} {b:Bool} (hb:opqD x=b) (h0:0≤x.att.h) (h1:x.att.h≤31) (w:World):Calls Tryz.prog 67 #[.agg (nodC x (.slice D n c) (.slice C m d)).toArray] w (BoolB w b):=by
 obtain ⟨W1,hW1⟩:∃W1,(w.alloc (.cells (nodC x (.slice D n c) (.slice C m d)).toArray 38))=W1:=⟨_,rfl⟩
 obtain ⟨r0,hb1,hs1⟩:=rowA1 w _ _ hW1
 have hW1':(w.alloc (.cells #[.int .i64 x.k,.int .i64 x.p,.int .i64 x.n,.int .i64 x.g,.slice D n c,.slice C m d,.int .i64 x.att.h,.int .i64 x.att.o,.string ⟨x.att.r.toArray⟩,.int .i64 x.att.l,.int .i64 x.att.i,.int .i64 x.att.g,.int .i64 x.att.s] 38))=W1:=hW1
 have R1:=hide r0
 have HB:=hide hb1
 have hsz0:=hb1.size
 obtain ⟨b1,hb1'⟩:∃b1,(x.k==1)=b1:=⟨_,rfl⟩
 obtain ⟨b2,hb2⟩:∃b2,opq x=b2:=⟨_,rfl⟩
 have HO:=hide hb2
 have e:b=(b1&&b2):=by
  rw [←hb,←hb1',←hb2]
  unfold opqD
  congr 1
 subst e
 have q1_0:W1.cell? ⟨w.heap.size,0,none⟩=some (.int .i64 x.k):=R1.out.cell 0
 have q1_1:W1.cell? ⟨w.heap.size,1,none⟩=some (.int .i64 x.p):=R1.out.cell 1
 have q1_2:W1.cell? ⟨w.heap.size,2,none⟩=some (.int .i64 x.n):=R1.out.cell 2
 have q1_3:W1.cell? ⟨w.heap.size,3,none⟩=some (.int .i64 x.g):=R1.out.cell 3
 have q1_4:W1.cell? ⟨w.heap.size,4,none⟩=some (.slice D n c):=R1.out.cell 4
 have q1_5:W1.cell? ⟨w.heap.size,5,none⟩=some (.slice C m d):=R1.out.cell 5
 have q1_6:W1.cell? ⟨w.heap.size,6,none⟩=some (.int .i64 x.att.h):=R1.out.cell 6
 have q1_7:W1.cell? ⟨w.heap.size,7,none⟩=some (.int .i64 x.att.o):=R1.out.cell 7
 have q1_8:W1.cell? ⟨w.heap.size,8,none⟩=some (.string ⟨x.att.r.toArray⟩):=R1.out.cell 8
 have q1_9:W1.cell? ⟨w.heap.size,9,none⟩=some (.int .i64 x.att.l):=R1.out.cell 9
 have q1_10:W1.cell? ⟨w.heap.size,10,none⟩=some (.int .i64 x.att.i):=R1.out.cell 10
 have q1_11:W1.cell? ⟨w.heap.size,11,none⟩=some (.int .i64 x.att.g):=R1.out.cell 11
 have q1_12:W1.cell? ⟨w.heap.size,12,none⟩=some (.int .i64 x.att.s):=R1.out.cell 12
 unfold nodC
 clear r0 hb1 hW1 hb hb2
 cases b1 <;> cases b2
 all_goals
  go_enter Tryz.func67,Tryz.ntmps67
  go_wp2_with (first|(go_at_call 120;refine (Marked_b (by exact HO.out) h0 h1 W1).mono ?_;rintro e1 wX ⟨rfl,hbel⟩;clear q1_0 q1_1 q1_2 q1_3 q1_4 q1_5 q1_6 q1_7 q1_8 q1_9 q1_10 q1_11 q1_12;replace HB:=hide (HB.out.trans (hbel.mono HB.out.size));replace R1:=hide (R1.out.on hbel);have hsz2:=hbel.size;have q1_0:wX.cell? ⟨w.heap.size,0,none⟩=some (.int .i64 x.k):=R1.out.cell 0;have q1_1:wX.cell? ⟨w.heap.size,1,none⟩=some (.int .i64 x.p):=R1.out.cell 1;have q1_2:wX.cell? ⟨w.heap.size,2,none⟩=some (.int .i64 x.n):=R1.out.cell 2;have q1_3:wX.cell? ⟨w.heap.size,3,none⟩=some (.int .i64 x.g):=R1.out.cell 3;have q1_4:wX.cell? ⟨w.heap.size,4,none⟩=some (.slice D n c):=R1.out.cell 4;have q1_5:wX.cell? ⟨w.heap.size,5,none⟩=some (.slice C m d):=R1.out.cell 5;have q1_6:wX.cell? ⟨w.heap.size,6,none⟩=some (.int .i64 x.att.h):=R1.out.cell 6;have q1_7:wX.cell? ⟨w.heap.size,7,none⟩=some (.int .i64 x.att.o):=R1.out.cell 7;have q1_8:wX.cell? ⟨w.heap.size,8,none⟩=some (.string ⟨x.att.r.toArray⟩):=R1.out.cell 8;have q1_9:wX.cell? ⟨w.heap.size,9,none⟩=some (.int .i64 x.att.l):=R1.out.cell 9;have q1_10:wX.cell? ⟨w.heap.size,10,none⟩=some (.int .i64 x.att.i):=R1.out.cell 10;have q1_11:wX.cell? ⟨w.heap.size,11,none⟩=some (.int .i64 x.att.g):=R1.out.cell 11;have q1_12:wX.cell? ⟨w.heap.size,12,none⟩=some (.int .i64 x.att.s):=R1.out.cell 12;clear hbel))
  go_ret
  exact BoolB.of HB.out
set_option maxRecDepth 100000 in
set_option maxHeartbeats 1600000 in
theorem RVOpq_b {x:NodV} {D C:Option Addr} {n c m d:Nat} {b:Bool} (hb:opqD x=b) (h0:0≤x.att.h) (h1:x.att.h≤31) (w:World):Calls Tryz.prog 104 #[.agg (nodC x (.slice D n c) (.slice C m d)).toArray] w (BoolB w b):=by
 obtain ⟨W1,hW1⟩:∃W1,(w.alloc (.cells (nodC x (.slice D n c) (.slice C m d)).toArray 38))=W1:=⟨_,rfl⟩
 obtain ⟨r0,hb1,hs1⟩:=rowA1 w _ _ hW1
 have hW1':(w.alloc (.cells #[.int .i64 x.k,.int .i64 x.p,.int .i64 x.n,.int .i64 x.g,.slice D n c,.slice C m d,.int .i64 x.att.h,.int .i64 x.att.o,.string ⟨x.att.r.toArray⟩,.int .i64 x.att.l,.int .i64 x.att.i,.int .i64 x.att.g,.int .i64 x.att.s] 38))=W1:=hW1
 have R1:=hide r0
 have HB:=hide hb1
 have hsz0:=hb1.size
 obtain ⟨b1,hb1'⟩:∃b1,(x.k==1)=b1:=⟨_,rfl⟩
 obtain ⟨b2,hb2⟩:∃b2,opq x=b2:=⟨_,rfl⟩
 have HO:=hide hb2
 have e:b=(b1&&b2):=by
  rw [←hb,←hb1',←hb2]
  unfold opqD
  congr 1
 subst e
 have q1_0:W1.cell? ⟨w.heap.size,0,none⟩=some (.int .i64 x.k):=R1.out.cell 0
 have q1_1:W1.cell? ⟨w.heap.size,1,none⟩=some (.int .i64 x.p):=R1.out.cell 1
 have q1_2:W1.cell? ⟨w.heap.size,2,none⟩=some (.int .i64 x.n):=R1.out.cell 2
 have q1_3:W1.cell? ⟨w.heap.size,3,none⟩=some (.int .i64 x.g):=R1.out.cell 3
 have q1_4:W1.cell? ⟨w.heap.size,4,none⟩=some (.slice D n c):=R1.out.cell 4
 have q1_5:W1.cell? ⟨w.heap.size,5,none⟩=some (.slice C m d):=R1.out.cell 5
 have q1_6:W1.cell? ⟨w.heap.size,6,none⟩=some (.int .i64 x.att.h):=R1.out.cell 6
 have q1_7:W1.cell? ⟨w.heap.size,7,none⟩=some (.int .i64 x.att.o):=R1.out.cell 7
 have q1_8:W1.cell? ⟨w.heap.size,8,none⟩=some (.string ⟨x.att.r.toArray⟩):=R1.out.cell 8
 have q1_9:W1.cell? ⟨w.heap.size,9,none⟩=some (.int .i64 x.att.l):=R1.out.cell 9
 have q1_10:W1.cell? ⟨w.heap.size,10,none⟩=some (.int .i64 x.att.i):=R1.out.cell 10
 have q1_11:W1.cell? ⟨w.heap.size,11,none⟩=some (.int .i64 x.att.g):=R1.out.cell 11
 have q1_12:W1.cell? ⟨w.heap.size,12,none⟩=some (.int .i64 x.att.s):=R1.out.cell 12
 unfold nodC
 clear r0 hb1 hW1 hb hb2
 cases b1 <;> cases b2
 all_goals
  go_enter Tryz.func104,Tryz.ntmps104
  go_wp2_with (first|(go_at_call 146;refine (ROpq_b (by exact HO.out) h0 h1 W1).mono ?_;rintro e1 wX ⟨rfl,hbel⟩;clear q1_0 q1_1 q1_2 q1_3 q1_4 q1_5 q1_6 q1_7 q1_8 q1_9 q1_10 q1_11 q1_12;replace HB:=hide (HB.out.trans (hbel.mono HB.out.size));replace R1:=hide (R1.out.on hbel);have hsz2:=hbel.size;have q1_0:wX.cell? ⟨w.heap.size,0,none⟩=some (.int .i64 x.k):=R1.out.cell 0;have q1_1:wX.cell? ⟨w.heap.size,1,none⟩=some (.int .i64 x.p):=R1.out.cell 1;have q1_2:wX.cell? ⟨w.heap.size,2,none⟩=some (.int .i64 x.n):=R1.out.cell 2;have q1_3:wX.cell? ⟨w.heap.size,3,none⟩=some (.int .i64 x.g):=R1.out.cell 3;have q1_4:wX.cell? ⟨w.heap.size,4,none⟩=some (.slice D n c):=R1.out.cell 4;have q1_5:wX.cell? ⟨w.heap.size,5,none⟩=some (.slice C m d):=R1.out.cell 5;have q1_6:wX.cell? ⟨w.heap.size,6,none⟩=some (.int .i64 x.att.h):=R1.out.cell 6;have q1_7:wX.cell? ⟨w.heap.size,7,none⟩=some (.int .i64 x.att.o):=R1.out.cell 7;have q1_8:wX.cell? ⟨w.heap.size,8,none⟩=some (.string ⟨x.att.r.toArray⟩):=R1.out.cell 8;have q1_9:wX.cell? ⟨w.heap.size,9,none⟩=some (.int .i64 x.att.l):=R1.out.cell 9;have q1_10:wX.cell? ⟨w.heap.size,10,none⟩=some (.int .i64 x.att.i):=R1.out.cell 10;have q1_11:wX.cell? ⟨w.heap.size,11,none⟩=some (.int .i64 x.att.g):=R1.out.cell 11;have q1_12:wX.cell? ⟨w.heap.size,12,none⟩=some (.int .i64 x.att.s):=R1.out.cell 12;clear hbel))
  go_ret
  exact BoolB.of HB.out
set_option maxRecDepth 100000 in
set_option maxHeartbeats 4000000 in
theorem RVRoot_any {g:GeoQ} {AU AL:Option Addr} {nU cU nL cL B:Nat} {up:List NodV} {ls:List (List NodV)} (w:World) (hu:RdE nodEn w (Under B) AU nU up) (h:RdE layEn w (Under B) AL nL ls) (hB:B≤w.heap.size) (hF:FewL ls) (hup:FewU up):Calls Tryz.prog 46 #[.agg (stkC g (.slice AU nU cU) (.slice AL nL cL)).toArray] w (ViewF w.heap.size w (rootV up ls)):=by
 obtain ⟨W1,hW1⟩:∃W1,((w.alloc (.cells (stkC g (.slice AU nU cU) (.slice AL nL cL)).toArray 29)).alloc (.cells (viwC 0 (.slice none 0 0)).toArray 47))=W1:=⟨_,rfl⟩
 obtain ⟨r0,r1,hb1,hs1⟩:=rowA2 w _ _ _ _ hW1
 have hW1':((w.alloc (.cells #[.int .i64 g.a,.int .i64 g.b,.int .i64 g.c,.int .i64 g.d,.slice AU nU cU,.slice AL nL cL] 29)).alloc (.cells #[.int .i64 0,.slice none 0 0] 47))=W1:=hW1
 have R1:=hide r0
 have R2:=hide r1
 have HB:=hide hb1
 have hsz0:=hb1.size
 have HU:=hide (hu.under hb1 hB)
 have HL:=hide (h.under hb1 hB)
 have HF:=hide hF
 have HFU:=hide hup
 obtain ⟨x,hx⟩:∃x,nodAt up 1=x:=⟨_,rfl⟩
 have HX:=hide hx
 obtain ⟨V,hV⟩:∃V,rootV up ls=V:=⟨_,rfl⟩
 rw [hV]
 have hatt:0≤x.att.h∧x.att.h≤31:=by rw [←hx];exact (nodAt_plain hup.2 1).2.2.1
 obtain ⟨bo,hbo⟩:∃bo,opqD x=bo:=⟨_,rfl⟩
 have HOP:=hide hbo
 have q1_4:W1.cell? ⟨w.heap.size,4,none⟩=some (.slice AU nU cU):=R1.out.cell 4
 unfold rootV at hV
 rw [hx,hbo] at hV
 unfold stkC
 by_cases hk:x.k=1
 ·rw [if_pos hk] at hV
  have hk1:(x.k==1)=true:=by simpa using hk
  have hk2:(x.k != 1)=false:=by simpa using hk
  cases bo
  ·have HV:=hide (show V=(1,rootsL ls 0) from by simpa using hV.symm)
   clear r0 r1 hb1 hW1 hu h hup hF hV hx hbo hk
   go_enter Tryz.func46,Tryz.ntmps46
   go_wp2_with (first|(go_at_call 101;refine (At_e HX.out W1 HU.out (by omega) (by have:=HFU.out.1;omega)).mono ?_;rintro e1 wN ⟨A1,n1,c1,C1,m1,d1,rfl,-,-,-,-,hbel⟩;clear q1_4;replace HB:=hide (HB.out.trans (hbel.mono HB.out.size));replace R1:=hide (R1.out.on hbel);replace R2:=hide (R2.out.on hbel);replace HU:=hide (HU.out.under hbel (by omega));replace HL:=hide (HL.out.under hbel (by omega));have hsz2:=hbel.size;have q1_4:wN.cell? ⟨w.heap.size,4,none⟩=some (.slice AU nU cU):=R1.out.cell 4;clear hbel)|(refine wpList_storeW rfl 38 (.tmp 3) (.tmp 6) rfl 13 nod_size (wN.heap.size) 38 rfl (nodC nod0 (.slice none 0 0) (.slice none 0 0)) (nodC x (.slice A1 n1 c1) (.slice C1 m1 d1)) rfl (RowL.new wN 38 (nodC nod0 (.slice none 0 0) (.slice none 0 0))) rfl rfl (nodC_one _ _ _ _ _ _ _) ?_;intro wS3 hr3 hg3 hs3;have hzb:=below_stored' hg3;clear q1_4;replace HB:=hide (HB.out.trans (hzb.mono HB.out.size));replace R1:=hide (R1.out.on hzb);replace R2:=hide (R2.out.on hzb);replace HU:=hide (HU.out.under hzb (by omega));replace HL:=hide (HL.out.under hzb (by omega));have hsz4:=hzb.size;have q1_4:wS3.cell? ⟨w.heap.size,4,none⟩=some (.slice AU nU cU):=R1.out.cell 4;have RN:=hide hr3;have hlt3:=hr3.lt;have q3_0:wS3.cell? ⟨wN.heap.size,0,none⟩=some (.int .i64 x.k):=RN.out.cell 0;clear hzb hr3;clear hg3 hs3)|(refine wpList_loadW rfl 38 (.tmp 3) rfl 13 nod_agg nod_size (wN.heap.size) 38 rfl (nodC x (.slice A1 n1 c1) (.slice C1 m1 d1)) RN.out rfl ?_)|(go_at_call 104;refine (RVOpq_b HOP.out hatt.1 hatt.2 wS3).mono ?_;rintro e5 wO ⟨rfl,hbel⟩;clear q1_4 q3_0;replace HB:=hide (HB.out.trans (hbel.mono HB.out.size));replace R1:=hide (R1.out.on hbel);replace R2:=hide (R2.out.on hbel);replace HU:=hide (HU.out.under hbel (by omega));replace HL:=hide (HL.out.under hbel (by omega));replace RN:=hide (RN.out.on hbel);have hsz6:=hbel.size;have q1_4:wO.cell? ⟨w.heap.size,4,none⟩=some (.slice AU nU cU):=R1.out.cell 4;have q3_0:wO.cell? ⟨wN.heap.size,0,none⟩=some (.int .i64 x.k):=RN.out.cell 0;clear hbel)|(refine wpList_loadW rfl 29 (.tmp 1) rfl 6 stk_agg stk_size (w.heap.size) 29 rfl (stkC g (.slice AU nU cU) (.slice AL nL cL)) R1.out rfl ?_)|(go_at_call 103;refine (RRoots_f wO (und_up HL.out (by omega)) HF.out).mono ?_;rintro e7 wR ⟨A6,c6,rfl,h6,hbel⟩;clear q1_4 q3_0;replace HB:=hide (HB.out.trans (hbel.mono HB.out.size));replace R1:=hide (R1.out.on hbel);replace R2:=hide (R2.out.on hbel);replace HU:=hide (HU.out.under hbel (by omega));replace HL:=hide (HL.out.under hbel (by omega));replace RN:=hide (RN.out.on hbel);have hsz8:=hbel.size;have q1_4:wR.cell? ⟨w.heap.size,4,none⟩=some (.slice AU nU cU):=R1.out.cell 4;have q3_0:wR.cell? ⟨wN.heap.size,0,none⟩=some (.int .i64 x.k):=RN.out.cell 0;have H6:=hide h6;clear h6;clear hbel)|(refine wpList_storeW rfl 47 (.tmp 2) (.tmp 18) rfl 2 viw_size (w.heap.size+1) 47 rfl (viwC 0 (.slice none 0 0)) (viwC 1 (.slice A6 (rootsL ls 0).length c6)) rfl R2.out rfl rfl (viwC_one _ _ _ _) ?_;intro wS9 hr9 hg9 hs9;clear q1_4 q3_0;replace HB:=hide (HB.out.grown hg9 (by omega) (pu4 (by omega)));replace R1:=hide (R1.out.grown hg9 (pu5 (by omega)));replace HU:=hide (und_grown HU.out hg9 (by omega) (by omega));replace HL:=hide (und_grown HL.out hg9 (by omega) (by omega));replace RN:=hide (RN.out.grown hg9 (pu5 (by omega)));replace H6:=hide (fr_grown H6.out hg9 (by omega));have hsz10:=hg9.size;replace R2:=hide hr9;have q1_4:wS9.cell? ⟨w.heap.size,4,none⟩=some (.slice AU nU cU):=R1.out.cell 4;have q3_0:wS9.cell? ⟨wN.heap.size,0,none⟩=some (.int .i64 x.k):=RN.out.cell 0;clear hr9 hg9 hs9))
   exact bodyPost_ret (res_cell Tryz.results46 rfl viw_agg viw_size R2.out rfl) rfl ⟨A6,c6,by rw [HV.out],by rw [HV.out];exact fr_low H6.out (by omega),HB.out⟩
  ·have HV:=hide (show V=(1,[]) from by simpa using hV.symm)
   clear r0 r1 hb1 hW1 hu h hup hF hV hx hbo hk
   go_enter Tryz.func46,Tryz.ntmps46
   go_wp2_with (first|(go_at_call 101;refine (At_e HX.out W1 HU.out (by omega) (by have:=HFU.out.1;omega)).mono ?_;rintro e1 wN ⟨A1,n1,c1,C1,m1,d1,rfl,-,-,-,-,hbel⟩;clear q1_4;replace HB:=hide (HB.out.trans (hbel.mono HB.out.size));replace R1:=hide (R1.out.on hbel);replace R2:=hide (R2.out.on hbel);replace HU:=hide (HU.out.under hbel (by omega));replace HL:=hide (HL.out.under hbel (by omega));have hsz2:=hbel.size;have q1_4:wN.cell? ⟨w.heap.size,4,none⟩=some (.slice AU nU cU):=R1.out.cell 4;clear hbel)|(refine wpList_storeW rfl 38 (.tmp 3) (.tmp 6) rfl 13 nod_size (wN.heap.size) 38 rfl (nodC nod0 (.slice none 0 0) (.slice none 0 0)) (nodC x (.slice A1 n1 c1) (.slice C1 m1 d1)) rfl (RowL.new wN 38 (nodC nod0 (.slice none 0 0) (.slice none 0 0))) rfl rfl (nodC_one _ _ _ _ _ _ _) ?_;intro wS3 hr3 hg3 hs3;have hzb:=below_stored' hg3;clear q1_4;replace HB:=hide (HB.out.trans (hzb.mono HB.out.size));replace R1:=hide (R1.out.on hzb);replace R2:=hide (R2.out.on hzb);replace HU:=hide (HU.out.under hzb (by omega));replace HL:=hide (HL.out.under hzb (by omega));have hsz4:=hzb.size;have q1_4:wS3.cell? ⟨w.heap.size,4,none⟩=some (.slice AU nU cU):=R1.out.cell 4;have RN:=hide hr3;have hlt3:=hr3.lt;have q3_0:wS3.cell? ⟨wN.heap.size,0,none⟩=some (.int .i64 x.k):=RN.out.cell 0;clear hzb hr3;clear hg3 hs3)|(refine wpList_loadW rfl 38 (.tmp 3) rfl 13 nod_agg nod_size (wN.heap.size) 38 rfl (nodC x (.slice A1 n1 c1) (.slice C1 m1 d1)) RN.out rfl ?_)|(go_at_call 104;refine (RVOpq_b HOP.out hatt.1 hatt.2 wS3).mono ?_;rintro e5 wO ⟨rfl,hbel⟩;clear q1_4 q3_0;replace HB:=hide (HB.out.trans (hbel.mono HB.out.size));replace R1:=hide (R1.out.on hbel);replace R2:=hide (R2.out.on hbel);replace HU:=hide (HU.out.under hbel (by omega));replace HL:=hide (HL.out.under hbel (by omega));replace RN:=hide (RN.out.on hbel);have hsz6:=hbel.size;have q1_4:wO.cell? ⟨w.heap.size,4,none⟩=some (.slice AU nU cU):=R1.out.cell 4;have q3_0:wO.cell? ⟨wN.heap.size,0,none⟩=some (.int .i64 x.k):=RN.out.cell 0;clear hbel)|(refine wpList_storeW rfl 47 (.tmp 2) (.tmp 15) rfl 2 viw_size (w.heap.size+1) 47 rfl (viwC 0 (.slice none 0 0)) (viwC 1 (.slice none 0 0)) rfl R2.out rfl rfl (viwC_one _ _ _ _) ?_;intro wS7 hr7 hg7 hs7;clear q1_4 q3_0;replace HB:=hide (HB.out.grown hg7 (by omega) (pu4 (by omega)));replace R1:=hide (R1.out.grown hg7 (pu5 (by omega)));replace HU:=hide (und_grown HU.out hg7 (by omega) (by omega));replace HL:=hide (und_grown HL.out hg7 (by omega) (by omega));replace RN:=hide (RN.out.grown hg7 (pu5 (by omega)));have hsz8:=hg7.size;replace R2:=hide hr7;have q1_4:wS7.cell? ⟨w.heap.size,4,none⟩=some (.slice AU nU cU):=R1.out.cell 4;have q3_0:wS7.cell? ⟨wN.heap.size,0,none⟩=some (.int .i64 x.k):=RN.out.cell 0;clear hr7 hg7 hs7))
   exact bodyPost_ret (res_cell Tryz.results46 rfl viw_agg viw_size R2.out rfl) rfl ⟨none,0,by rw [HV.out];rfl,by rw [HV.out];exact RdE.none_ _ _ _ _,HB.out⟩
 ·rw [if_neg hk] at hV
  have hk1:(x.k==1)=false:=by simpa using hk
  have hk2:(x.k != 1)=true:=by simpa using hk
  have hbf:bo=false:=by rw [←hbo];unfold opqD;simp [hk]
  subst hbf
  have HV:=hide (show V=(0,rootsL ls 0) from by simpa using hV.symm)
  clear r0 r1 hb1 hW1 hu h hup hF hV hx hbo hk
  go_enter Tryz.func46,Tryz.ntmps46
  go_wp2_with (first|(go_at_call 101;refine (At_e HX.out W1 HU.out (by omega) (by have:=HFU.out.1;omega)).mono ?_;rintro e1 wN ⟨A1,n1,c1,C1,m1,d1,rfl,-,-,-,-,hbel⟩;clear q1_4;replace HB:=hide (HB.out.trans (hbel.mono HB.out.size));replace R1:=hide (R1.out.on hbel);replace R2:=hide (R2.out.on hbel);replace HU:=hide (HU.out.under hbel (by omega));replace HL:=hide (HL.out.under hbel (by omega));have hsz2:=hbel.size;have q1_4:wN.cell? ⟨w.heap.size,4,none⟩=some (.slice AU nU cU):=R1.out.cell 4;clear hbel)|(refine wpList_storeW rfl 38 (.tmp 3) (.tmp 6) rfl 13 nod_size (wN.heap.size) 38 rfl (nodC nod0 (.slice none 0 0) (.slice none 0 0)) (nodC x (.slice A1 n1 c1) (.slice C1 m1 d1)) rfl (RowL.new wN 38 (nodC nod0 (.slice none 0 0) (.slice none 0 0))) rfl rfl (nodC_one _ _ _ _ _ _ _) ?_;intro wS3 hr3 hg3 hs3;have hzb:=below_stored' hg3;clear q1_4;replace HB:=hide (HB.out.trans (hzb.mono HB.out.size));replace R1:=hide (R1.out.on hzb);replace R2:=hide (R2.out.on hzb);replace HU:=hide (HU.out.under hzb (by omega));replace HL:=hide (HL.out.under hzb (by omega));have hsz4:=hzb.size;have q1_4:wS3.cell? ⟨w.heap.size,4,none⟩=some (.slice AU nU cU):=R1.out.cell 4;have RN:=hide hr3;have hlt3:=hr3.lt;have q3_0:wS3.cell? ⟨wN.heap.size,0,none⟩=some (.int .i64 x.k):=RN.out.cell 0;clear hzb hr3;clear hg3 hs3)|(refine wpList_loadW rfl 29 (.tmp 1) rfl 6 stk_agg stk_size (w.heap.size) 29 rfl (stkC g (.slice AU nU cU) (.slice AL nL cL)) R1.out rfl ?_)|(go_at_call 103;refine (RRoots_f wS3 (und_up HL.out (by omega)) HF.out).mono ?_;rintro e5 wR ⟨A6,c6,rfl,h6,hbel⟩;clear q1_4 q3_0;replace HB:=hide (HB.out.trans (hbel.mono HB.out.size));replace R1:=hide (R1.out.on hbel);replace R2:=hide (R2.out.on hbel);replace HU:=hide (HU.out.under hbel (by omega));replace HL:=hide (HL.out.under hbel (by omega));replace RN:=hide (RN.out.on hbel);have hsz6:=hbel.size;have q1_4:wR.cell? ⟨w.heap.size,4,none⟩=some (.slice AU nU cU):=R1.out.cell 4;have q3_0:wR.cell? ⟨wN.heap.size,0,none⟩=some (.int .i64 x.k):=RN.out.cell 0;have H6:=hide h6;clear h6;clear hbel)|(refine wpList_storeW rfl 47 (.tmp 2) (.tmp 12) rfl 2 viw_size (w.heap.size+1) 47 rfl (viwC 0 (.slice none 0 0)) (viwC 0 (.slice A6 (rootsL ls 0).length c6)) rfl R2.out rfl rfl (viwC_one _ _ _ _) ?_;intro wS7 hr7 hg7 hs7;clear q1_4 q3_0;replace HB:=hide (HB.out.grown hg7 (by omega) (pu4 (by omega)));replace R1:=hide (R1.out.grown hg7 (pu5 (by omega)));replace HU:=hide (und_grown HU.out hg7 (by omega) (by omega));replace HL:=hide (und_grown HL.out hg7 (by omega) (by omega));replace RN:=hide (RN.out.grown hg7 (pu5 (by omega)));replace H6:=hide (fr_grown H6.out hg7 (by omega));have hsz8:=hg7.size;replace R2:=hide hr7;have q1_4:wS7.cell? ⟨w.heap.size,4,none⟩=some (.slice AU nU cU):=R1.out.cell 4;have q3_0:wS7.cell? ⟨wN.heap.size,0,none⟩=some (.int .i64 x.k):=RN.out.cell 0;clear hr7 hg7 hs7))
  exact bodyPost_ret (res_cell Tryz.results46 rfl viw_agg viw_size R2.out rfl) rfl ⟨A6,c6,by rw [HV.out],by rw [HV.out];exact fr_low H6.out (by omega),HB.out⟩
end Go.Proofs.YthdoimgbbabcaaaGreat

namespace Go.Proofs.YthdoimgbbabcaaaGreat
open Go.RowKit Plain

theorem index_no {l:List UInt8} (h:∀c∈l,c≠47):Lib.indexByte l 47 = -1:=by
 induction l with
 | nil=>rfl
 | cons x r ih =>
  have hx:(x==47)=false:=by simpa using h x List.mem_cons_self
  have hr:=ih (fun c hc=>h c (List.mem_cons_of_mem _ hc))
  unfold Lib.indexByte
  rw [hx,hr]
  rfl
theorem index_yes {p q:List UInt8} (h:∀c∈p,c≠47):Lib.indexByte (p++47::q) 47=p.length:=by
 induction p with
 | nil=>rfl
 | cons x r ih =>
  have hx:(x==47)=false:=by simpa using h x List.mem_cons_self
  have hr:=ih (fun c hc=>h c (List.mem_cons_of_mem _ hc))
  rw [List.cons_append]
  unfold Lib.indexByte
  rw [hx,hr]
  have:(((r.length:Nat):Int) == -1)=false:=by simp
  rw [this]
  simp

def CutRet (w:World) (p q:List UInt8) (b:Bool) (x:Ending) (w':World):Prop:=x=.returned (.tuple #[st p,st q,.bool b])∧∃n,w'=w.drewN n

set_option maxHeartbeats 400000 in
theorem CutL_no {l:List UInt8} (h:∀c∈l,c≠47) (w:World) :
  Calls Tryz.prog 164 #[st l,.string ⟨#[47]⟩] w (CutRet w l [] false):=by
 have hc:=fun (w:World)=>Tryz.stringslite_Index_one ⟨l.toArray⟩ 47 w
 simp only [index_no h] at hc
 have HC:=hide hc
 clear hc h
 unfold st
 go_enter Tryz.func164,Tryz.ntmps164
 go_wp2_with fail
 refine (HC.out _).mono ?_
 rintro e w' ⟨rfl,rfl⟩
 go_wp2_with fail
 go_ret3
 exact ⟨rfl,0,rfl⟩

set_option maxHeartbeats 400000 in
theorem CutL_yes {p q:List UInt8} (h:∀c∈p,c≠47) (w:World) (hn:(p++47::q).length≤140737488355328) :
  Calls Tryz.prog 164 #[st (p++47::q),.string ⟨#[47]⟩] w (CutRet w p q true):=by
 have hc:=fun (w:World)=>Tryz.stringslite_Index_one ⟨(p++47::q).toArray⟩ 47 w
 simp only [index_yes h] at hc
 have HC:=hide hc
 obtain ⟨l,hl⟩:∃l,p++47::q=l:=⟨_,rfl⟩
 rw [hl] at HC hn ⊢
 have hln:p.length+1≤l.length:=by rw [←hl];simp
 have HL:=hide hl
 clear hc h hl
 unfold st
 have c1:(0:Int)≤(p.length:Int):=by omega
 have c2:(p.length:Int)≤(l.length:Int):=by omega
 have c3:(0:Int)≤(p.length:Int)+1:=by omega
 have c4:(p.length:Int)+1≤(l.length:Int):=by omega
 have hw1:IntKind.i64.wrap ((p.length:Int)+1)=(p.length:Int)+1:=IntWalk.i64_in _ (by omega)
 have hw2:((p.length:Int)+1).toNat=p.length+1:=by omega
 go_enter Tryz.func164,Tryz.ntmps164
 go_wp2_with fail
 refine (HC.out _).mono ?_
 rintro e w' ⟨rfl,rfl⟩
 go_wp2_with fail
 go_region
 go_wp2
 go_ret3
 have hl:=HL.out
 have e1:({data:=l.toArray}:ByteArray).extract 0 p.length=⟨p.toArray⟩:=by rw [Lib.extract_eq,←hl];simp
 have e2:({data:=l.toArray}:ByteArray).extract (p.length+1) l.length=⟨q.toArray⟩:=by
  rw [Lib.extract_eq,←hl]
  simp
  exact List.take_of_length_le (by omega)
 refine ⟨?_,1,rfl⟩
 show Ending.returned (.tuple #[.string (({data:=l.toArray}:ByteArray).extract 0 p.length),.string (({data:=l.toArray}:ByteArray).extract (p.length+1) l.length),.bool true])=_
 rw [e1,e2]
 rfl
theorem Cut_of {l p q:List UInt8} {b:Bool} (h:∀w:World,Calls Tryz.prog 164 #[st l,.string ⟨#[47]⟩] w (CutRet w p q b)) (w:World) :
  Calls Tryz.prog 141 #[st l,.string ⟨#[47]⟩] w (CutRet w p q b):=by
 have H:=hide h
 clear h
 unfold st
 go_enter Tryz.func141,Tryz.ntmps141
 go_wp2_with fail
 refine (H.out _).mono ?_
 rintro e w' ⟨rfl,n,rfl⟩
 go_wp2_with fail
 go_ret3
 exact ⟨rfl,n,rfl⟩
theorem Cut_no {l:List UInt8} (h:∀c∈l,c≠47) (w:World):Calls Tryz.prog 141 #[st l,.string ⟨#[47]⟩] w (CutRet w l [] false):=Cut_of (fun w=>CutL_no h w) w
theorem Cut_yes {p q:List UInt8} (h:∀c∈p,c≠47) (w:World) (hn:(p++47::q).length≤140737488355328):Calls Tryz.prog 141 #[st (p++47::q),.string ⟨#[47]⟩] w (CutRet w p q true):=Cut_of (fun w=>CutL_yes h w hn) w
end Go.Proofs.YthdoimgbbabcaaaGreat

namespace Go.Proofs.YthdoimgbbabcaaaGreat
open Go.RowKit Plain

def lettersL:List UInt8:=[97,98,99,100,101,102,103,104,105,106,107,108,109,110,111,112,113,114,115,116,117,118,119,120,121,122,48,49,50,51,52,53,54,55,56,57,46,95,45]
theorem letters_fin:∀x:Fin 256,decide (Lib.indexByte lettersL x.val.toUInt8 < 0)=!letB x.val:=by decide +kernel
theorem letters_any {x:Nat} (hx:x < 256):decide (Lib.indexByte lettersL ((x:Int).toNat.toUInt8) < 0)=!letB x:=by
 have:=letters_fin ⟨x,hx⟩
 simpa using this

set_option maxHeartbeats 400000 in
theorem Strange_any {x:Nat} (hx:x < 256) (w:World) :
  Calls Tryz.prog 165 #[.int .u8 x] w fun e w'=>e=.returned (.bool (!letB x))∧w=w':=by
 obtain ⟨r,hr⟩:∃r,Lib.indexByte lettersL ((x:Int).toNat.toUInt8)=r:=⟨_,rfl⟩
 have hl:=letters_any hx
 rw [hr] at hl
 have HL:=hide hl
 have hc:=Tryz.strings_IndexByte ⟨lettersL.toArray⟩ x w
 rw [show (⟨lettersL.toArray⟩:ByteArray).data.toList=lettersL from rfl,hr] at hc
 have HC:=hide hc
 clear hl hr hc
 go_enter Tryz.func165,Tryz.ntmps165
 go_wp2_with fail
 refine HC.out.mono ?_
 rintro e w' ⟨rfl,rfl⟩
 go_wp2_with fail
 go_ret
 exact ⟨ret_bool HL.out,rfl⟩
abbrev strangeV:Value:=.func (.func 165) #[] #[]
def Found (w:World) (b:Bool) (e:Ending) (w':World):Prop:=∃r:Int,e=.returned (.int .i64 r)∧decide (0≤r)=!b∧w=w'

set_option maxHeartbeats 400000 in
theorem IndexFunc_b {A:Option Addr} {m c B:Nat} {l:List UInt8} {b:Bool} (w:World) (ha:Bs w B A m l) (hm:m≤140737488355328) (h:(l.all fun x=>letB x.toNat)=b) :
  Calls Tryz.prog 190 #[.slice A m c,strangeV] w (Found w b):=by
 have HB:=hide h
 have HA:=hide ha
 have hl:=ha.len
 clear h ha
 go_enter Tryz.func190,Tryz.ntmps190
 go_wp2_with fail
 go_loop [8] (fun i=>∃k:Nat,k≤m∧i=.int .i64 k∧((l.take k).all fun x=>letB x.toNat)=true) (fun i=>m - (intOf i).toNat)
 case atStart=>exact ⟨0,Nat.zero_le _,rfl,rfl⟩
 case round =>
  obtain ⟨k,hk,rfl,hall⟩:=hrel
  have HALL:=hide hall
  clear hall
  by_cases hlt:k < m
  ·obtain ⟨bb,o,rfl,_,hcell⟩:=HA.out.2 (by omega)
   have hkl:k < l.length:=by omega
   have hx:=hcell k l[k] (List.getElem?_eq_getElem hkl)
   have hb:=l[k].toNat_lt
   clear hcell
   obtain ⟨x,hxe⟩:∃x:Nat,l[k].toNat=x:=⟨_,rfl⟩
   simp only [bv,hxe] at hx
   rw [hxe] at hb
   have hts:=all_take_succ (p:=fun x=>letB x.toNat) hkl
   have haf:=all_false (p:=fun x=>letB x.toNat) hkl
   simp only [hxe] at hts haf
   have HTS:=hide hts
   have HAF:=hide haf
   clear hts haf hxe
   cases hb2:letB x with
   | true =>
    have HB2:=hide hb2
    clear hb2 hkl hl
    go_wp2_with fail
    refine (Strange_any hb _).mono ?_
    rw [HB2.out]
    rintro e w' ⟨rfl,rfl⟩
    go_wp2_with fail
    go_round
    case rel=>exact ⟨k+1,by omega,by go_num,by rw [HTS.out,HALL.out,HB2.out];rfl⟩
    case measure=>simp [intOf];omega
   | false =>
    have hbf:b=false:=by rw [←HB.out];exact HAF.out hb2
    have HB2:=hide hb2
    have HBF:=hide hbf
    clear hb2 hbf hkl hl
    go_wp2_with fail
    refine (Strange_any hb _).mono ?_
    rw [HB2.out]
    rintro e w' ⟨rfl,rfl⟩
    go_wp2_with fail
    go_ret
    rw [HBF.out]
    exact ⟨_,rfl,by simp,rfl⟩
  ·have hbt:b=true:=by
    rw [←HB.out]
    have:=HALL.out
    rwa [List.take_of_length_le (by omega)] at this
   have HBT:=hide hbt
   clear hbt hl
   go_wp2_with fail
   go_ret
   rw [HBT.out]
   exact ⟨_,rfl,by simp,rfl⟩

set_option maxHeartbeats 400000 in
theorem ContainsFunc_b {A:Option Addr} {m c B:Nat} {l:List UInt8} {b:Bool} (w:World) (ha:Bs w B A m l) (hm:m≤140737488355328) (h:(l.all fun x=>letB x.toNat)=b) :
  Calls Tryz.prog 167 #[.slice A m c,strangeV] w fun e w'=>e=.returned (.bool (!b))∧w=w':=by
 have HB:=hide h
 have HA:=hide ha
 clear h ha
 go_enter Tryz.func167,Tryz.ntmps167
 go_wp2_with fail
 refine (IndexFunc_b _ HA.out hm HB.out).mono ?_
 rintro e w' ⟨r,rfl,hr,rfl⟩
 have HR:=hide hr
 clear hr
 go_wp2_with fail
 go_ret
 exact ⟨ret_bool HR.out,rfl⟩
end Go.Proofs.YthdoimgbbabcaaaGreat

namespace Go.Proofs.YthdoimgbbabcaaaGreat
open Go.RowKit Plain

set_option maxHeartbeats 400000 in
theorem NRight_any (l:List UInt8) (w:World) (hl:l.length≤140737488355328) :
  Calls Tryz.prog 142 #[st l] w (BoolB w (nameB l)):=by
 unfold st
 by_cases h1:l=[]
 ·subst h1
  go_enter Tryz.func142,Tryz.ntmps142
  go_wp2_with fail
  go_ret
  exact BoolB.of (below_self w)
 by_cases h2:12 < l.length
 ·have hr:nameB l=false:=by
   have:decide (1≤l.length∧l.length≤12)=false:=by simp;omega
   simp [nameB,this]
  rw [hr]
  clear hr
  have e1:¬l=[]:=h1
  have d1:(l==[])=false:=by simpa using h1
  have d2:decide ((12:Int) < (l.length:Int))=true:=by simp;omega
  clear h1
  go_enter Tryz.func142,Tryz.ntmps142
  go_wp2_with fail
  go_ret
  exact BoolB.of (below_self w)
 by_cases h3:l=[46]
 ·subst h3
  go_enter Tryz.func142,Tryz.ntmps142
  go_wp2_with fail
  go_ret
  exact BoolB.of (below_self w)
 by_cases h4:l=[46,46]
 ·subst h4
  go_enter Tryz.func142,Tryz.ntmps142
  go_wp2_with fail
  go_ret
  exact BoolB.of (below_self w)
 have d2:decide ((12:Int) < (l.length:Int))=false:=by simp;omega
 have d1:(l==[])=false:=by simpa using h1
 have d3:(l==[46])=false:=by simpa using h3
 have d4:(l==[46,46])=false:=by simpa using h4
 have hr:nameB l=l.all fun x=>letB x.toNat:=by
  have hpos:0 < l.length:=List.length_pos_iff.2 h1
  have:decide (1≤l.length∧l.length≤12)=true:=by simp;omega
  simp [nameB,this,d3,d4]
 obtain ⟨b,hb⟩:∃b,nameB l=b:=⟨_,rfl⟩
 rw [hb]
 rw [hr] at hb
 have HB:=hide hb
 clear hr hb h1 h3 h4 h2
 have kc:=Lib.run_convert_string_bytes (P:=Tryz.prog) w 9 31 5 ⟨l.toArray⟩ Tryz.underlying9 Tryz.underlying31 Tryz.underlying5
 go_enter Tryz.func142,Tryz.ntmps142
 go_wp2_with fail
 clear kc
 refine (ContainsFunc_b _ (Bs.bytesWorld w 5 l) hl HB.out).mono ?_
 rintro e w' ⟨rfl,rfl⟩
 go_wp2_with fail
 go_ret
 exact BoolB.eq (by simp) (below_bytesWorld _ _ _)
theorem NRight_b {l:List UInt8} {b:Bool} (h:nameB l=b) (w:World) (hl:l.length≤140737488355328) :
  Calls Tryz.prog 142 #[st l] w (BoolB w b):=by
 have:=NRight_any l w hl;rw [h] at this;exact this
end Go.Proofs.YthdoimgbbabcaaaGreat

