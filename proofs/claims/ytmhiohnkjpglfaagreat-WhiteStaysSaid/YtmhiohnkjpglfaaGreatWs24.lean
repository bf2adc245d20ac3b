import Derived.Test.YtmhiohnkjpglfaaGreatWs19
import Derived.Test.YtmhiohnkjpglfaaGreatWs23
import Derived.Test.YtmhiohnkjpglfaaGreatWs11
import Derived.Test.YtmhiohnkjpglfaaGreatWs12
import Derived.Test.YtmhiohnkjpglfaaGreatWs18

namespace Go.Proofs.YtmhiohnkjpglfaaGreat
open Go.RowKit Go.Shelf Plain

set_option maxRecDepth 100000 in
theorem plcs_size:∀w,(Go.sizeOf 49).run Tryz.prog w=.ok 1 w:=fun w=>by kernel_rfl
set_option maxRecDepth 100000 in
set_option maxHeartbeats 4000000 in
theorem VRoot_any {g:GeoQ} {AU AL:Option Addr} {nU cU nL cL B:Nat} {up:List NodV} {ls:List (List NodV)} (w:World) (hu:RdE nodEn w (Under B) AU nU up) (h:RdE layEn w (Under B) AL nL ls) (hB:B≤w.heap.size) (hF:FewL ls) (hup:FewX up):Calls Tryz.prog 76 #[.agg (stkC g (.slice AU nU cU) (.slice AL nL cL)).toArray] w (ViewF w.heap.size w (rootV up ls)):=by
 obtain ⟨W1,hW1⟩:∃W1,(((w.alloc (.cells (stkC g (.slice AU nU cU) (.slice AL nL cL)).toArray 29)).alloc (.cells (viwC 0 (.slice none 0 0)).toArray 51)).alloc (.cells (viwC 0 (.slice none 0 0)).toArray 51))=W1:=⟨_,rfl⟩
 obtain ⟨r0,r1,r2,hb1,hs1⟩:=rowA3 w _ _ _ _ _ _ hW1
 have hW1':(((w.alloc (.cells #[.int .i64 g.a,.int .i64 g.b,.int .i64 g.c,.int .i64 g.d,.slice AU nU cU,.slice AL nL cL] 29)).alloc (.cells #[.int .i64 0,.slice none 0 0] 51)).alloc (.cells #[.int .i64 0,.slice none 0 0] 51))=W1:=hW1
 have R1:=hide r0
 have R2:=hide r1
 have R3:=hide r2
 have HB:=hide hb1
 have hsz0:=hb1.size
 have HU:=hide (hu.under hb1 hB)
 have HL:=hide (h.under hb1 hB)
 have HF:=hide hF
 have HFU:=hide hup
 obtain ⟨x,hx⟩:∃x,nodAt up 1=x:=⟨_,rfl⟩
 have HX:=hide hx
 obtain ⟨V,hV⟩:∃V,rootV up ls=V:=⟨_,rfl⟩
 rw [hV]
 have hatt:0≤x.att.h∧x.att.h≤31:=by rw [←hx];exact (nodAt_plainX hup.2 1).2.2.1
 obtain ⟨bo,hbo⟩:∃bo,opqD x=bo:=⟨_,rfl⟩
 have HOP:=hide hbo
 have q1_4:W1.cell? ⟨w.heap.size,4,none⟩=some (.slice AU nU cU):=R1.out.cell 4
 unfold rootV at hV
 rw [hx,hbo] at hV
 unfold stkC
 by_cases hk:x.k=1
 ·rw [if_pos hk] at hV
  have hk1:(x.k==1)=true:=by simpa using hk
  have hk2:(x.k != 1)=false:=by simpa using hk
  cases bo
  ·have HV:=hide (show V=(1,rootsL ls 0) from by simpa using hV.symm)
   clear r0 r1 r2 hb1 hW1 hu h hup hF hV hx hbo hk
   go_enter Tryz.func76,Tryz.ntmps76
   go_wp2_with (first|(go_at_call 119;refine (Of_e HX.out W1 HU.out (by omega) (by have:=HFU.out.1;omega)).mono ?_;rintro e1 wN ⟨A1,n1,c1,C1,m1,d1,rfl,-,-,-,-,hbel⟩;clear q1_4;replace HB:=hide (HB.out.trans (hbel.mono HB.out.size));replace R1:=hide (R1.out.on hbel);replace R2:=hide (R2.out.on hbel);replace R3:=hide (R3.out.on hbel);replace HU:=hide (HU.out.under hbel (by omega));replace HL:=hide (HL.out.under hbel (by omega));have hsz2:=hbel.size;have q1_4:wN.cell? ⟨w.heap.size,4,none⟩=some (.slice AU nU cU):=R1.out.cell 4;clear hbel)|(refine wpList_storeW rfl 67 (.tmp 4) (.tmp 7) rfl 13 nod_size (wN.heap.size) 67 rfl (nodC nod0 (.slice none 0 0) (.slice none 0 0)) (nodC x (.slice A1 n1 c1) (.slice C1 m1 d1)) rfl (RowL.new wN 67 (nodC nod0 (.slice none 0 0) (.slice none 0 0))) rfl rfl (nodC_one _ _ _ _ _ _ _) ?_;intro wS3 hr3 hg3 hs3;have hzb:=below_stored' hg3;clear q1_4;replace HB:=hide (HB.out.trans (hzb.mono HB.out.size));replace R1:=hide (R1.out.on hzb);replace R2:=hide (R2.out.on hzb);replace R3:=hide (R3.out.on hzb);replace HU:=hide (HU.out.under hzb (by omega));replace HL:=hide (HL.out.under hzb (by omega));have hsz4:=hzb.size;have q1_4:wS3.cell? ⟨w.heap.size,4,none⟩=some (.slice AU nU cU):=R1.out.cell 4;have RN:=hide hr3;have hlt3:=hr3.lt;have q4_0:wS3.cell? ⟨wN.heap.size,0,none⟩=some (.int .i64 x.k):=RN.out.cell 0;clear hzb hr3;clear hg3 hs3)|(refine wpList_storeV rfl 3 (.tmp 11) (Operand.const (Value.int IntKind.i64 1)) rfl int_size (w.heap.size+1+1) 0 51 rfl (.int .i64 1) rfl rfl rfl (viwC 0 (.slice none 0 0)) R3.out (by show 0 < 2;omega) ?_;intro wS5 hr5 hg5 hs5;replace hr5:RowL wS5 (w.heap.size+1+1) 51 [.int .i64 1,.slice none 0 0]:=hr5;clear q1_4 q4_0;replace HB:=hide (HB.out.grown hg5 (by omega) (pu4 (by omega)));replace R1:=hide (R1.out.grown hg5 (pu5 (by omega)));replace R2:=hide (R2.out.grown hg5 (pu5 (by omega)));replace HU:=hide (und_grown HU.out hg5 (by omega) (by omega));replace HL:=hide (und_grown HL.out hg5 (by omega) (by omega));replace RN:=hide (RN.out.grown hg5 (pu5 (by omega)));have hsz6:=hg5.size;replace R3:=hide hr5;have q1_4:wS5.cell? ⟨w.heap.size,4,none⟩=some (.slice AU nU cU):=R1.out.cell 4;have q4_0:wS5.cell? ⟨wN.heap.size,0,none⟩=some (.int .i64 x.k):=RN.out.cell 0;clear hr5 hg5 hs5)|(refine wpList_loadW rfl 67 (.tmp 4) rfl 13 nod_agg nod_size (wN.heap.size) 67 rfl (nodC x (.slice A1 n1 c1) (.slice C1 m1 d1)) RN.out rfl ?_)|(go_at_call 122;refine (VOpq_b HOP.out hatt.1 hatt.2 wS5).mono ?_;rintro e7 wO ⟨rfl,hbel⟩;clear q1_4 q4_0;replace HB:=hide (HB.out.trans (hbel.mono HB.out.size));replace R1:=hide (R1.out.on hbel);replace R2:=hide (R2.out.on hbel);replace R3:=hide (R3.out.on hbel);replace HU:=hide (HU.out.under hbel (by omega));replace HL:=hide (HL.out.under hbel (by omega));replace RN:=hide (RN.out.on hbel);have hsz8:=hbel.size;have q1_4:wO.cell? ⟨w.heap.size,4,none⟩=some (.slice AU nU cU):=R1.out.cell 4;have q4_0:wO.cell? ⟨wN.heap.size,0,none⟩=some (.int .i64 x.k):=RN.out.cell 0;clear hbel)|(refine wpList_loadW rfl 29 (.tmp 1) rfl 6 stk_agg stk_size (w.heap.size) 29 rfl (stkC g (.slice AU nU cU) (.slice AL nL cL)) R1.out rfl ?_)|(go_at_call 123;refine (Roots_f wO (und_up HL.out (by omega)) HF.out).mono ?_;rintro e9 wR ⟨A6,c6,rfl,h6,hbel⟩;clear q1_4 q4_0;replace HB:=hide (HB.out.trans (hbel.mono HB.out.size));replace R1:=hide (R1.out.on hbel);replace R2:=hide (R2.out.on hbel);replace R3:=hide (R3.out.on hbel);replace HU:=hide (HU.out.under hbel (by omega));replace HL:=hide (HL.out.under hbel (by omega));replace RN:=hide (RN.out.on hbel);have hsz10:=hbel.size;have q1_4:wR.cell? ⟨w.heap.size,4,none⟩=some (.slice AU nU cU):=R1.out.cell 4;have q4_0:wR.cell? ⟨wN.heap.size,0,none⟩=some (.int .i64 x.k):=RN.out.cell 0;have H6:=hide h6;clear h6;clear hbel)|(refine wpList_storeV rfl 49 (.tmp 17) (.tmp 16) rfl plcs_size (w.heap.size+1+1) 1 51 rfl (.slice A6 (rootsL ls 0).length c6) rfl rfl rfl [.int .i64 1,.slice none 0 0] R3.out (by show 1 < 2;omega) ?_;intro wS11 hr11 hg11 hs11;replace hr11:RowL wS11 (w.heap.size+1+1) 51 [.int .i64 1,.slice A6 (rootsL ls 0).length c6]:=hr11;clear q1_4 q4_0;replace HB:=hide (HB.out.grown hg11 (by omega) (pu4 (by omega)));replace R1:=hide (R1.out.grown hg11 (pu5 (by omega)));replace R2:=hide (R2.out.grown hg11 (pu5 (by omega)));replace HU:=hide (und_grown HU.out hg11 (by omega) (by omega));replace HL:=hide (und_grown HL.out hg11 (by omega) (by omega));replace RN:=hide (RN.out.grown hg11 (pu5 (by omega)));replace H6:=hide (fr_grown H6.out hg11 (by omega));have hsz12:=hg11.size;replace R3:=hide hr11;have q1_4:wS11.cell? ⟨w.heap.size,4,none⟩=some (.slice AU nU cU):=R1.out.cell 4;have q4_0:wS11.cell? ⟨wN.heap.size,0,none⟩=some (.int .i64 x.k):=RN.out.cell 0;clear hr11 hg11 hs11)|(refine wpList_loadW rfl 51 (.tmp 3) rfl 2 viw_agg viw_size (w.heap.size+1+1) 51 rfl [.int .i64 1,.slice A6 (rootsL ls 0).length c6] R3.out rfl ?_)|(refine wpList_storeW rfl 51 (.tmp 2) (.tmp 18) rfl 2 viw_size (w.heap.size+1) 51 rfl (viwC 0 (.slice none 0 0)) (viwC 1 (.slice A6 (rootsL ls 0).length c6)) rfl R2.out rfl rfl (viwC_one _ _ _ _) ?_;intro wS13 hr13 hg13 hs13;clear q1_4 q4_0;replace HB:=hide (HB.out.grown hg13 (by omega) (pu4 (by omega)));replace R1:=hide (R1.out.grown hg13 (pu5 (by omega)));replace R3:=hide (R3.out.grown hg13 (pu5 (by omega)));replace HU:=hide (und_grown HU.out hg13 (by omega) (by omega));replace HL:=hide (und_grown HL.out hg13 (by omega) (by omega));replace RN:=hide (RN.out.grown hg13 (pu5 (by omega)));replace H6:=hide (fr_grown H6.out hg13 (by omega));have hsz14:=hg13.size;replace R2:=hide hr13;have q1_4:wS13.cell? ⟨w.heap.size,4,none⟩=some (.slice AU nU cU):=R1.out.cell 4;have q4_0:wS13.cell? ⟨wN.heap.size,0,none⟩=some (.int .i64 x.k):=RN.out.cell 0;clear hr13 hg13 hs13))
   exact bodyPost_ret (res_cell Tryz.results76 rfl viw_agg viw_size R2.out rfl) rfl ⟨A6,c6,by rw [HV.out],by rw [HV.out];exact fr_low H6.out (by omega),HB.out⟩
  ·have HV:=hide (show V=(1,[]) from by simpa using hV.symm)
   clear r0 r1 r2 hb1 hW1 hu h hup hF hV hx hbo hk
   go_enter Tryz.func76,Tryz.ntmps76
   go_wp2_with (first|(go_at_call 119;refine (Of_e HX.out W1 HU.out (by omega) (by have:=HFU.out.1;omega)).mono ?_;rintro e1 wN ⟨A1,n1,c1,C1,m1,d1,rfl,-,-,-,-,hbel⟩;clear q1_4;replace HB:=hide (HB.out.trans (hbel.mono HB.out.size));replace R1:=hide (R1.out.on hbel);replace R2:=hide (R2.out.on hbel);replace R3:=hide (R3.out.on hbel);replace HU:=hide (HU.out.under hbel (by omega));replace HL:=hide (HL.out.under hbel (by omega));have hsz2:=hbel.size;have q1_4:wN.cell? ⟨w.heap.size,4,none⟩=some (.slice AU nU cU):=R1.out.cell 4;clear hbel)|(refine wpList_storeW rfl 67 (.tmp 4) (.tmp 7) rfl 13 nod_size (wN.heap.size) 67 rfl (nodC nod0 (.slice none 0 0) (.slice none 0 0)) (nodC x (.slice A1 n1 c1) (.slice C1 m1 d1)) rfl (RowL.new wN 67 (nodC nod0 (.slice none 0 0) (.slice none 0 0))) rfl rfl (nodC_one _ _ _ _ _ _ _) ?_;intro wS3 hr3 hg3 hs3;have hzb:=below_stored' hg3;clear q1_4;replace HB:=hide (HB.out.trans (hzb.mono HB.out.size));replace R1:=hide (R1.out.on hzb);replace R2:=hide (R2.out.on hzb);replace R3:=hide (R3.out.on hzb);replace HU:=hide (HU.out.under hzb (by omega));replace HL:=hide (HL.out.under hzb (by omega));have hsz4:=hzb.size;have q1_4:wS3.cell? ⟨w.heap.size,4,none⟩=some (.slice AU nU cU):=R1.out.cell 4;have RN:=hide hr3;have hlt3:=hr3.lt;have q4_0:wS3.cell? ⟨wN.heap.size,0,none⟩=some (.int .i64 x.k):=RN.out.cell 0;clear hzb hr3;clear hg3 hs3)|(refine wpList_storeV rfl 3 (.tmp 11) (Operand.const (Value.int IntKind.i64 1)) rfl int_size (w.heap.size+1+1) 0 51 rfl (.int .i64 1) rfl rfl rfl (viwC 0 (.slice none 0 0)) R3.out (by show 0 < 2;omega) ?_;intro wS5 hr5 hg5 hs5;replace hr5:RowL wS5 (w.heap.size+1+1) 51 [.int .i64 1,.slice none 0 0]:=hr5;clear q1_4 q4_0;replace HB:=hide (HB.out.grown hg5 (by omega) (pu4 (by omega)));replace R1:=hide (R1.out.grown hg5 (pu5 (by omega)));replace R2:=hide (R2.out.grown hg5 (pu5 (by omega)));replace HU:=hide (und_grown HU.out hg5 (by omega) (by omega));replace HL:=hide (und_grown HL.out hg5 (by omega) (by omega));replace RN:=hide (RN.out.grown hg5 (pu5 (by omega)));have hsz6:=hg5.size;replace R3:=hide hr5;have q1_4:wS5.cell? ⟨w.heap.size,4,none⟩=some (.slice AU nU cU):=R1.out.cell 4;have q4_0:wS5.cell? ⟨wN.heap.size,0,none⟩=some (.int .i64 x.k):=RN.out.cell 0;clear hr5 hg5 hs5)|(refine wpList_loadW rfl 67 (.tmp 4) rfl 13 nod_agg nod_size (wN.heap.size) 67 rfl (nodC x (.slice A1 n1 c1) (.slice C1 m1 d1)) RN.out rfl ?_)|(go_at_call 122;refine (VOpq_b HOP.out hatt.1 hatt.2 wS5).mono ?_;rintro e7 wO ⟨rfl,hbel⟩;clear q1_4 q4_0;replace HB:=hide (HB.out.trans (hbel.mono HB.out.size));replace R1:=hide (R1.out.on hbel);replace R2:=hide (R2.out.on hbel);replace R3:=hide (R3.out.on hbel);replace HU:=hide (HU.out.under hbel (by omega));replace HL:=hide (HL.out.under hbel (by omega));replace RN:=hide (RN.out.on hbel);have hsz8:=hbel.size;have q1_4:wO.cell? ⟨w.heap.size,4,none⟩=some (.slice AU nU cU):=R1.out.cell 4;have q4_0:wO.cell? ⟨wN.heap.size,0,none⟩=some (.int .i64 x.k):=RN.out.cell 0;clear hbel)|(refine wpList_loadW rfl 51 (.tmp 3) rfl 2 viw_agg viw_size (w.heap.size+1+1) 51 rfl [.int .i64 1,.slice none 0 0] R3.out rfl ?_)|(refine wpList_storeW rfl 51 (.tmp 2) (.tmp 18) rfl 2 viw_size (w.heap.size+1) 51 rfl (viwC 0 (.slice none 0 0)) (viwC 1 (.slice none 0 0)) rfl R2.out rfl rfl (viwC_one _ _ _ _) ?_;intro wS9 hr9 hg9 hs9;clear q1_4 q4_0;replace HB:=hide (HB.out.grown hg9 (by omega) (pu4 (by omega)));replace R1:=hide (R1.out.grown hg9 (pu5 (by omega)));replace R3:=hide (R3.out.grown hg9 (pu5 (by omega)));replace HU:=hide (und_grown HU.out hg9 (by omega) (by omega));replace HL:=hide (und_grown HL.out hg9 (by omega) (by omega));replace RN:=hide (RN.out.grown hg9 (pu5 (by omega)));have hsz10:=hg9.size;replace R2:=hide hr9;have q1_4:wS9.cell? ⟨w.heap.size,4,none⟩=some (.slice AU nU cU):=R1.out.cell 4;have q4_0:wS9.cell? ⟨wN.heap.size,0,none⟩=some (.int .i64 x.k):=RN.out.cell 0;clear hr9 hg9 hs9))
   exact bodyPost_ret (res_cell Tryz.results76 rfl viw_agg viw_size R2.out rfl) rfl ⟨none,0,by rw [HV.out];rfl,by rw [HV.out];exact RdE.none_ _ _ _ _,HB.out⟩
 ·rw [if_neg hk] at hV
  have hk1:(x.k==1)=false:=by simpa using hk
  have hk2:(x.k != 1)=true:=by simpa using hk
  have hbf:bo=false:=by rw [←hbo];unfold opqD;simp [hk]
  subst hbf
  have HV:=hide (show V=(0,rootsL ls 0) from by simpa using hV.symm)
  clear r0 r1 r2 hb1 hW1 hu h hup hF hV hx hbo hk
  go_enter Tryz.func76,Tryz.ntmps76
  go_wp2_with (first|(go_at_call 119;refine (Of_e HX.out W1 HU.out (by omega) (by have:=HFU.out.1;omega)).mono ?_;rintro e1 wN ⟨A1,n1,c1,C1,m1,d1,rfl,-,-,-,-,hbel⟩;clear q1_4;replace HB:=hide (HB.out.trans (hbel.mono HB.out.size));replace R1:=hide (R1.out.on hbel);replace R2:=hide (R2.out.on hbel);replace R3:=hide (R3.out.on hbel);replace HU:=hide (HU.out.under hbel (by omega));replace HL:=hide (HL.out.under hbel (by omega));have hsz2:=hbel.size;have q1_4:wN.cell? ⟨w.heap.size,4,none⟩=some (.slice AU nU cU):=R1.out.cell 4;clear hbel)|(refine wpList_storeW rfl 67 (.tmp 4) (.tmp 7) rfl 13 nod_size (wN.heap.size) 67 rfl (nodC nod0 (.slice none 0 0) (.slice none 0 0)) (nodC x (.slice A1 n1 c1) (.slice C1 m1 d1)) rfl (RowL.new wN 67 (nodC nod0 (.slice none 0 0) (.slice none 0 0))) rfl rfl (nodC_one _ _ _ _ _ _ _) ?_;intro wS3 hr3 hg3 hs3;have hzb:=below_stored' hg3;clear q1_4;replace HB:=hide (HB.out.trans (hzb.mono HB.out.size));replace R1:=hide (R1.out.on hzb);replace R2:=hide (R2.out.on hzb);replace R3:=hide (R3.out.on hzb);replace HU:=hide (HU.out.under hzb (by omega));replace HL:=hide (HL.out.under hzb (by omega));have hsz4:=hzb.size;have q1_4:wS3.cell? ⟨w.heap.size,4,none⟩=some (.slice AU nU cU):=R1.out.cell 4;have RN:=hide hr3;have hlt3:=hr3.lt;have q4_0:wS3.cell? ⟨wN.heap.size,0,none⟩=some (.int .i64 x.k):=RN.out.cell 0;clear hzb hr3;clear hg3 hs3)|(refine wpList_loadW rfl 67 (.tmp 4) rfl 13 nod_agg nod_size (wN.heap.size) 67 rfl (nodC x (.slice A1 n1 c1) (.slice C1 m1 d1)) RN.out rfl ?_)|(go_at_call 122;refine (VOpq_b HOP.out hatt.1 hatt.2 wS3).mono ?_;rintro e5 wO ⟨rfl,hbel⟩;clear q1_4 q4_0;replace HB:=hide (HB.out.trans (hbel.mono HB.out.size));replace R1:=hide (R1.out.on hbel);replace R2:=hide (R2.out.on hbel);replace R3:=hide (R3.out.on hbel);replace HU:=hide (HU.out.under hbel (by omega));replace HL:=hide (HL.out.under hbel (by omega));replace RN:=hide (RN.out.on hbel);have hsz6:=hbel.size;have q1_4:wO.cell? ⟨w.heap.size,4,none⟩=some (.slice AU nU cU):=R1.out.cell 4;have q4_0:wO.cell? ⟨wN.heap.size,0,none⟩=some (.int .i64 x.k):=RN.out.cell 0;clear hbel)|(refine wpList_loadW rfl 29 (.tmp 1) rfl 6 stk_agg stk_size (w.heap.size) 29 rfl (stkC g (.slice AU nU cU) (.slice AL nL cL)) R1.out rfl ?_)|(go_at_call 123;refine (Roots_f wO (und_up HL.out (by omega)) HF.out).mono ?_;rintro e7 wR ⟨A6,c6,rfl,h6,hbel⟩;clear q1_4 q4_0;replace HB:=hide (HB.out.trans (hbel.mono HB.out.size));replace R1:=hide (R1.out.on hbel);replace R2:=hide (R2.out.on hbel);replace R3:=hide (R3.out.on hbel);replace HU:=hide (HU.out.under hbel (by omega));replace HL:=hide (HL.out.under hbel (by omega));replace RN:=hide (RN.out.on hbel);have hsz8:=hbel.size;have q1_4:wR.cell? ⟨w.heap.size,4,none⟩=some (.slice AU nU cU):=R1.out.cell 4;have q4_0:wR.cell? ⟨wN.heap.size,0,none⟩=some (.int .i64 x.k):=RN.out.cell 0;have H6:=hide h6;clear h6;clear hbel)|(refine wpList_storeV rfl 49 (.tmp 17) (.tmp 16) rfl plcs_size (w.heap.size+1+1) 1 51 rfl (.slice A6 (rootsL ls 0).length c6) rfl rfl rfl (viwC 0 (.slice none 0 0)) R3.out (by show 1 < 2;omega) ?_;intro wS9 hr9 hg9 hs9;replace hr9:RowL wS9 (w.heap.size+1+1) 51 [.int .i64 0,.slice A6 (rootsL ls 0).length c6]:=hr9;clear q1_4 q4_0;replace HB:=hide (HB.out.grown hg9 (by omega) (pu4 (by omega)));replace R1:=hide (R1.out.grown hg9 (pu5 (by omega)));replace R2:=hide (R2.out.grown hg9 (pu5 (by omega)));replace HU:=hide (und_grown HU.out hg9 (by omega) (by omega));replace HL:=hide (und_grown HL.out hg9 (by omega) (by omega));replace RN:=hide (RN.out.grown hg9 (pu5 (by omega)));replace H6:=hide (fr_grown H6.out hg9 (by omega));have hsz10:=hg9.size;replace R3:=hide hr9;have q1_4:wS9.cell? ⟨w.heap.size,4,none⟩=some (.slice AU nU cU):=R1.out.cell 4;have q4_0:wS9.cell? ⟨wN.heap.size,0,none⟩=some (.int .i64 x.k):=RN.out.cell 0;clear hr9 hg9 hs9)|(refine wpList_loadW rfl 51 (.tmp 3) rfl 2 viw_agg viw_size (w.heap.size+1+1) 51 rfl [.int .i64 0,.slice A6 (rootsL ls 0).length c6] R3.out rfl ?_)|(refine wpList_storeW rfl 51 (.tmp 2) (.tmp 18) rfl 2 viw_size (w.heap.size+1) 51 rfl (viwC 0 (.slice none 0 0)) (viwC 0 (.slice A6 (rootsL ls 0).length c6)) rfl R2.out rfl rfl (viwC_one _ _ _ _) ?_;intro wS11 hr11 hg11 hs11;clear q1_4 q4_0;replace HB:=hide (HB.out.grown hg11 (by omega) (pu4 (by omega)));replace R1:=hide (R1.out.grown hg11 (pu5 (by omega)));replace R3:=hide (R3.out.grown hg11 (pu5 (by omega)));replace HU:=hide (und_grown HU.out hg11 (by omega) (by omega));replace HL:=hide (und_grown HL.out hg11 (by omega) (by omega));replace RN:=hide (RN.out.grown hg11 (pu5 (by omega)));replace H6:=hide (fr_grown H6.out hg11 (by omega));have hsz12:=hg11.size;replace R2:=hide hr11;have q1_4:wS11.cell? ⟨w.heap.size,4,none⟩=some (.slice AU nU cU):=R1.out.cell 4;have q4_0:wS11.cell? ⟨wN.heap.size,0,none⟩=some (.int .i64 x.k):=RN.out.cell 0;clear hr11 hg11 hs11))
  exact bodyPost_ret (res_cell Tryz.results76 rfl viw_agg viw_size R2.out rfl) rfl ⟨A6,c6,by rw [HV.out],by rw [HV.out];exact fr_low H6.out (by omega),HB.out⟩
theorem VRoot_e {g:GeoQ} {AU AL:Option Addr} {nU cU nL cL B:Nat} {up:List NodV} {ls:List (List NodV)} {V:ViewV} (hV:rootV up ls=V) (w:World) (hu:RdE nodEn w (Under B) AU nU up) (h:RdE layEn w (Under B) AL nL ls) (hB:B≤w.heap.size) (hF:FewL ls) (hup:FewX up):Calls Tryz.prog 76 #[.agg (stkC g (.slice AU nU cU) (.slice AL nL cL)).toArray] w (ViewF w.heap.size w V):=by rw [←hV];exact VRoot_any w hu h hB hF hup
end Go.Proofs.YtmhiohnkjpglfaaGreat

namespace Go.Proofs.YtmhiohnkjpglfaaGreat
open Go.RowKit Go.Shelf Plain

def viewEn : Enc ViewV where
 k:=2
 R:=fun w D cs v=>∃A c,cs=viwC v.1 (.slice A v.2.length c)∧RdE prEn w D A v.2.length v.2
 len:=fun ⟨_,_,h,_⟩=>by rw [h];rfl
 one:=fun ⟨_,_,h,_⟩ v hv=>by rw [h] at hv;exact viwC_one _ _ _ _ v hv
 mono:=fun ⟨A,c,h,hr⟩ hk hD=>⟨A,c,h,hr.mono hk hD⟩
def zviw:Value:=.agg #[.int .i64 0,.slice none 0 0]
set_option maxRecDepth 100000 in
theorem viw_info:(Tryz.prog.info? 51).map (fun i=>(i.zero,i.size,i.bytes))=some (some zviw,2,32):=by kernel_rfl
theorem lit_viw (u:Int) (A:Option Addr) (n c:Nat) (W:World):(Instr.buildSlice 134 1 #[(0,.agg (viwC u (.slice A n c)).toArray)]).run Tryz.prog W=.ok (.slice (some ⟨W.heap.size,0,none⟩) 1 1) (W.alloc (.cells (viwC u (.slice A n c)).toArray 51)):=by
 obtain ⟨it,hi,hz,hsz,-⟩:=info_parts viw_info
 refine run_buildSlice W _ 51 1 _ _ it zviw Tryz.underlying134 hi hz (by omega) (by omega) ?_
 rw [hsz]
 have:=Great.fill_whole (s:=2) (by omega) [.agg (viwC u (.slice A n c)).toArray] ((Array.range (1*2)).map (zviw.cells[· % zviw.cells.size]!)) (by intro v hv;rw [List.mem_singleton] at hv;subst hv;simp [Value.cells,viwC]) (by simp)
 simpa [Value.cells] using this
theorem viw_lit1 (W:World) (v:ViewV) {A:Option Addr} {c lo:Nat} (h:RdE prEn W (fun b=>lo≤b∧b < W.heap.size) A v.2.length v.2) (hlo:lo≤W.heap.size):RdE viewEn (W.alloc (.cells (viwC v.1 (.slice A v.2.length c)).toArray 51)) (fun b=>lo≤b∧b < (W.alloc (.cells (viwC v.1 (.slice A v.2.length c)).toArray 51)).heap.size) (some ⟨W.heap.size,0,none⟩) 1 [v]:=by
 refine ⟨rfl,fun _=>⟨_,_,rfl,⟨hlo,by simp⟩,fun i y hy=>⟨viwC v.1 (.slice A v.2.length c),?_,fun j x hx=>?_⟩⟩⟩
 ·have hi:i=0:=by have:=(List.getElem?_eq_some_iff.1 hy).1;simpa using this
  subst hi
  obtain rfl:v=y:=by simpa using hy
  exact ⟨A,c,rfl,fr_on h (below_new (below_self W) _)⟩
 ·have hi:i=0:=by have:=(List.getElem?_eq_some_iff.1 hy).1;simpa using this
  subst hi
  rw [Nat.zero_mul,Nat.zero_add,Nat.zero_add,(RowL.new W 51 (viwC v.1 (.slice A v.2.length c))).cell]
  exact hx
end Go.Proofs.YtmhiohnkjpglfaaGreat

namespace Go.Proofs.YtmhiohnkjpglfaaGreat
open Go.RowKit Go.Shelf Plain

def upC:List Value:=nodC ndD (.slice none 0 0) (.slice none 0 0)++(nodC ndD (.slice none 0 0) (.slice none 0 0)++(nodC ndD (.slice none 0 0) (.slice none 0 0)++(nodC nod0 (.slice none 0 0) (.slice none 0 0)++nodC nod0 (.slice none 0 0) (.slice none 0 0))))
def BaseRet (w:World) (e:Ending) (w':World):Prop:=∃g0 AL nL cL,e=.returned (.agg (stkC gB (.slice (some ⟨g0,0,none⟩) 5 5) (.slice AL nL cL)).toArray)∧RowL w' g0 67 upC∧RdE layEn w' (fun b=>w.heap.size≤b∧b < g0) AL nL lsB∧w.heap.size≤g0∧Below w.heap.size w w'
set_option maxRecDepth 100000 in
set_option maxHeartbeats 1000000 in
theorem Base_o (w:World):Calls Tryz.prog 77 #[] w (BaseRet w):=by
 obtain ⟨r0,r1,hb2,hs2⟩:=rows2 w (stkC ⟨0,0,0,0⟩ (.slice none 0 0) (.slice none 0 0)) (stkC ⟨0,0,0,0⟩ (.slice none 0 0) (.slice none 0 0)) 29 29
 have R0:=hide r0
 have R1:=hide r1
 have HB2:=hide hb2
 clear r0 r1 hb2 hs2
 go_enter Tryz.func77,Tryz.ntmps77
 go_wp2_with (refine wpList_storeW rfl 29 (.tmp 1) (.tmp 3) rfl 6 stk_size (w.heap.size+1) 29 rfl (stkC ⟨0,0,0,0⟩ (.slice none 0 0) (.slice none 0 0)) (stkC gB (.slice none 0 0) (.slice none 0 0)) rfl R1.out rfl rfl (by simp [stkC,Value.oneCell']) ?_;intro w3 hr3 hg3 hs3;have R3:=hide hr3;have R03:=hide (R0.out.grown hg3 (pu5 (by omega)));have HB3:=hide (HB2.out.grown hg3 HB2.out.size (pu4 (by omega)));have hl3:=hr3.lt;have HE3:=hide (RowL.new w3 75 (flatE [⟨0,2,[97]⟩]));have hbe:=below_new (below_self w3) (.cells (flatE [⟨0,2,[97]⟩]).toArray 75);have HBE:=hide hbe;clear hr3 hg3 hs3 hbe)
 refine (Dir_any _).mono ?_
 rintro ez w4 ⟨rfl,hb4⟩
 have HE4:=hide (HE3.out.on hb4)
 have HB4:=hide ((HB3.out.trans (HBE.out.mono HB3.out.size)).trans (hb4.mono (Nat.le_trans HB3.out.size HBE.out.size)))
 have hbe4:=HBE.out.trans (hb4.mono HBE.out.size)
 have HR34:=hide (R3.out.on hbe4)
 have HR04:=hide (R03.out.on hbe4)
 have q5:w4.cell? ⟨w.heap.size+1,5,none⟩=some (.slice none 0 0):=HR34.out.cell 5
 have f5:w4.frozen? ⟨w.heap.size+1,5,none⟩=false:=HR34.out.frozen 5
 have hl4:w.heap.size+1 < w4.heap.size:=HR34.out.lt
 have hl34:=HE4.out.lt
 clear hb4 hbe4
 have HRU:=hide (RowL.new w4 5 [.int .u8 120])
 have HBU:=hide (below_new (below_self w4) (.cells #[.int .u8 120] 5))
 go_wp2_with (first|(refine wpList_lit5N (w:=w4.alloc (.cells #[.int .u8 120] 5)) rfl (.tmp 6) (.tmp 8) (.tmp 9) (.tmp 10) (.tmp 11) rfl (c0:=nodC ndD (.slice none 0 0) (.slice (some ⟨w3.heap.size,0,none⟩) 1 1)) (c1:=nodC ndF (.slice (some ⟨w4.heap.size,0,none⟩) 1 1) (.slice none 0 0)) (c2:=nodC nod0 (.slice none 0 0) (.slice none 0 0)) (c3:=nodC nod0 (.slice none 0 0) (.slice none 0 0)) (c4:=nodC nod0 (.slice none 0 0) (.slice none 0 0)) rfl rfl rfl rfl rfl rfl rfl rfl rfl rfl ?_;intro w6 hr6 hb6;simp only [World.size_alloc] at hr6;have HR6:=hide hr6;have HB6:=hide (HBU.out.trans (hb6.mono HBU.out.size));have HRU6:=hide (HRU.out.on hb6);have q56:w6.cell? ⟨w.heap.size+1,5,none⟩=some (.slice none 0 0):=(HB6.out.cell (p:=⟨w.heap.size+1,5,none⟩) hl4).trans q5;have f56:w6.frozen? ⟨w.heap.size+1,5,none⟩=false:=(HB6.out.frozen (p:=⟨w.heap.size+1,5,none⟩) hl4).trans f5;have hl6:w.heap.size+1 < w6.heap.size:=Nat.lt_of_lt_of_le hl4 HB6.out.size;clear hr6 hb6)|fail)
 have hw2:w.heap.size+2≤w3.heap.size:=by have:=R3.out.lt;omega
 have hs34:w3.heap.size < w4.heap.size:=hl34
 have hs46:=HB6.out.size
 have hr6l:=HR6.out.lt
 have hg7:=grown_cell w6 (w.heap.size+1) 5 (.slice (some ⟨w6.heap.size,0,none⟩) 1 1)
 have n6:RdE nodEn w6 (Fr (w.heap.size+2) w6) (some ⟨w4.heap.size+1,0,none⟩) 5 lyB:=nods_row HR6.out ⟨by omega,hr6l⟩ ⟨none,0,0,_,1,1,rfl,Nat.le_refl _,RdE.none_ _ _ _ _,Nat.le_refl _,ent_row (HE4.out.on HB6.out) ⟨by omega,by omega⟩⟩ ⟨_,1,1,none,0,0,rfl,Nat.le_refl _,byte_row (l:=[120]) HRU6.out ⟨by omega,by omega⟩,Nat.le_refl _,RdE.none_ _ _ _ _⟩ (nod0R _ _) (nod0R _ _) (nod0R _ _)
 have n7:=n6.grF hg7 (by omega)
 have x7:RowL (w6.setCell ⟨w.heap.size+1,5,none⟩ (.slice (some ⟨w6.heap.size,0,none⟩) 1 1)) (w.heap.size+1) 29 (stkC gB (.slice none 0 0) (.slice (some ⟨w6.heap.size,0,none⟩) 1 1)):=(HR34.out.on HB6.out).set_ 5 _
 have y7:=(HR04.out.on HB6.out).grown hg7 (pu5 (by omega))
 have hs7:(w6.setCell ⟨w.heap.size+1,5,none⟩ (.slice (some ⟨w6.heap.size,0,none⟩) 1 1)).heap.size=w6.heap.size:=by simp [World.setCell]
 have hb7:Below w.heap.size w (w6.setCell ⟨w.heap.size+1,5,none⟩ (.slice (some ⟨w6.heap.size,0,none⟩) 1 1)):=(HB4.out.trans (HB6.out.mono (by omega))).setCell (p:=⟨w.heap.size+1,5,none⟩) (by show w.heap.size≤w.heap.size+1;omega) _
 clear q5 f5 hl4 hg7 n6
 refine (Dir_any _).mono ?_
 rintro ez w9 ⟨rfl,hb9⟩
 generalize w6.setCell ⟨w.heap.size+1,5,none⟩ (.slice (some ⟨w6.heap.size,0,none⟩) 1 1)=w7 at *
 have r8:=RowL.new w7 26 [Value.slice (some ⟨w4.heap.size+1,0,none⟩) 5 5]
 have b8:=below_new (below_self w7) (.cells [Value.slice (some ⟨w4.heap.size+1,0,none⟩) 5 5].toArray 26)
 have l8:RdE layEn (w7.alloc (.cells [Value.slice (some ⟨w4.heap.size+1,0,none⟩) 5 5].toArray 26)) (Fr (w.heap.size+2) (w7.alloc (.cells [Value.slice (some ⟨w4.heap.size+1,0,none⟩) 5 5].toArray 26))) (some ⟨w6.heap.size,0,none⟩) 1 lsB:=lay_row (by rw [←hs7];exact r8) ⟨by omega,by simp;omega⟩ (Nat.le_refl _) (n7.onF b8)
 have X9:=hide ((x7.on b8).on hb9)
 have Y9:=hide ((y7.on b8).on hb9)
 have L9:=hide (l8.onF hb9)
 have B9:=hide ((hb7.trans (b8.mono hb7.size)).trans (hb9.mono (Nat.le_trans hb7.size b8.size)))
 clear r8 b8 l8 x7 y7 n7 hb7 hb9 hs7
 go_wp2_with fail
 refine (Dir_any _).mono ?_
 rintro ez w10 ⟨rfl,hb10⟩
 have HB10:=hide hb10
 clear hb10
 go_wp2_with fail
 refine (Dir_any _).mono ?_
 rintro ez w11 ⟨rfl,hb11⟩
 have HB11:=hide (HB10.out.trans (hb11.mono HB10.out.size))
 clear hb11
 go_wp2_with (first|(refine wpList_lit5N (w:=w11) rfl (.tmp 16) (.tmp 17) (.tmp 18) (.tmp 19) (.tmp 20) rfl (c0:=nodC ndD (.slice none 0 0) (.slice none 0 0)) (c1:=nodC ndD (.slice none 0 0) (.slice none 0 0)) (c2:=nodC ndD (.slice none 0 0) (.slice none 0 0)) (c3:=nodC nod0 (.slice none 0 0) (.slice none 0 0)) (c4:=nodC nod0 (.slice none 0 0) (.slice none 0 0)) rfl rfl rfl rfl rfl rfl rfl rfl rfl rfl ?_;intro w12 hr12 hb12;have HR12:=hide hr12;have HB12:=hide (HB11.out.trans (hb12.mono HB11.out.size));have hl12:=hr12.lt;clear hr12 hb12)|(refine wpList_storeC rfl 26 (.tmp 23) (.tmp 22) rfl 1 lay_size (w.heap.size+1) 4 29 rfl (stkC gB (.slice none 0 0) (.slice (some ⟨w6.heap.size,0,none⟩) 1 1)) [.slice (some ⟨w11.heap.size,0,none⟩) 5 5] rfl (X9.out.on HB12.out) rfl (by simp [stkC]) (by simp [Value.oneCell']) ?_;intro w13 hr13 hg13 hs13;have HX13:=hide (show RowL w13 (w.heap.size+1) 29 (stkC gB (.slice (some ⟨w11.heap.size,0,none⟩) 5 5) (.slice (some ⟨w6.heap.size,0,none⟩) 1 1)) from hr13);have HG13:=hide hg13;clear hr13 hg13)|(refine wpList_loadW rfl 29 (.tmp 1) rfl 6 stk_agg stk_size (w.heap.size+1) 29 rfl (stkC gB (.slice (some ⟨w11.heap.size,0,none⟩) 5 5) (.slice (some ⟨w6.heap.size,0,none⟩) 1 1)) HX13.out rfl ?_)|(refine wpList_storeW rfl 29 (.tmp 0) (.tmp 24) rfl 6 stk_size w.heap.size 29 rfl (stkC ⟨0,0,0,0⟩ (.slice none 0 0) (.slice none 0 0)) (stkC gB (.slice (some ⟨w11.heap.size,0,none⟩) 5 5) (.slice (some ⟨w6.heap.size,0,none⟩) 1 1)) rfl ((Y9.out.on HB12.out).grown HG13.out (pu5 (by omega))) rfl rfl (by simp [stkC,Value.oneCell']) ?_;intro w14 hr14 hg14 hs14;have HR14:=hide hr14;have HG14:=hide hg14;clear hr14 hg14)|fail)
 have hx9:=X9.out.lt
 have hs9:=B9.out.size
 have hs12:=HB12.out.size
 have hs11:=HB11.out.size
 have l12:RdE layEn w12 (fun b=>w.heap.size+2≤b∧b < w9.heap.size) _ 1 lsB:=L9.out.mono (fun b hb=>HB12.out.block b hb.2) (fun _ h=>h)
 have l13:=l12.mono (w':=w13) (D':=fun b=>w.heap.size+2≤b∧b < w9.heap.size) (fun b hb=>HG13.out.block b (by have:=hb.2;omega) (fun e=>by have:=Option.some.inj e;have:=hb.1;omega)) (fun _ h=>h)
 have hs13:=HG13.out.size
 have l14:=l13.mono (w':=w14) (D':=fun b=>w.heap.size≤b∧b < w11.heap.size) (fun b hb=>HG14.out.block b (by have:=hb.2;omega) (fun e=>by have:=Option.some.inj e;have:=hb.1;omega)) (fun _ h=>⟨by have:=h.1;omega,by have:=h.2;omega⟩)
 exact bodyPost_ret (res_cell Tryz.results77 rfl stk_agg stk_size HR14.out rfl) rfl ⟨w11.heap.size,_,1,1,rfl,(HR12.out.grown HG13.out (pu5 (by omega))).grown HG14.out (pu5 (by omega)),l14,by omega,((B9.out.trans (HB12.out.mono hs9)).grown HG13.out (by omega) (pu4 (by omega))).grown HG14.out (by have:=HG13.out.size;omega) (pu4 (by omega))⟩
theorem btw_on {α:Type} {E:Enc α} {w w':World} {lo hi:Nat} {A:Option Addr} {n:Nat} {l:List α} (h:RdE E w (fun b=>lo≤b∧b < hi) A n l) (hb:Below w.heap.size w w') (hh:hi≤w.heap.size):RdE E w' (fun b=>lo≤b∧b < hi) A n l:=h.mono (Kept.of_below hb fun _ h=>Nat.lt_of_lt_of_le h.2 hh) fun _ h=>h
theorem btw_grown {α:Type} {E:Enc α} {w w':World} {lo hi g:Nat} {A:Option Addr} {n:Nat} {l:List α} (h:RdE E w (fun b=>lo≤b∧b < hi) A n l) (hg:w.grownBy w' (some g)) (hh:hi≤w.heap.size) (hne:g < lo∨hi≤g):RdE E w' (fun b=>lo≤b∧b < hi) A n l:=h.mono (fun b hb=>hg.block b (Nat.lt_of_lt_of_le hb.2 hh) (fun e=>by have:=Option.some.inj e;have h1:=hb.1;have h2:=hb.2;omega)) fun _ h=>h
theorem stkC_one (g:GeoQ) (A B:Option Addr) (n c m d:Nat):∀v∈stkC g (.slice A n c) (.slice B m d),v.oneCell'=true:=by simp [stkC,Value.oneCell']
end Go.Proofs.YtmhiohnkjpglfaaGreat

