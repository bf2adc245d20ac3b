import Derived.Test.YtfdbhldnohaopaaGreatVw22
import Derived.Test.YtfdbhldnohaopaaGreatVw5

namespace Go.Proofs.YtfdbhldnohaopaaGreat
open Go.RowKit Go.Shelf Plain

set_option maxRecDepth 100000 in
theorem plcs_size:∀w,(Go.sizeOf 45).run Tryz.prog w=.ok 1 w:=fun w=>by kernel_rfl
set_option maxRecDepth 100000 in
set_option maxHeartbeats 4000000 in
theorem VRoot_any {g:GeoQ} {AU AL:Option Addr} {nU cU nL cL B:Nat} {up:List NodV} {ls:List (List NodV)} (w:World) (hu:RdE nodEn w (Under B) AU nU up) (h:RdE layEn w (Under B) AL nL ls) (hB:B≤w.heap.size) (hF:FewL ls) (hup:FewX up):Calls Tryz.prog 16 #[.agg (stkC g (.slice AU nU cU) (.slice AL nL cL)).toArray] w (ViewF w.heap.size w (rootV up ls)):=by
 obtain ⟨W1,hW1⟩:∃W1,(((w.alloc (.cells (stkC g (.slice AU nU cU) (.slice AL nL cL)).toArray 29)).alloc (.cells (viwC 0 (.slice none 0 0)).toArray 47)).alloc (.cells (viwC 0 (.slice none 0 0)).toArray 47))=W1:=⟨_,rfl⟩
 obtain ⟨r0,r1,r2,hb1,hs1⟩:=rowA3 w _ _ _ _ _ _ hW1
 have hW1':(((w.alloc (.cells #[.int .i64 g.a,.int .i64 g.b,.int .i64 g.c,.int .i64 g.d,.slice AU nU cU,.slice AL nL cL] 29)).alloc (.cells #[.int .i64 0,.slice none 0 0] 47)).alloc (.cells #[.int .i64 0,.slice none 0 0] 47))=W1:=hW1
 have R1:=hide r0
 have R2:=hide r1
 have R3:=hide r2
 have HB:=hide hb1
 have hsz0:=hb1.size
 have HU:=hide (hu.under hb1 hB)
 have HL:=hide (h.under hb1 hB)
 have HF:=hide hF
 have HFU:=hide hup
 obtain ⟨x,hx⟩:∃x,nodAt up 1=x:=⟨_,rfl⟩
 have HX:=hide hx
 obtain ⟨V,hV⟩:∃V,rootV up ls=V:=⟨_,rfl⟩
 rw [hV]
 have hatt:0≤x.att.h∧x.att.h≤31:=by rw [←hx];exact (nodAt_plainX hup.2 1).2.2.1
 obtain ⟨bo,hbo⟩:∃bo,opqD x=bo:=⟨_,rfl⟩
 have HOP:=hide hbo
 have q1_4:W1.cell? ⟨w.heap.size,4,none⟩=some (.slice AU nU cU):=R1.out.cell 4
 unfold rootV at hV
 rw [hx,hbo] at hV
 unfold stkC
 by_cases hk:x.k=1
 ·rw [if_pos hk] at hV
  have hk1:(x.k==1)=true:=by simpa using hk
  have hk2:(x.k != 1)=false:=by simpa using hk
  cases bo
  ·have HV:=hide (show V=(1,rootsL ls 0) from by simpa using hV.symm)
   clear r0 r1 r2 hb1 hW1 hu h hup hF hV hx hbo hk
   go_enter Tryz.func16,Tryz.ntmps16
   go_wp2_with (first|(go_at_call 65;refine (Of_e HX.out W1 HU.out (by omega) (by have:=HFU.out.1;omega)).mono ?_;rintro e1 wN ⟨A1,n1,c1,C1,m1,d1,rfl,-,-,-,-,hbel⟩;clear q1_4;replace HB:=hide (HB.out.trans (hbel.mono HB.out.size));replace R1:=hide (R1.out.on hbel);replace R2:=hide (R2.out.on hbel);replace R3:=hide (R3.out.on hbel);replace HU:=hide (HU.out.under hbel (by omega));replace HL:=hide (HL.out.under hbel (by omega));have hsz2:=hbel.size;have q1_4:wN.cell? ⟨w.heap.size,4,none⟩=some (.slice AU nU cU):=R1.out.cell 4;clear hbel)|(refine wpList_storeW rfl 38 (.tmp 4) (.tmp 7) rfl 13 nod_size (wN.heap.size) 38 rfl (nodC nod0 (.slice none 0 0) (.slice none 0 0)) (nodC x (.slice A1 n1 c1) (.slice C1 m1 d1)) rfl (RowL.new wN 38 (nodC nod0 (.slice none 0 0) (.slice none 0 0))) rfl rfl (nodC_one _ _ _ _ _ _ _) ?_;intro wS3 hr3 hg3 hs3;have hzb:=below_stored' hg3;clear q1_4;replace HB:=hide (HB.out.trans (hzb.mono HB.out.size));replace R1:=hide (R1.out.on hzb);replace R2:=hide (R2.out.on hzb);replace R3:=hide (R3.out.on hzb);replace HU:=hide (HU.out.under hzb (by omega));replace HL:=hide (HL.out.under hzb (by omega));have hsz4:=hzb.size;have q1_4:wS3.cell? ⟨w.heap.size,4,none⟩=some (.slice AU nU cU):=R1.out.cell 4;have RN:=hide hr3;have hlt3:=hr3.lt;have q4_0:wS3.cell? ⟨wN.heap.size,0,none⟩=some (.int .i64 x.k):=RN.out.cell 0;clear hzb hr3;clear hg3 hs3)|(refine wpList_storeV rfl 3 (.tmp 11) (Operand.const (Value.int IntKind.i64 1)) rfl int_size (w.heap.size+1+1) 0 47 rfl (.int .i64 1) rfl rfl rfl (viwC 0 (.slice none 0 0)) R3.out (by show 0 < 2;omega) ?_;intro wS5 hr5 hg5 hs5;replace hr5:RowL wS5 (w.heap.size+1+1) 47 [.int .i64 1,.slice none 0 0]:=hr5;clear q1_4 q4_0;replace HB:=hide (HB.out.grown hg5 (by omega) (pu4 (by omega)));replace R1:=hide (R1.out.grown hg5 (pu5 (by omega)));replace R2:=hide (R2.out.grown hg5 (pu5 (by omega)));replace HU:=hide (und_grown HU.out hg5 (by omega) (by omega));replace HL:=hide (und_grown HL.out hg5 (by omega) (by omega));replace RN:=hide (RN.out.grown hg5 (pu5 (by omega)));have hsz6:=hg5.size;replace R3:=hide hr5;have q1_4:wS5.cell? ⟨w.heap.size,4,none⟩=some (.slice AU nU cU):=R1.out.cell 4;have q4_0:wS5.cell? ⟨wN.heap.size,0,none⟩=some (.int .i64 x.k):=RN.out.cell 0;clear hr5 hg5 hs5)|(refine wpList_loadW rfl 38 (.tmp 4) rfl 13 nod_agg nod_size (wN.heap.size) 38 rfl (nodC x (.slice A1 n1 c1) (.slice C1 m1 d1)) RN.out rfl ?_)|(go_at_call 66;refine (VOpq_b HOP.out hatt.1 hatt.2 wS5).mono ?_;rintro e7 wO ⟨rfl,hbel⟩;clear q1_4 q4_0;replace HB:=hide (HB.out.trans (hbel.mono HB.out.size));replace R1:=hide (R1.out.on hbel);replace R2:=hide (R2.out.on hbel);replace R3:=hide (R3.out.on hbel);replace HU:=hide (HU.out.under hbel (by omega));replace HL:=hide (HL.out.under hbel (by omega));replace RN:=hide (RN.out.on hbel);have hsz8:=hbel.size;have q1_4:wO.cell? ⟨w.heap.size,4,none⟩=some (.slice AU nU cU):=R1.out.cell 4;have q4_0:wO.cell? ⟨wN.heap.size,0,none⟩=some (.int .i64 x.k):=RN.out.cell 0;clear hbel)|(refine wpList_loadW rfl 29 (.tmp 1) rfl 6 stk_agg stk_size (w.heap.size) 29 rfl (stkC g (.slice AU nU cU) (.slice AL nL cL)) R1.out rfl ?_)|(go_at_call 67;refine (Roots_f wO (und_up HL.out (by omega)) HF.out).mono ?_;rintro e9 wR ⟨A6,c6,rfl,h6,hbel⟩;clear q1_4 q4_0;replace HB:=hide (HB.out.trans (hbel.mono HB.out.size));replace R1:=hide (R1.out.on hbel);replace R2:=hide (R2.out.on hbel);replace R3:=hide (R3.out.on hbel);replace HU:=hide (HU.out.under hbel (by omega));replace HL:=hide (HL.out.under hbel (by omega));replace RN:=hide (RN.out.on hbel);have hsz10:=hbel.size;have q1_4:wR.cell? ⟨w.heap.size,4,none⟩=some (.slice AU nU cU):=R1.out.cell 4;have q4_0:wR.cell? ⟨wN.heap.size,0,none⟩=some (.int .i64 x.k):=RN.out.cell 0;have H6:=hide h6;clear h6;clear hbel)|(refine wpList_storeV rfl 45 (.tmp 17) (.tmp 16) rfl plcs_size (w.heap.size+1+1) 1 47 rfl (.slice A6 (rootsL ls 0).length c6) rfl rfl rfl [.int .i64 1,.slice none 0 0] R3.out (by show 1 < 2;omega) ?_;intro wS11 hr11 hg11 hs11;replace hr11:RowL wS11 (w.heap.size+1+1) 47 [.int .i64 1,.slice A6 (rootsL ls 0).length c6]:=hr11;clear q1_4 q4_0;replace HB:=hide (HB.out.grown hg11 (by omega) (pu4 (by omega)));replace R1:=hide (R1.out.grown hg11 (pu5 (by omega)));replace R2:=hide (R2.out.grown hg11 (pu5 (by omega)));replace HU:=hide (und_grown HU.out hg11 (by omega) (by omega));replace HL:=hide (und_grown HL.out hg11 (by omega) (by omega));replace RN:=hide (RN.out.grown hg11 (pu5 (by omega)));replace H6:=hide (fr_grown H6.out hg11 (by omega));have hsz12:=hg11.size;replace R3:=hide hr11;have q1_4:wS11.cell? ⟨w.heap.size,4,none⟩=some (.slice AU nU cU):=R1.out.cell 4;have q4_0:wS11.cell? ⟨wN.heap.size,0,none⟩=some (.int .i64 x.k):=RN.out.cell 0;clear hr11 hg11 hs11)|(refine wpList_loadW rfl 47 (.tmp 3) rfl 2 viw_agg viw_size (w.heap.size+1+1) 47 rfl [.int .i64 1,.slice A6 (rootsL ls 0).length c6] R3.out rfl ?_)|(refine wpList_storeW rfl 47 (.tmp 2) (.tmp 18) rfl 2 viw_size (w.heap.size+1) 47 rfl (viwC 0 (.slice none 0 0)) (viwC 1 (.slice A6 (rootsL ls 0).length c6)) rfl R2.out rfl rfl (viwC_one _ _ _ _) ?_;intro wS13 hr13 hg13 hs13;clear q1_4 q4_0;replace HB:=hide (HB.out.grown hg13 (by omega) (pu4 (by omega)));replace R1:=hide (R1.out.grown hg13 (pu5 (by omega)));replace R3:=hide (R3.out.grown hg13 (pu5 (by omega)));replace HU:=hide (und_grown HU.out hg13 (by omega) (by omega));replace HL:=hide (und_grown HL.out hg13 (by omega) (by omega));replace RN:=hide (RN.out.grown hg13 (pu5 (by omega)));replace H6:=hide (fr_grown H6.out hg13 (by omega));have hsz14:=hg13.size;replace R2:=hide hr13;have q1_4:wS13.cell? ⟨w.heap.size,4,none⟩=some (.slice AU nU cU):=R1.out.cell 4;have q4_0:wS13.cell? ⟨wN.heap.size,0,none⟩=some (.int .i64 x.k):=RN.out.cell 0;clear hr13 hg13 hs13))
   exact bodyPost_ret (res_cell Tryz.results16 rfl viw_agg viw_size R2.out rfl) rfl ⟨A6,c6,by rw [HV.out],by rw [HV.out];exact fr_low H6.out (by omega),HB.out⟩
  ·have HV:=hide (show V=(1,[]) from by simpa using hV.symm)
   clear r0 r1 r2 hb1 hW1 hu h hup hF hV hx hbo hk
   go_enter Tryz.func16,Tryz.ntmps16
   go_wp2_with (first|(go_at_call 65;refine (Of_e HX.out W1 HU.out (by omega) (by have:=HFU.out.1;omega)).mono ?_;rintro e1 wN ⟨A1,n1,c1,C1,m1,d1,rfl,-,-,-,-,hbel⟩;clear q1_4;replace HB:=hide (HB.out.trans (hbel.mono HB.out.size));replace R1:=hide (R1.out.on hbel);replace R2:=hide (R2.out.on hbel);replace R3:=hide (R3.out.on hbel);replace HU:=hide (HU.out.under hbel (by omega));replace HL:=hide (HL.out.under hbel (by omega));have hsz2:=hbel.size;have q1_4:wN.cell? ⟨w.heap.size,4,none⟩=some (.slice AU nU cU):=R1.out.cell 4;clear hbel)|(refine wpList_storeW rfl 38 (.tmp 4) (.tmp 7) rfl 13 nod_size (wN.heap.size) 38 rfl (nodC nod0 (.slice none 0 0) (.slice none 0 0)) (nodC x (.slice A1 n1 c1) (.slice C1 m1 d1)) rfl (RowL.new wN 38 (nodC nod0 (.slice none 0 0) (.slice none 0 0))) rfl rfl (nodC_one _ _ _ _ _ _ _) ?_;intro wS3 hr3 hg3 hs3;have hzb:=below_stored' hg3;clear q1_4;replace HB:=hide (HB.out.trans (hzb.mono HB.out.size));replace R1:=hide (R1.out.on hzb);replace R2:=hide (R2.out.on hzb);replace R3:=hide (R3.out.on hzb);replace HU:=hide (HU.out.under hzb (by omega));replace HL:=hide (HL.out.under hzb (by omega));have hsz4:=hzb.size;have q1_4:wS3.cell? ⟨w.heap.size,4,none⟩=some (.slice AU nU cU):=R1.out.cell 4;have RN:=hide hr3;have hlt3:=hr3.lt;have q4_0:wS3.cell? ⟨wN.heap.size,0,none⟩=some (.int .i64 x.k):=RN.out.cell 0;clear hzb hr3;clear hg3 hs3)|(refine wpList_storeV rfl 3 (.tmp 11) (Operand.const (Value.int IntKind.i64 1)) rfl int_size (w.heap.size+1+1) 0 47 rfl (.int .i64 1) rfl rfl rfl (viwC 0 (.slice none 0 0)) R3.out (by show 0 < 2;omega) ?_;intro wS5 hr5 hg5 hs5;replace hr5:RowL wS5 (w.heap.size+1+1) 47 [.int .i64 1,.slice none 0 0]:=hr5;clear q1_4 q4_0;replace HB:=hide (HB.out.grown hg5 (by omega) (pu4 (by omega)));replace R1:=hide (R1.out.grown hg5 (pu5 (by omega)));replace R2:=hide (R2.out.grown hg5 (pu5 (by omega)));replace HU:=hide (und_grown HU.out hg5 (by omega) (by omega));replace HL:=hide (und_grown HL.out hg5 (by omega) (by omega));replace RN:=hide (RN.out.grown hg5 (pu5 (by omega)));have hsz6:=hg5.size;replace R3:=hide hr5;have q1_4:wS5.cell? ⟨w.heap.size,4,none⟩=some (.slice AU nU cU):=R1.out.cell 4;have q4_0:wS5.cell? ⟨wN.heap.size,0,none⟩=some (.int .i64 x.k):=RN.out.cell 0;clear hr5 hg5 hs5)|(refine wpList_loadW rfl 38 (.tmp 4) rfl 13 nod_agg nod_size (wN.heap.size) 38 rfl (nodC x (.slice A1 n1 c1) (.slice C1 m1 d1)) RN.out rfl ?_)|(go_at_call 66;refine (VOpq_b HOP.out hatt.1 hatt.2 wS5).mono ?_;rintro e7 wO ⟨rfl,hbel⟩;clear q1_4 q4_0;replace HB:=hide (HB.out.trans (hbel.mono HB.out.size));replace R1:=hide (R1.out.on hbel);replace R2:=hide (R2.out.on hbel);replace R3:=hide (R3.out.on hbel);replace HU:=hide (HU.out.under hbel (by omega));replace HL:=hide (HL.out.under hbel (by omega));replace RN:=hide (RN.out.on hbel);have hsz8:=hbel.size;have q1_4:wO.cell? ⟨w.heap.size,4,none⟩=some (.slice AU nU cU):=R1.out.cell 4;have q4_0:wO.cell? ⟨wN.heap.size,0,none⟩=some (.int .i64 x.k):=RN.out.cell 0;clear hbel)|(refine wpList_loadW rfl 47 (.tmp 3) rfl 2 viw_agg viw_size (w.heap.size+1+1) 47 rfl [.int .i64 1,.slice none 0 0] R3.out rfl ?_)|(refine wpList_storeW rfl 47 (.tmp 2) (.tmp 18) rfl 2 viw_size (w.heap.size+1) 47 rfl (viwC 0 (.slice none 0 0)) (viwC 1 (.slice none 0 0)) rfl R2.out rfl rfl (viwC_one _ _ _ _) ?_;intro wS9 hr9 hg9 hs9;clear q1_4 q4_0;replace HB:=hide (HB.out.grown hg9 (by omega) (pu4 (by omega)));replace R1:=hide (R1.out.grown hg9 (pu5 (by omega)));replace R3:=hide (R3.out.grown hg9 (pu5 (by omega)));replace HU:=hide (und_grown HU.out hg9 (by omega) (by omega));replace HL:=hide (und_grown HL.out hg9 (by omega) (by omega));replace RN:=hide (RN.out.grown hg9 (pu5 (by omega)));have hsz10:=hg9.size;replace R2:=hide hr9;have q1_4:wS9.cell? ⟨w.heap.size,4,none⟩=some (.slice AU nU cU):=R1.out.cell 4;have q4_0:wS9.cell? ⟨wN.heap.size,0,none⟩=some (.int .i64 x.k):=RN.out.cell 0;clear hr9 hg9 hs9))
   exact bodyPost_ret (res_cell Tryz.results16 rfl viw_agg viw_size R2.out rfl) rfl ⟨none,0,by rw [HV.out];rfl,by rw [HV.out];exact RdE.none_ _ _ _ _,HB.out⟩
 ·rw [if_neg hk] at hV
  have hk1:(x.k==1)=false:=by simpa using hk
  have hk2:(x.k != 1)=true:=by simpa using hk
  have hbf:bo=false:=by rw [←hbo];unfold opqD;simp [hk]
  subst hbf
  have HV:=hide (show V=(0,rootsL ls 0) from by simpa using hV.symm)
  clear r0 r1 r2 hb1 hW1 hu h hup hF hV hx hbo hk
  go_enter Tryz.func16,Tryz.ntmps16
  go_wp2_with (first|(go_at_call 65;refine (Of_e HX.out W1 HU.out (by omega) (by have:=HFU.out.1;omega)).mono ?_;rintro e1 wN ⟨A1,n1,c1,C1,m1,d1,rfl,-,-,-,-,hbel⟩;clear q1_4;replace HB:=hide (HB.out.trans (hbel.mono HB.out.size));replace R1:=hide (R1.out.on hbel);replace R2:=hide (R2.out.on hbel);replace R3:=hide (R3.out.on hbel);replace HU:=hide (HU.out.under hbel (by omega));replace HL:=hide (HL.out.under hbel (by omega));have hsz2:=hbel.size;have q1_4:wN.cell? ⟨w.heap.size,4,none⟩=some (.slice AU nU cU):=R1.out.cell 4;clear hbel)|(refine wpList_storeW rfl 38 (.tmp 4) (.tmp 7) rfl 13 nod_size (wN.heap.size) 38 rfl (nodC nod0 (.slice none 0 0) (.slice none 0 0)) (nodC x (.slice A1 n1 c1) (.slice C1 m1 d1)) rfl (RowL.new wN 38 (nodC nod0 (.slice none 0 0) (.slice none 0 0))) rfl rfl (nodC_one _ _ _ _ _ _ _) ?_;intro wS3 hr3 hg3 hs3;have hzb:=below_stored' hg3;clear q1_4;replace HB:=hide (HB.out.trans (hzb.mono HB.out.size));replace R1:=hide (R1.out.on hzb);replace R2:=hide (R2.out.on hzb);replace R3:=hide (R3.out.on hzb);replace HU:=hide (HU.out.under hzb (by omega));replace HL:=hide (HL.out.under hzb (by omega));have hsz4:=hzb.size;have q1_4:wS3.cell? ⟨w.heap.size,4,none⟩=some (.slice AU nU cU):=R1.out.cell 4;have RN:=hide hr3;have hlt3:=hr3.lt;have q4_0:wS3.cell? ⟨wN.heap.size,0,none⟩=some (.int .i64 x.k):=RN.out.cell 0;clear hzb hr3;clear hg3 hs3)|(refine wpList_loadW rfl 38 (.tmp 4) rfl 13 nod_agg nod_size (wN.heap.size) 38 rfl (nodC x (.slice A1 n1 c1) (.slice C1 m1 d1)) RN.out rfl ?_)|(go_at_call 66;refine (VOpq_b HOP.out hatt.1 hatt.2 wS3).mono ?_;rintro e5 wO ⟨rfl,hbel⟩;clear q1_4 q4_0;replace HB:=hide (HB.out.trans (hbel.mono HB.out.size));replace R1:=hide (R1.out.on hbel);replace R2:=hide (R2.out.on hbel);replace R3:=hide (R3.out.on hbel);replace HU:=hide (HU.out.under hbel (by omega));replace HL:=hide (HL.out.under hbel (by omega));replace RN:=hide (RN.out.on hbel);have hsz6:=hbel.size;have q1_4:wO.cell? ⟨w.heap.size,4,none⟩=some (.slice AU nU cU):=R1.out.cell 4;have q4_0:wO.cell? ⟨wN.heap.size,0,none⟩=some (.int .i64 x.k):=RN.out.cell 0;clear hbel)|(refine wpList_loadW rfl 29 (.tmp 1) rfl 6 stk_agg stk_size (w.heap.size) 29 rfl (stkC g (.slice AU nU cU) (.slice AL nL cL)) R1.out rfl ?_)|(go_at_call 67;refine (Roots_f wO (und_up HL.out (by omega)) HF.out).mono ?_;rintro e7 wR ⟨A6,c6,rfl,h6,hbel⟩;clear q1_4 q4_0;replace HB:=hide (HB.out.trans (hbel.mono HB.out.size));replace R1:=hide (R1.out.on hbel);replace R2:=hide (R2.out.on hbel);replace R3:=hide (R3.out.on hbel);replace HU:=hide (HU.out.under hbel (by omega));replace HL:=hide (HL.out.under hbel (by omega));replace RN:=hide (RN.out.on hbel);have hsz8:=hbel.size;have q1_4:wR.cell? ⟨w.heap.size,4,none⟩=some (.slice AU nU cU):=R1.out.cell 4;have q4_0:wR.cell? ⟨wN.heap.size,0,none⟩=some (.int .i64 x.k):=RN.out.cell 0;have H6:=hide h6;clear h6;clear hbel)|(refine wpList_storeV rfl 45 (.tmp 17) (.tmp 16) rfl plcs_size (w.heap.size+1+1) 1 47 rfl (.slice A6 (rootsL ls 0).length c6) rfl rfl rfl (viwC 0 (.slice none 0 0)) R3.out (by show 1 < 2;omega) ?_;intro wS9 hr9 hg9 hs9;replace hr9:RowL wS9 (w.heap.size+1+1) 47 [.int .i64 0,.slice A6 (rootsL ls 0).length c6]:=hr9;clear q1_4 q4_0;replace HB:=hide (HB.out.grown hg9 (by omega) (pu4 (by omega)));replace R1:=hide (R1.out.grown hg9 (pu5 (by omega)));replace R2:=hide (R2.out.grown hg9 (pu5 (by omega)));replace HU:=hide (und_grown HU.out hg9 (by omega) (by omega));replace HL:=hide (und_grown HL.out hg9 (by omega) (by omega));replace RN:=hide (RN.out.grown hg9 (pu5 (by omega)));replace H6:=hide (fr_grown H6.out hg9 (by omega));have hsz10:=hg9.size;replace R3:=hide hr9;have q1_4:wS9.cell? ⟨w.heap.size,4,none⟩=some (.slice AU nU cU):=R1.out.cell 4;have q4_0:wS9.cell? ⟨wN.heap.size,0,none⟩=some (.int .i64 x.k):=RN.out.cell 0;clear hr9 hg9 hs9)|(refine wpList_loadW rfl 47 (.tmp 3) rfl 2 viw_agg viw_size (w.heap.size+1+1) 47 rfl [.int .i64 0,.slice A6 (rootsL ls 0).length c6] R3.out rfl ?_)|(refine wpList_storeW rfl 47 (.tmp 2) (.tmp 18) rfl 2 viw_size (w.heap.size+1) 47 rfl (viwC 0 (.slice none 0 0)) (viwC 0 (.slice A6 (rootsL ls 0).length c6)) rfl R2.out rfl rfl (viwC_one _ _ _ _) ?_;intro wS11 hr11 hg11 hs11;clear q1_4 q4_0;replace HB:=hide (HB.out.grown hg11 (by omega) (pu4 (by omega)));replace R1:=hide (R1.out.grown hg11 (pu5 (by omega)));replace R3:=hide (R3.out.grown hg11 (pu5 (by omega)));replace HU:=hide (und_grown HU.out hg11 (by omega) (by omega));replace HL:=hide (und_grown HL.out hg11 (by omega) (by omega));replace RN:=hide (RN.out.grown hg11 (pu5 (by omega)));replace H6:=hide (fr_grown H6.out hg11 (by omega));have hsz12:=hg11.size;replace R2:=hide hr11;have q1_4:wS11.cell? ⟨w.heap.size,4,none⟩=some (.slice AU nU cU):=R1.out.cell 4;have q4_0:wS11.cell? ⟨wN.heap.size,0,none⟩=some (.int .i64 x.k):=RN.out.cell 0;clear hr11 hg11 hs11))
  exact bodyPost_ret (res_cell Tryz.results16 rfl viw_agg viw_size R2.out rfl) rfl ⟨A6,c6,by rw [HV.out],by rw [HV.out];exact fr_low H6.out (by omega),HB.out⟩
theorem VRoot_e {g:GeoQ} {AU AL:Option Addr} {nU cU nL cL B:Nat} {up:List NodV} {ls:List (List NodV)} {V:ViewV} (hV:rootV up ls=V) (w:World) (hu:RdE nodEn w (Under B) AU nU up) (h:RdE layEn w (Under B) AL nL ls) (hB:B≤w.heap.size) (hF:FewL ls) (hup:FewX up):Calls Tryz.prog 16 #[.agg (stkC g (.slice AU nU cU) (.slice AL nL cL)).toArray] w (ViewF w.heap.size w V):=by rw [←hV];exact VRoot_any w hu h hB hF hup
end Go.Proofs.YtfdbhldnohaopaaGreat

namespace Go.Proofs.YtfdbhldnohaopaaGreat
open Go

def downOk (md:Region.Mode) (ops:Array Oper):Bool:=(List.range ops.size).all fun i=>((ops[i]?).map (·.after.all fun e=>!Region.binds md e||decide (e.on < i))).getD false
section
variable {P : Program} {ops : Array Oper} {Q : Exit → Act → World → Prop} {md : Region.Mode}
theorem getD_in {listed:Array Bool} {k:Nat} (h:k < listed.size) (b c:Bool):listed.getD k b=listed.getD k c:=by simp [Array.getD,h]
theorem wpAny_J {J : Array Bool → Act → World → Prop} (hdown : downOk md ops = true)
  (hend:∀listed a w,listed.size=ops.size→(∀i,i < ops.size→listed.getD i true=true)→J listed a w→Q .normal a w)
  (hstep:∀i o,ops[i]?=some o→∀listed a w,listed.size=ops.size→listed.getD i true=false→(o.after.all fun e=>!Region.binds md e||listed.getD e.on false)=true→J listed a w→wpOp P ops Q i (J (listed.setIfInBounds i true)) a w) :
  ∀(fuel:Nat) (l:List Nat) (listed:Array Bool) (a:Act) (w:World),listed.size=ops.size→(∀i,i < ops.size→listed.getD i true=false→i∈l)→l.length≤fuel→J listed a w→wpAny P md ops Q fuel listed a w:=by
 have hmem:∀(listed:Array Bool) i,i < ops.size→listed.getD i true=false→(∀o,ops[i]?=some o→(o.after.all fun e=>!Region.binds md e||listed.getD e.on false)=true)→i∈Region.ready md ops listed:=by
  intro listed i hi h1 h2
  unfold Region.ready
  rw [List.mem_filter]
  refine ⟨List.mem_range.2 hi,?_⟩
  have ho:ops[i]?=some ops[i]:=Array.getElem?_eq_getElem hi
  rw [h1,ho]
  simpa using h2 _ ho
 have hleast:∀(listed:Array Bool),listed.size=ops.size→Region.ready md ops listed=[]→∀i,i < ops.size→listed.getD i true=true:=by
  intro listed hsz hr i
  induction i using Nat.strongRecOn with
  | _ i ih =>
   intro hi
   cases h:listed.getD i true with
   | true=>rfl
   | false =>
    exfalso
    have hin:=hmem listed i hi h (fun o ho=>by
     unfold downOk at hdown
     have hd:=List.all_eq_true.1 hdown i (List.mem_range.2 hi)
     rw [ho] at hd
     simp only [Option.map_some,Option.getD_some] at hd
     rw [Array.all_eq_true_iff_forall_mem] at hd ⊢
     intro e he
     have h3:=hd e he
     rw [Bool.or_eq_true] at h3 ⊢
     refine h3.imp id (fun h4=>?_)
     have h5:e.on < i:=of_decide_eq_true h4
     rw [getD_in (by omega) false true]
     exact ih e.on h5 (by omega))
    rw [hr] at hin
    cases hin
 intro fuel
 induction fuel with
 | zero =>
  intro l listed a w hsz hl hlen hJ
  have hall:∀i,i < ops.size→listed.getD i true=true:=by
   intro i hi
   cases h:listed.getD i true with
   | true=>rfl
   | false =>
    have:=hl i hi h
    rw [List.eq_nil_of_length_eq_zero (by omega:l.length=0)] at this
    cases this
  refine ⟨?_,hend listed a w hsz hall hJ⟩
  unfold Region.ready
  rw [List.filter_eq_nil_iff]
  intro i hi
  rw [hall i (List.mem_range.1 hi)]
  simp
 | succ fuel ih =>
  intro l listed a w hsz hl hlen hJ
  refine ⟨fun hr=>hend listed a w hsz (hleast listed hsz hr) hJ,fun i hi=>?_⟩
  unfold Region.ready at hi
  rw [List.mem_filter,Bool.and_eq_true] at hi
  obtain ⟨h0,h1,h2⟩:=hi
  have hlt:=List.mem_range.1 h0
  have ho:ops[i]?=some ops[i]:=Array.getElem?_eq_getElem hlt
  have h1':listed.getD i true=false:=by simpa using h1
  rw [ho] at h2
  refine wpOp_mono (fun a' w' h'=>ih (l.erase i) _ a' w' (by simpa using hsz) ?_ ?_ h') (hstep i _ ho listed a w hsz h1' (by simpa using h2) hJ)
  ·intro k hk hkf
   have hne:k≠i:=by
    intro e
    subst e
    simp [Array.getD,hsz,hk] at hkf
   refine (List.mem_erase_of_ne hne).2 (hl k hk ?_)
   rw [←hkf]
   rw [Array.getD_eq_getD_getElem?,Array.getD_eq_getD_getElem?,Array.getElem?_setIfInBounds_ne hne.symm]
  ·rw [List.length_erase_of_mem (hl i hlt h1')]
   omega
theorem wp_region_J {id : Nat} {a : Act} {w : World} (J : Array Bool → Act → World → Prop) (hm : P.follows .mixedOrders = true) (hdown : downOk .any ops = true)
  (h0:J (Array.replicate ops.size false) a w.drew)
  (hstep:∀i o,ops[i]?=some o→∀listed a w,listed.size=ops.size→listed.getD i true=false→(o.after.all fun e=>!Region.binds .any e||listed.getD e.on false)=true→J listed a w→wpOp P ops Q i (J (listed.setIfInBounds i true)) a w)
  (hend:∀listed a w,listed.size=ops.size→(∀i,i < ops.size→listed.getD i true=true)→J listed a w→Q .normal a w):(Code.region id ops true).wp P Q a w :=
 wp_region_any hm (wpAny_J hdown hend hstep ops.size (List.range ops.size) _ a _ (by simp) (fun i hi _=>List.mem_range.2 hi) (by simp) h0)
end
end Go.Proofs.YtfdbhldnohaopaaGreat

