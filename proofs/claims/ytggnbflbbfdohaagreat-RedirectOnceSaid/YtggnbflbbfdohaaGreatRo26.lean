import Derived.Test.YtggnbflbbfdohaaGreatRo19
import Derived.Test.YtggnbflbbfdohaaGreatRo24
import Derived.Test.YtggnbflbbfdohaaGreatRo25
import Derived.Test.YtggnbflbbfdohaaGreatRo11
import Derived.Test.YtggnbflbbfdohaaGreatRo13
import Derived.Test.YtggnbflbbfdohaaGreatRo17
import Derived.Test.YtggnbflbbfdohaaGreatRo10
import Derived.Test.YtggnbflbbfdohaaGreatRo1
import Derived.Lib.SlicesCompact
import Derived.Sort.Row
import Derived.Sort.OwnSorted
import Derived.Lib.RowBridge
import Derived.Test.YtggnbflbbfdohaaGreatRo5
import Derived.Test.YtggnbflbbfdohaaGreatRo22

namespace Go.Proofs.YtggnbflbbfdohaaGreat
open Go.RowKit Go.Shelf Plain

set_option maxRecDepth 100000 in
theorem plcs_size:∀w,(Go.sizeOf 50).run Tryz.prog w=.ok 1 w:=fun w=>by kernel_rfl
set_option maxRecDepth 100000 in
set_option maxHeartbeats 4000000 in
theorem VRoot_any {g:GeoQ} {AU AL:Option Addr} {nU cU nL cL B:Nat} {up:List NodV} {ls:List (List NodV)} (w:World) (hu:RdE nodEn w (Under B) AU nU up) (h:RdE layEn w (Under B) AL nL ls) (hB:B≤w.heap.size) (hF:FewL ls) (hup:FewX up):Calls Tryz.prog 70 #[.agg (stkC g (.slice AU nU cU) (.slice AL nL cL)).toArray] w (ViewF w.heap.size w (rootV up ls)):=by
 obtain ⟨W1,hW1⟩:∃W1,(((w.alloc (.cells (stkC g (.slice AU nU cU) (.slice AL nL cL)).toArray 29)).alloc (.cells (viwC 0 (.slice none 0 0)).toArray 80)).alloc (.cells (viwC 0 (.slice none 0 0)).toArray 80))=W1:=⟨_,rfl⟩
 obtain ⟨r0,r1,r2,hb1,hs1⟩:=rowA3 w _ _ _ _ _ _ hW1
 have hW1':(((w.alloc (.cells #[.int .i64 g.a,.int .i64 g.b,.int .i64 g.c,.int .i64 g.d,.slice AU nU cU,.slice AL nL cL] 29)).alloc (.cells #[.int .i64 0,.slice none 0 0] 80)).alloc (.cells #[.int .i64 0,.slice none 0 0] 80))=W1:=hW1
 have R1:=hide r0
 have R2:=hide r1
 have R3:=hide r2
 have HB:=hide hb1
 have hsz0:=hb1.size
 have HU:=hide (hu.under hb1 hB)
 have HL:=hide (h.under hb1 hB)
 have HF:=hide hF
 have HFU:=hide hup
 obtain ⟨x,hx⟩:∃x,nodAt up 1=x:=⟨_,rfl⟩
 have HX:=hide hx
 obtain ⟨V,hV⟩:∃V,rootV up ls=V:=⟨_,rfl⟩
 rw [hV]
 have hatt:0≤x.att.h∧x.att.h≤31:=by rw [←hx];exact (nodAt_plainX hup.2 1).2.2.1
 obtain ⟨bo,hbo⟩:∃bo,opqD x=bo:=⟨_,rfl⟩
 have HOP:=hide hbo
 have q1_4:W1.cell? ⟨w.heap.size,4,none⟩=some (.slice AU nU cU):=R1.out.cell 4
 unfold rootV at hV
 rw [hx,hbo] at hV
 unfold stkC
 by_cases hk:x.k=1
 ·rw [if_pos hk] at hV
  have hk1:(x.k==1)=true:=by simpa using hk
  have hk2:(x.k != 1)=false:=by simpa using hk
  cases bo
  ·have HV:=hide (show V=(1,rootsL ls 0) from by simpa using hV.symm)
   clear r0 r1 r2 hb1 hW1 hu h hup hF hV hx hbo hk
   go_enter Tryz.func70,Tryz.ntmps70
   go_wp2_with (first|(go_at_call 100;refine (Of_e HX.out W1 HU.out (by omega) (by have:=HFU.out.1;omega)).mono ?_;rintro e1 wN ⟨A1,n1,c1,C1,m1,d1,rfl,-,-,-,-,hbel⟩;clear q1_4;replace HB:=hide (HB.out.trans (hbel.mono HB.out.size));replace R1:=hide (R1.out.on hbel);replace R2:=hide (R2.out.on hbel);replace R3:=hide (R3.out.on hbel);replace HU:=hide (HU.out.under hbel (by omega));replace HL:=hide (HL.out.under hbel (by omega));have hsz2:=hbel.size;have q1_4:wN.cell? ⟨w.heap.size,4,none⟩=some (.slice AU nU cU):=R1.out.cell 4;clear hbel)|(refine wpList_storeW rfl 65 (.tmp 4) (.tmp 7) rfl 13 nod_size (wN.heap.size) 65 rfl (nodC nod0 (.slice none 0 0) (.slice none 0 0)) (nodC x (.slice A1 n1 c1) (.slice C1 m1 d1)) rfl (RowL.new wN 65 (nodC nod0 (.slice none 0 0) (.slice none 0 0))) rfl rfl (nodC_one _ _ _ _ _ _ _) ?_;intro wS3 hr3 hg3 hs3;have hzb:=below_stored' hg3;clear q1_4;replace HB:=hide (HB.out.trans (hzb.mono HB.out.size));replace R1:=hide (R1.out.on hzb);replace R2:=hide (R2.out.on hzb);replace R3:=hide (R3.out.on hzb);replace HU:=hide (HU.out.under hzb (by omega));replace HL:=hide (HL.out.under hzb (by omega));have hsz4:=hzb.size;have q1_4:wS3.cell? ⟨w.heap.size,4,none⟩=some (.slice AU nU cU):=R1.out.cell 4;have RN:=hide hr3;have hlt3:=hr3.lt;have q4_0:wS3.cell? ⟨wN.heap.size,0,none⟩=some (.int .i64 x.k):=RN.out.cell 0;clear hzb hr3;clear hg3 hs3)|(refine wpList_storeV rfl 3 (.tmp 11) (Operand.const (Value.int IntKind.i64 1)) rfl int_size (w.heap.size+1+1) 0 80 rfl (.int .i64 1) rfl rfl rfl (viwC 0 (.slice none 0 0)) R3.out (by show 0 < 2;omega) ?_;intro wS5 hr5 hg5 hs5;replace hr5:RowL wS5 (w.heap.size+1+1) 80 [.int .i64 1,.slice none 0 0]:=hr5;clear q1_4 q4_0;replace HB:=hide (HB.out.grown hg5 (by omega) (pu4 (by omega)));replace R1:=hide (R1.out.grown hg5 (pu5 (by omega)));replace R2:=hide (R2.out.grown hg5 (pu5 (by omega)));replace HU:=hide (und_grown HU.out hg5 (by omega) (by omega));replace HL:=hide (und_grown HL.out hg5 (by omega) (by omega));replace RN:=hide (RN.out.grown hg5 (pu5 (by omega)));have hsz6:=hg5.size;replace R3:=hide hr5;have q1_4:wS5.cell? ⟨w.heap.size,4,none⟩=some (.slice AU nU cU):=R1.out.cell 4;have q4_0:wS5.cell? ⟨wN.heap.size,0,none⟩=some (.int .i64 x.k):=RN.out.cell 0;clear hr5 hg5 hs5)|(refine wpList_loadW rfl 65 (.tmp 4) rfl 13 nod_agg nod_size (wN.heap.size) 65 rfl (nodC x (.slice A1 n1 c1) (.slice C1 m1 d1)) RN.out rfl ?_)|(go_at_call 101;refine (VOpq_b HOP.out hatt.1 hatt.2 wS5).mono ?_;rintro e7 wO ⟨rfl,hbel⟩;clear q1_4 q4_0;replace HB:=hide (HB.out.trans (hbel.mono HB.out.size));replace R1:=hide (R1.out.on hbel);replace R2:=hide (R2.out.on hbel);replace R3:=hide (R3.out.on hbel);replace HU:=hide (HU.out.under hbel (by omega));replace HL:=hide (HL.out.under hbel (by omega));replace RN:=hide (RN.out.on hbel);have hsz8:=hbel.size;have q1_4:wO.cell? ⟨w.heap.size,4,none⟩=some (.slice AU nU cU):=R1.out.cell 4;have q4_0:wO.cell? ⟨wN.heap.size,0,none⟩=some (.int .i64 x.k):=RN.out.cell 0;clear hbel)|(refine wpList_loadW rfl 29 (.tmp 1) rfl 6 stk_agg stk_size (w.heap.size) 29 rfl (stkC g (.slice AU nU cU) (.slice AL nL cL)) R1.out rfl ?_)|(go_at_call 102;refine (Roots_f wO (und_up HL.out (by omega)) HF.out).mono ?_;rintro e9 wR ⟨A6,c6,rfl,h6,hbel⟩;clear q1_4 q4_0;replace HB:=hide (HB.out.trans (hbel.mono HB.out.size));replace R1:=hide (R1.out.on hbel);replace R2:=hide (R2.out.on hbel);replace R3:=hide (R3.out.on hbel);replace HU:=hide (HU.out.under hbel (by omega));replace HL:=hide (HL.out.under hbel (by omega));replace RN:=hide (RN.out.on hbel);have hsz10:=hbel.size;have q1_4:wR.cell? ⟨w.heap.size,4,none⟩=some (.slice AU nU cU):=R1.out.cell 4;have q4_0:wR.cell? ⟨wN.heap.size,0,none⟩=some (.int .i64 x.k):=RN.out.cell 0;have H6:=hide h6;clear h6;clear hbel)|(refine wpList_storeV rfl 50 (.tmp 17) (.tmp 16) rfl plcs_size (w.heap.size+1+1) 1 80 rfl (.slice A6 (rootsL ls 0).length c6) rfl rfl rfl [.int .i64 1,.slice none 0 0] R3.out (by show 1 < 2;omega) ?_;intro wS11 hr11 hg11 hs11;replace hr11:RowL wS11 (w.heap.size+1+1) 80 [.int .i64 1,.slice A6 (rootsL ls 0).length c6]:=hr11;clear q1_4 q4_0;replace HB:=hide (HB.out.grown hg11 (by omega) (pu4 (by omega)));replace R1:=hide (R1.out.grown hg11 (pu5 (by omega)));replace R2:=hide (R2.out.grown hg11 (pu5 (by omega)));replace HU:=hide (und_grown HU.out hg11 (by omega) (by omega));replace HL:=hide (und_grown HL.out hg11 (by omega) (by omega));replace RN:=hide (RN.out.grown hg11 (pu5 (by omega)));replace H6:=hide (fr_grown H6.out hg11 (by omega));have hsz12:=hg11.size;replace R3:=hide hr11;have q1_4:wS11.cell? ⟨w.heap.size,4,none⟩=some (.slice AU nU cU):=R1.out.cell 4;have q4_0:wS11.cell? ⟨wN.heap.size,0,none⟩=some (.int .i64 x.k):=RN.out.cell 0;clear hr11 hg11 hs11)|(refine wpList_loadW rfl 80 (.tmp 3) rfl 2 viw_agg viw_size (w.heap.size+1+1) 80 rfl [.int .i64 1,.slice A6 (rootsL ls 0).length c6] R3.out rfl ?_)|(refine wpList_storeW rfl 80 (.tmp 2) (.tmp 18) rfl 2 viw_size (w.heap.size+1) 80 rfl (viwC 0 (.slice none 0 0)) (viwC 1 (.slice A6 (rootsL ls 0).length c6)) rfl R2.out rfl rfl (viwC_one _ _ _ _) ?_;intro wS13 hr13 hg13 hs13;clear q1_4 q4_0;replace HB:=hide (HB.out.grown hg13 (by omega) (pu4 (by omega)));replace R1:=hide (R1.out.grown hg13 (pu5 (by omega)));replace R3:=hide (R3.out.grown hg13 (pu5 (by omega)));replace HU:=hide (und_grown HU.out hg13 (by omega) (by omega));replace HL:=hide (und_grown HL.out hg13 (by omega) (by omega));replace RN:=hide (RN.out.grown hg13 (pu5 (by omega)));replace H6:=hide (fr_grown H6.out hg13 (by omega));have hsz14:=hg13.size;replace R2:=hide hr13;have q1_4:wS13.cell? ⟨w.heap.size,4,none⟩=some (.slice AU nU cU):=R1.out.cell 4;have q4_0:wS13.cell? ⟨wN.heap.size,0,none⟩=some (.int .i64 x.k):=RN.out.cell 0;clear hr13 hg13 hs13))
   exact bodyPost_ret (res_cell Tryz.results70 rfl viw_agg viw_size R2.out rfl) rfl ⟨A6,c6,by rw [HV.out],by rw [HV.out];exact fr_low H6.out (by omega),HB.out⟩
  ·have HV:=hide (show V=(1,[]) from by simpa using hV.symm)
   clear r0 r1 r2 hb1 hW1 hu h hup hF hV hx hbo hk
   go_enter Tryz.func70,Tryz.ntmps70
   go_wp2_with (first|(go_at_call 100;refine (Of_e HX.out W1 HU.out (by omega) (by have:=HFU.out.1;omega)).mono ?_;rintro e1 wN ⟨A1,n1,c1,C1,m1,d1,rfl,-,-,-,-,hbel⟩;clear q1_4;replace HB:=hide (HB.out.trans (hbel.mono HB.out.size));replace R1:=hide (R1.out.on hbel);replace R2:=hide (R2.out.on hbel);replace R3:=hide (R3.out.on hbel);replace HU:=hide (HU.out.under hbel (by omega));replace HL:=hide (HL.out.under hbel (by omega));have hsz2:=hbel.size;have q1_4:wN.cell? ⟨w.heap.size,4,none⟩=some (.slice AU nU cU):=R1.out.cell 4;clear hbel)|(refine wpList_storeW rfl 65 (.tmp 4) (.tmp 7) rfl 13 nod_size (wN.heap.size) 65 rfl (nodC nod0 (.slice none 0 0) (.slice none 0 0)) (nodC x (.slice A1 n1 c1) (.slice C1 m1 d1)) rfl (RowL.new wN 65 (nodC nod0 (.slice none 0 0) (.slice none 0 0))) rfl rfl (nodC_one _ _ _ _ _ _ _) ?_;intro wS3 hr3 hg3 hs3;have hzb:=below_stored' hg3;clear q1_4;replace HB:=hide (HB.out.trans (hzb.mono HB.out.size));replace R1:=hide (R1.out.on hzb);replace R2:=hide (R2.out.on hzb);replace R3:=hide (R3.out.on hzb);replace HU:=hide (HU.out.under hzb (by omega));replace HL:=hide (HL.out.under hzb (by omega));have hsz4:=hzb.size;have q1_4:wS3.cell? ⟨w.heap.size,4,none⟩=some (.slice AU nU cU):=R1.out.cell 4;have RN:=hide hr3;have hlt3:=hr3.lt;have q4_0:wS3.cell? ⟨wN.heap.size,0,none⟩=some (.int .i64 x.k):=RN.out.cell 0;clear hzb hr3;clear hg3 hs3)|(refine wpList_storeV rfl 3 (.tmp 11) (Operand.const (Value.int IntKind.i64 1)) rfl int_size (w.heap.size+1+1) 0 80 rfl (.int .i64 1) rfl rfl rfl (viwC 0 (.slice none 0 0)) R3.out (by show 0 < 2;omega) ?_;intro wS5 hr5 hg5 hs5;replace hr5:RowL wS5 (w.heap.size+1+1) 80 [.int .i64 1,.slice none 0 0]:=hr5;clear q1_4 q4_0;replace HB:=hide (HB.out.grown hg5 (by omega) (pu4 (by omega)));replace R1:=hide (R1.out.grown hg5 (pu5 (by omega)));replace R2:=hide (R2.out.grown hg5 (pu5 (by omega)));replace HU:=hide (und_grown HU.out hg5 (by omega) (by omega));replace HL:=hide (und_grown HL.out hg5 (by omega) (by omega));replace RN:=hide (RN.out.grown hg5 (pu5 (by omega)));have hsz6:=hg5.size;replace R3:=hide hr5;have q1_4:wS5.cell? ⟨w.heap.size,4,none⟩=some (.slice AU nU cU):=R1.out.cell 4;have q4_0:wS5.cell? ⟨wN.heap.size,0,none⟩=some (.int .i64 x.k):=RN.out.cell 0;clear hr5 hg5 hs5)|(refine wpList_loadW rfl 65 (.tmp 4) rfl 13 nod_agg nod_size (wN.heap.size) 65 rfl (nodC x (.slice A1 n1 c1) (.slice C1 m1 d1)) RN.out rfl ?_)|(go_at_call 101;refine (VOpq_b HOP.out hatt.1 hatt.2 wS5).mono ?_;rintro e7 wO ⟨rfl,hbel⟩;clear q1_4 q4_0;replace HB:=hide (HB.out.trans (hbel.mono HB.out.size));replace R1:=hide (R1.out.on hbel);replace R2:=hide (R2.out.on hbel);replace R3:=hide (R3.out.on hbel);replace HU:=hide (HU.out.under hbel (by omega));replace HL:=hide (HL.out.under hbel (by omega));replace RN:=hide (RN.out.on hbel);have hsz8:=hbel.size;have q1_4:wO.cell? ⟨w.heap.size,4,none⟩=some (.slice AU nU cU):=R1.out.cell 4;have q4_0:wO.cell? ⟨wN.heap.size,0,none⟩=some (.int .i64 x.k):=RN.out.cell 0;clear hbel)|(refine wpList_loadW rfl 80 (.tmp 3) rfl 2 viw_agg viw_size (w.heap.size+1+1) 80 rfl [.int .i64 1,.slice none 0 0] R3.out rfl ?_)|(refine wpList_storeW rfl 80 (.tmp 2) (.tmp 18) rfl 2 viw_size (w.heap.size+1) 80 rfl (viwC 0 (.slice none 0 0)) (viwC 1 (.slice none 0 0)) rfl R2.out rfl rfl (viwC_one _ _ _ _) ?_;intro wS9 hr9 hg9 hs9;clear q1_4 q4_0;replace HB:=hide (HB.out.grown hg9 (by omega) (pu4 (by omega)));replace R1:=hide (R1.out.grown hg9 (pu5 (by omega)));replace R3:=hide (R3.out.grown hg9 (pu5 (by omega)));replace HU:=hide (und_grown HU.out hg9 (by omega) (by omega));replace HL:=hide (und_grown HL.out hg9 (by omega) (by omega));replace RN:=hide (RN.out.grown hg9 (pu5 (by omega)));have hsz10:=hg9.size;replace R2:=hide hr9;have q1_4:wS9.cell? ⟨w.heap.size,4,none⟩=some (.slice AU nU cU):=R1.out.cell 4;have q4_0:wS9.cell? ⟨wN.heap.size,0,none⟩=some (.int .i64 x.k):=RN.out.cell 0;clear hr9 hg9 hs9))
   exact bodyPost_ret (res_cell Tryz.results70 rfl viw_agg viw_size R2.out rfl) rfl ⟨none,0,by rw [HV.out];rfl,by rw [HV.out];exact RdE.none_ _ _ _ _,HB.out⟩
 ·rw [if_neg hk] at hV
  have hk1:(x.k==1)=false:=by simpa using hk
  have hk2:(x.k != 1)=true:=by simpa using hk
  have hbf:bo=false:=by rw [←hbo];unfold opqD;simp [hk]
  subst hbf
  have HV:=hide (show V=(0,rootsL ls 0) from by simpa using hV.symm)
  clear r0 r1 r2 hb1 hW1 hu h hup hF hV hx hbo hk
  go_enter Tryz.func70,Tryz.ntmps70
  go_wp2_with (first|(go_at_call 100;refine (Of_e HX.out W1 HU.out (by omega) (by have:=HFU.out.1;omega)).mono ?_;rintro e1 wN ⟨A1,n1,c1,C1,m1,d1,rfl,-,-,-,-,hbel⟩;clear q1_4;replace HB:=hide (HB.out.trans (hbel.mono HB.out.size));replace R1:=hide (R1.out.on hbel);replace R2:=hide (R2.out.on hbel);replace R3:=hide (R3.out.on hbel);replace HU:=hide (HU.out.under hbel (by omega));replace HL:=hide (HL.out.under hbel (by omega));have hsz2:=hbel.size;have q1_4:wN.cell? ⟨w.heap.size,4,none⟩=some (.slice AU nU cU):=R1.out.cell 4;clear hbel)|(refine wpList_storeW rfl 65 (.tmp 4) (.tmp 7) rfl 13 nod_size (wN.heap.size) 65 rfl (nodC nod0 (.slice none 0 0) (.slice none 0 0)) (nodC x (.slice A1 n1 c1) (.slice C1 m1 d1)) rfl (RowL.new wN 65 (nodC nod0 (.slice none 0 0) (.slice none 0 0))) rfl rfl (nodC_one _ _ _ _ _ _ _) ?_;intro wS3 hr3 hg3 hs3;have hzb:=below_stored' hg3;clear q1_4;replace HB:=hide (HB.out.trans (hzb.mono HB.out.size));replace R1:=hide (R1.out.on hzb);replace R2:=hide (R2.out.on hzb);replace R3:=hide (R3.out.on hzb);replace HU:=hide (HU.out.under hzb (by omega));replace HL:=hide (HL.out.under hzb (by omega));have hsz4:=hzb.size;have q1_4:wS3.cell? ⟨w.heap.size,4,none⟩=some (.slice AU nU cU):=R1.out.cell 4;have RN:=hide hr3;have hlt3:=hr3.lt;have q4_0:wS3.cell? ⟨wN.heap.size,0,none⟩=some (.int .i64 x.k):=RN.out.cell 0;clear hzb hr3;clear hg3 hs3)|(refine wpList_loadW rfl 65 (.tmp 4) rfl 13 nod_agg nod_size (wN.heap.size) 65 rfl (nodC x (.slice A1 n1 c1) (.slice C1 m1 d1)) RN.out rfl ?_)|(go_at_call 101;refine (VOpq_b HOP.out hatt.1 hatt.2 wS3).mono ?_;rintro e5 wO ⟨rfl,hbel⟩;clear q1_4 q4_0;replace HB:=hide (HB.out.trans (hbel.mono HB.out.size));replace R1:=hide (R1.out.on hbel);replace R2:=hide (R2.out.on hbel);replace R3:=hide (R3.out.on hbel);replace HU:=hide (HU.out.under hbel (by omega));replace HL:=hide (HL.out.under hbel (by omega));replace RN:=hide (RN.out.on hbel);have hsz6:=hbel.size;have q1_4:wO.cell? ⟨w.heap.size,4,none⟩=some (.slice AU nU cU):=R1.out.cell 4;have q4_0:wO.cell? ⟨wN.heap.size,0,none⟩=some (.int .i64 x.k):=RN.out.cell 0;clear hbel)|(refine wpList_loadW rfl 29 (.tmp 1) rfl 6 stk_agg stk_size (w.heap.size) 29 rfl (stkC g (.slice AU nU cU) (.slice AL nL cL)) R1.out rfl ?_)|(go_at_call 102;refine (Roots_f wO (und_up HL.out (by omega)) HF.out).mono ?_;rintro e7 wR ⟨A6,c6,rfl,h6,hbel⟩;clear q1_4 q4_0;replace HB:=hide (HB.out.trans (hbel.mono HB.out.size));replace R1:=hide (R1.out.on hbel);replace R2:=hide (R2.out.on hbel);replace R3:=hide (R3.out.on hbel);replace HU:=hide (HU.out.under hbel (by omega));replace HL:=hide (HL.out.under hbel (by omega));replace RN:=hide (RN.out.on hbel);have hsz8:=hbel.size;have q1_4:wR.cell? ⟨w.heap.size,4,none⟩=some (.slice AU nU cU):=R1.out.cell 4;have q4_0:wR.cell? ⟨wN.heap.size,0,none⟩=some (.int .i64 x.k):=RN.out.cell 0;have H6:=hide h6;clear h6;clear hbel)|(refine wpList_storeV rfl 50 (.tmp 17) (.tmp 16) rfl plcs_size (w.heap.size+1+1) 1 80 rfl (.slice A6 (rootsL ls 0).length c6) rfl rfl rfl (viwC 0 (.slice none 0 0)) R3.out (by show 1 < 2;omega) ?_;intro wS9 hr9 hg9 hs9;replace hr9:RowL wS9 (w.heap.size+1+1) 80 [.int .i64 0,.slice A6 (rootsL ls 0).length c6]:=hr9;clear q1_4 q4_0;replace HB:=hide (HB.out.grown hg9 (by omega) (pu4 (by omega)));replace R1:=hide (R1.out.grown hg9 (pu5 (by omega)));replace R2:=hide (R2.out.grown hg9 (pu5 (by omega)));replace HU:=hide (und_grown HU.out hg9 (by omega) (by omega));replace HL:=hide (und_grown HL.out hg9 (by omega) (by omega));replace RN:=hide (RN.out.grown hg9 (pu5 (by omega)));replace H6:=hide (fr_grown H6.out hg9 (by omega));have hsz10:=hg9.size;replace R3:=hide hr9;have q1_4:wS9.cell? ⟨w.heap.size,4,none⟩=some (.slice AU nU cU):=R1.out.cell 4;have q4_0:wS9.cell? ⟨wN.heap.size,0,none⟩=some (.int .i64 x.k):=RN.out.cell 0;clear hr9 hg9 hs9)|(refine wpList_loadW rfl 80 (.tmp 3) rfl 2 viw_agg viw_size (w.heap.size+1+1) 80 rfl [.int .i64 0,.slice A6 (rootsL ls 0).length c6] R3.out rfl ?_)|(refine wpList_storeW rfl 80 (.tmp 2) (.tmp 18) rfl 2 viw_size (w.heap.size+1) 80 rfl (viwC 0 (.slice none 0 0)) (viwC 0 (.slice A6 (rootsL ls 0).length c6)) rfl R2.out rfl rfl (viwC_one _ _ _ _) ?_;intro wS11 hr11 hg11 hs11;clear q1_4 q4_0;replace HB:=hide (HB.out.grown hg11 (by omega) (pu4 (by omega)));replace R1:=hide (R1.out.grown hg11 (pu5 (by omega)));replace R3:=hide (R3.out.grown hg11 (pu5 (by omega)));replace HU:=hide (und_grown HU.out hg11 (by omega) (by omega));replace HL:=hide (und_grown HL.out hg11 (by omega) (by omega));replace RN:=hide (RN.out.grown hg11 (pu5 (by omega)));replace H6:=hide (fr_grown H6.out hg11 (by omega));have hsz12:=hg11.size;replace R2:=hide hr11;have q1_4:wS11.cell? ⟨w.heap.size,4,none⟩=some (.slice AU nU cU):=R1.out.cell 4;have q4_0:wS11.cell? ⟨wN.heap.size,0,none⟩=some (.int .i64 x.k):=RN.out.cell 0;clear hr11 hg11 hs11))
  exact bodyPost_ret (res_cell Tryz.results70 rfl viw_agg viw_size R2.out rfl) rfl ⟨A6,c6,by rw [HV.out],by rw [HV.out];exact fr_low H6.out (by omega),HB.out⟩
theorem VRoot_e {g:GeoQ} {AU AL:Option Addr} {nU cU nL cL B:Nat} {up:List NodV} {ls:List (List NodV)} {V:ViewV} (hV:rootV up ls=V) (w:World) (hu:RdE nodEn w (Under B) AU nU up) (h:RdE layEn w (Under B) AL nL ls) (hB:B≤w.heap.size) (hF:FewL ls) (hup:FewX up):Calls Tryz.prog 70 #[.agg (stkC g (.slice AU nU cU) (.slice AL nL cL)).toArray] w (ViewF w.heap.size w V):=by rw [←hV];exact VRoot_any w hu h hB hF hup
end Go.Proofs.YtggnbflbbfdohaaGreat

namespace Go.Proofs.YtggnbflbbfdohaaGreat
open Go.RowKit Go.Shelf Plain

def viewEn : Enc ViewV where
 k:=2
 R:=fun w D cs v=>∃A c,cs=viwC v.1 (.slice A v.2.length c)∧RdE prEn w D A v.2.length v.2
 len:=fun ⟨_,_,h,_⟩=>by rw [h];rfl
 one:=fun ⟨_,_,h,_⟩ v hv=>by rw [h] at hv;exact viwC_one _ _ _ _ v hv
 mono:=fun ⟨A,c,h,hr⟩ hk hD=>⟨A,c,h,hr.mono hk hD⟩
def zviw:Value:=.agg #[.int .i64 0,.slice none 0 0]
set_option maxRecDepth 100000 in
theorem viw_info:(Tryz.prog.info? 80).map (fun i=>(i.zero,i.size,i.bytes))=some (some zviw,2,32):=by kernel_rfl
theorem lit_viw (u:Int) (A:Option Addr) (n c:Nat) (W:World):(Instr.buildSlice 113 1 #[(0,.agg (viwC u (.slice A n c)).toArray)]).run Tryz.prog W=.ok (.slice (some ⟨W.heap.size,0,none⟩) 1 1) (W.alloc (.cells (viwC u (.slice A n c)).toArray 80)):=by
 obtain ⟨it,hi,hz,hsz,-⟩:=info_parts viw_info
 refine run_buildSlice W _ 80 1 _ _ it zviw Tryz.underlying113 hi hz (by omega) (by omega) ?_
 rw [hsz]
 have:=Great.fill_whole (s:=2) (by omega) [.agg (viwC u (.slice A n c)).toArray] ((Array.range (1*2)).map (zviw.cells[· % zviw.cells.size]!)) (by intro v hv;rw [List.mem_singleton] at hv;subst hv;simp [Value.cells,viwC]) (by simp)
 simpa [Value.cells] using this
theorem viw_lit1 (W:World) (v:ViewV) {A:Option Addr} {c lo:Nat} (h:RdE prEn W (fun b=>lo≤b∧b < W.heap.size) A v.2.length v.2) (hlo:lo≤W.heap.size):RdE viewEn (W.alloc (.cells (viwC v.1 (.slice A v.2.length c)).toArray 80)) (fun b=>lo≤b∧b < (W.alloc (.cells (viwC v.1 (.slice A v.2.length c)).toArray 80)).heap.size) (some ⟨W.heap.size,0,none⟩) 1 [v]:=by
 refine ⟨rfl,fun _=>⟨_,_,rfl,⟨hlo,by simp⟩,fun i y hy=>⟨viwC v.1 (.slice A v.2.length c),?_,fun j x hx=>?_⟩⟩⟩
 ·have hi:i=0:=by have:=(List.getElem?_eq_some_iff.1 hy).1;simpa using this
  subst hi
  obtain rfl:v=y:=by simpa using hy
  exact ⟨A,c,rfl,fr_on h (below_new (below_self W) _)⟩
 ·have hi:i=0:=by have:=(List.getElem?_eq_some_iff.1 hy).1;simpa using this
  subst hi
  rw [Nat.zero_mul,Nat.zero_add,Nat.zero_add,(RowL.new W 80 (viwC v.1 (.slice A v.2.length c))).cell]
  exact hx
end Go.Proofs.YtggnbflbbfdohaaGreat

namespace Go.Proofs.YtggnbflbbfdohaaGreat
open Go.RowKit Go.Shelf Plain

section
variable {gS gL : Nat} {p : List UInt8 → Bool} {B0 : Nat}
end
def CtxV (g:GeoQ) (AU AL AV:Option Addr) (nU cU nL cL nV cV B gS:Nat) (u:Int) (up:List NodV) (ls:List (List NodV)) (vl:List (Int×Int)) (W:World):Prop:=RowL W gS 165 (vwdC g (.slice AU nU cU) (.slice AL nL cL) u (.slice AV nV cV))∧RdE nodEn W (Under B) AU nU up∧RdE layEn W (Under B) AL nL ls∧RdE prEn W (Under B) AV nV vl∧B≤W.heap.size
theorem CtxV.kept {g:GeoQ} {AU AL AV:Option Addr} {nU cU nL cL nV cV B B0 gS:Nat} {u:Int} {up:List NodV} {ls:List (List NodV)} {vl:List (Int×Int)} {W W':World} (h:CtxV g AU AL AV nU cU nL cL nV cV B gS u up ls vl W) (hk:Kept (Under B0) W W') (hS:gS < B0) (hB:B≤B0) (hs:W.heap.size≤W'.heap.size):CtxV g AU AL AV nU cU nL cL nV cV B gS u up ls vl W' :=
 ⟨(hk gS hS).trans h.1,h.2.1.mono (fun b hb=>hk b (Nat.lt_of_lt_of_le hb hB)) (fun _ h=>h),h.2.2.1.mono (fun b hb=>hk b (Nat.lt_of_lt_of_le hb hB)) (fun _ h=>h),h.2.2.2.1.mono (fun b hb=>hk b (Nat.lt_of_lt_of_le hb hB)) (fun _ h=>h),Nat.le_trans h.2.2.2.2 hs⟩
end Go.Proofs.YtggnbflbbfdohaaGreat

namespace Go.Proofs.YtggnbflbbfdohaaGreat
open Go.RowKit Go.Shelf Plain

set_option maxHeartbeats 800000 in
theorem rhas2_b {h:Int} {r:Bool} (h0:0≤h) (h1:h≤31) (hr:decide (h / 2 % 2=1)=r) (w:World):Calls Tryz.prog 62 #[.int .i64 h,.int .i64 2] w fun e w'=>e=.returned (.bool r)∧w=w':=by
 obtain ⟨k,hk⟩:∃k,h / 2=k:=⟨_,rfl⟩
 have hk0:0≤k:=by omega
 have hk1:k≤31:=by omega
 have ht:Int.tdiv h 2=k:=by rw [Int.tdiv_eq_ediv_of_nonneg h0,hk]
 have hw1:IntKind.i64.wrap k=k:=IntWalk.i64_in _ (by omega)
 have ht2:Int.tmod k 2=k % 2:=Int.tmod_eq_emod_of_nonneg hk0
 have hw2:IntKind.i64.wrap (k % 2)=k % 2:=IntWalk.i64_in _ (by omega)
 have hv:(k % 2==1)=r:=by
  rw [←hr,hk,Bool.eq_iff_iff]
  simp
 clear hr hk
 go_enter Tryz.func62,Tryz.ntmps62
 go_wp2
 go_ret
 exact ⟨by first|rfl|(rw [←hv])|(simp [hv])|(rw [←hv];simp),rfl⟩
set_option maxRecDepth 100000 in
set_option maxHeartbeats 1600000 in
theorem RHas2_b {a:AttV} {r:Bool} (h0:0≤a.h) (h1:a.h≤31) (hr:decide (a.h / 2 % 2=1)=r) (w:World):Calls Tryz.prog 27 #[.agg (attC a).toArray,.int .i64 2] w (BoolB w r):=by
 have r0:=RowL.new w 63 (attC a)
 have hb1:=below_new (below_self w) (.cells (attC a).toArray 63)
 obtain ⟨W1,hW1⟩:∃W1,w.alloc (.cells (attC a).toArray 63)=W1:=⟨_,rfl⟩
 rw [hW1] at r0 hb1
 have hW1':w.alloc (.cells #[.int .i64 a.h,.int .i64 a.o,.string ⟨a.r.toArray⟩,.int .i64 a.l,.int .i64 a.i,.int .i64 a.g,.int .i64 a.s] 63)=W1:=hW1
 have q0:W1.cell? ⟨w.heap.size,0,none⟩=some (.int .i64 a.h):=r0.cell 0
 have HB1:=hide hb1
 have HR:=hide hr
 have d0:decide (0≤a.h)=true:=decide_eq_true h0
 unfold attC
 clear r0 hb1 hW1 hr
 go_enter Tryz.func27,Tryz.ntmps27
 go_wp2_with (go_at_call 62;refine (rhas2_b h0 h1 HR.out _).mono ?_;rintro e w' ⟨rfl,rfl⟩)
 go_ret
 exact BoolB.of HB1.out
end Go.Proofs.YtggnbflbbfdohaaGreat

namespace Go.Proofs.YtggnbflbbfdohaaGreat
open Go.RowKit Go.Shelf Plain

theorem hcell {w w':World} {b o:Nat} {cs:List Value} (h:∀k x,cs[k]?=some x→w.cell? ⟨b,o+k,none⟩=some x) {B:Nat} (hb:Below B w w') (hlt:b < B):∀k x,cs[k]?=some x→w'.cell? ⟨b,o+k,none⟩=some x:=fun k x hx=>(hb.cell (p:=⟨b,o+k,none⟩) hlt).trans (h k x hx)
theorem view_get {w:World} {D:Nat→Prop} {A:Option Addr} {n j:Nat} {l:List ViewV} {v:ViewV} (h:RdE viewEn w D A n l) (hv:l[j]?=some v):∃b o A2 c2,A=some ⟨b,o,none⟩∧D b∧(∀k x,(viwC v.1 (.slice A2 v.2.length c2))[k]?=some x→w.cell? ⟨b,o+j*2+k,none⟩=some x)∧RdE prEn w D A2 v.2.length v.2:=by
 have hj:j < l.length:=(List.getElem?_eq_some_iff.1 hv).1
 obtain ⟨b,o,e,hD,hc⟩:=h.2 (by have:=h.1;omega)
 obtain ⟨cs,⟨A2,c2,rfl,hr⟩,hcs⟩:=hc j v hv
 exact ⟨b,o,A2,c2,e,hD,fun k x hx=>by have h1:=hcs k x hx;rw [show viewEn.k=2 from rfl,←Nat.add_assoc] at h1;exact h1,hr⟩
end Go.Proofs.YtggnbflbbfdohaaGreat

