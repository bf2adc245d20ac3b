import Derived.Test.YthdoimgbbabcaaaGreatWt23
import Derived.Test.YthdoimgbbabcaaaGreatWt24
import Derived.Test.YthdoimgbbabcaaaGreatWt28
import Derived.Test.YthdoimgbbabcaaaGreatWt11
import Derived.Test.YthdoimgbbabcaaaGreatWt13
import Derived.Test.YthdoimgbbabcaaaGreatWt4
import Derived.Test.YthdoimgbbabcaaaGreatWt20
import Derived.Test.YthdoimgbbabcaaaGreatWt21
import Derived.Test.YthdoimgbbabcaaaGreatWt5

namespace Go.Proofs.YthdoimgbbabcaaaGreat
open Go.RowKit Go.Shelf Plain

def TwoS (Wx:World) (base r5 t5 k5 r6 t6 k6:Nat) (W:World):Prop:=(∀b,b < Wx.heap.size→b≠r5→b≠r6→W.heap[b]?=Wx.heap[b]?)∧(∃cu,RowL W r5 t5 cu∧cu.length=k5)∧(∃cu,RowL W r6 t6 cu∧cu.length=k6)∧Below base Wx W
theorem TwoS.start {Wx:World} {base r5 t5 k5 r6 t6 k6:Nat} {c5 c6:List Value} (h5:RowL Wx r5 t5 c5) (l5:c5.length=k5) (h6:RowL Wx r6 t6 c6) (l6:c6.length=k6):TwoS Wx base r5 t5 k5 r6 t6 k6 Wx.drew :=
 ⟨fun _ _ _ _=>rfl,⟨c5,h5,l5⟩,⟨c6,h6,l6⟩,⟨rfl,rfl,rfl,Nat.le_refl _,fun _ _=>rfl⟩⟩
theorem TwoS.on {Wx W W':World} {base r5 t5 k5 r6 t6 k6:Nat} (h:TwoS Wx base r5 t5 k5 r6 t6 k6 W) (hb:Below W.heap.size W W') (hbx:base≤Wx.heap.size):TwoS Wx base r5 t5 k5 r6 t6 k6 W':=by
 obtain ⟨p1,⟨c5,p2,l5⟩,⟨c6,p3,l6⟩,p4⟩:=h
 exact ⟨fun b h0 h1 h2=>(hb.block b (Nat.lt_of_lt_of_le h0 p4.size)).trans (p1 b h0 h1 h2),⟨c5,p2.on hb,l5⟩,⟨c6,p3.on hb,l6⟩,p4.trans (hb.mono (Nat.le_trans hbx p4.size))⟩
theorem TwoS.row {Wx W:World} {base r5 t5 k5 r6 t6 k6 g t:Nat} {cs:List Value} (h:TwoS Wx base r5 t5 k5 r6 t6 k6 W) (hr:RowL Wx g t cs) (h5:g≠r5) (h6:g≠r6):RowL W g t cs:=(h.1 g hr.lt h5 h6).trans hr
section
variable {P : Program} {T T' k k' : Nat}
end
end Go.Proofs.YthdoimgbbabcaaaGreat

namespace Go.Proofs.YthdoimgbbabcaaaGreat
open Go.RowKit Go.Shelf Plain

set_option maxRecDepth 100000 in
theorem plcs_size:∀w,(Go.sizeOf 45).run Tryz.prog w=.ok 1 w:=fun w=>by kernel_rfl
set_option maxRecDepth 100000 in
set_option maxHeartbeats 4000000 in
theorem VRoot_any {g:GeoQ} {AU AL:Option Addr} {nU cU nL cL B:Nat} {up:List NodV} {ls:List (List NodV)} (w:World) (hu:RdE nodEn w (Under B) AU nU up) (h:RdE layEn w (Under B) AL nL ls) (hB:B≤w.heap.size) (hF:FewL ls) (hup:FewU up):Calls Tryz.prog 17 #[.agg (stkC g (.slice AU nU cU) (.slice AL nL cL)).toArray] w (ViewF w.heap.size w (rootV up ls)):=by
 obtain ⟨W1,hW1⟩:∃W1,(((w.alloc (.cells (stkC g (.slice AU nU cU) (.slice AL nL cL)).toArray 29)).alloc (.cells (viwC 0 (.slice none 0 0)).toArray 47)).alloc (.cells (viwC 0 (.slice none 0 0)).toArray 47))=W1:=⟨_,rfl⟩
 obtain ⟨r0,r1,r2,hb1,hs1⟩:=rowA3 w _ _ _ _ _ _ hW1
 have hW1':(((w.alloc (.cells #[.int .i64 g.a,.int .i64 g.b,.int .i64 g.c,.int .i64 g.d,.slice AU nU cU,.slice AL nL cL] 29)).alloc (.cells #[.int .i64 0,.slice none 0 0] 47)).alloc (.cells #[.int .i64 0,.slice none 0 0] 47))=W1:=hW1
 have R1:=hide r0
 have R2:=hide r1
 have R3:=hide r2
 have HB:=hide hb1
 have hsz0:=hb1.size
 have HU:=hide (hu.under hb1 hB)
 have HL:=hide (h.under hb1 hB)
 have HF:=hide hF
 have HFU:=hide hup
 obtain ⟨x,hx⟩:∃x,nodAt up 1=x:=⟨_,rfl⟩
 have HX:=hide hx
 obtain ⟨V,hV⟩:∃V,rootV up ls=V:=⟨_,rfl⟩
 rw [hV]
 have hatt:0≤x.att.h∧x.att.h≤31:=by rw [←hx];exact (nodAt_plain hup.2 1).2.2.1
 obtain ⟨bo,hbo⟩:∃bo,opqD x=bo:=⟨_,rfl⟩
 have HOP:=hide hbo
 have q1_4:W1.cell? ⟨w.heap.size,4,none⟩=some (.slice AU nU cU):=R1.out.cell 4
 unfold rootV at hV
 rw [hx,hbo] at hV
 unfold stkC
 by_cases hk:x.k=1
 ·rw [if_pos hk] at hV
  have hk1:(x.k==1)=true:=by simpa using hk
  have hk2:(x.k != 1)=false:=by simpa using hk
  cases bo
  ·have HV:=hide (show V=(1,rootsL ls 0) from by simpa using hV.symm)
   clear r0 r1 r2 hb1 hW1 hu h hup hF hV hx hbo hk
   go_enter Tryz.func17,Tryz.ntmps17
   go_wp2_with (first|(go_at_call 66;refine (Of_e HX.out W1 HU.out (by omega) (by have:=HFU.out.1;omega)).mono ?_;rintro e1 wN ⟨A1,n1,c1,C1,m1,d1,rfl,-,-,-,-,hbel⟩;clear q1_4;replace HB:=hide (HB.out.trans (hbel.mono HB.out.size));replace R1:=hide (R1.out.on hbel);replace R2:=hide (R2.out.on hbel);replace R3:=hide (R3.out.on hbel);replace HU:=hide (HU.out.under hbel (by omega));replace HL:=hide (HL.out.under hbel (by omega));have hsz2:=hbel.size;have q1_4:wN.cell? ⟨w.heap.size,4,none⟩=some (.slice AU nU cU):=R1.out.cell 4;clear hbel)|(refine wpList_storeW rfl 38 (.tmp 4) (.tmp 7) rfl 13 nod_size (wN.heap.size) 38 rfl (nodC nod0 (.slice none 0 0) (.slice none 0 0)) (nodC x (.slice A1 n1 c1) (.slice C1 m1 d1)) rfl (RowL.new wN 38 (nodC nod0 (.slice none 0 0) (.slice none 0 0))) rfl rfl (nodC_one _ _ _ _ _ _ _) ?_;intro wS3 hr3 hg3 hs3;have hzb:=below_stored' hg3;clear q1_4;replace HB:=hide (HB.out.trans (hzb.mono HB.out.size));replace R1:=hide (R1.out.on hzb);replace R2:=hide (R2.out.on hzb);replace R3:=hide (R3.out.on hzb);replace HU:=hide (HU.out.under hzb (by omega));replace HL:=hide (HL.out.under hzb (by omega));have hsz4:=hzb.size;have q1_4:wS3.cell? ⟨w.heap.size,4,none⟩=some (.slice AU nU cU):=R1.out.cell 4;have RN:=hide hr3;have hlt3:=hr3.lt;have q4_0:wS3.cell? ⟨wN.heap.size,0,none⟩=some (.int .i64 x.k):=RN.out.cell 0;clear hzb hr3;clear hg3 hs3)|(refine wpList_storeV rfl 3 (.tmp 11) (Operand.const (Value.int IntKind.i64 1)) rfl int_size (w.heap.size+1+1) 0 47 rfl (.int .i64 1) rfl rfl rfl (viwC 0 (.slice none 0 0)) R3.out (by show 0 < 2;omega) ?_;intro wS5 hr5 hg5 hs5;replace hr5:RowL wS5 (w.heap.size+1+1) 47 [.int .i64 1,.slice none 0 0]:=hr5;clear q1_4 q4_0;replace HB:=hide (HB.out.grown hg5 (by omega) (pu4 (by omega)));replace R1:=hide (R1.out.grown hg5 (pu5 (by omega)));replace R2:=hide (R2.out.grown hg5 (pu5 (by omega)));replace HU:=hide (und_grown HU.out hg5 (by omega) (by omega));replace HL:=hide (und_grown HL.out hg5 (by omega) (by omega));replace RN:=hide (RN.out.grown hg5 (pu5 (by omega)));have hsz6:=hg5.size;replace R3:=hide hr5;have q1_4:wS5.cell? ⟨w.heap.size,4,none⟩=some (.slice AU nU cU):=R1.out.cell 4;have q4_0:wS5.cell? ⟨wN.heap.size,0,none⟩=some (.int .i64 x.k):=RN.out.cell 0;clear hr5 hg5 hs5)|(refine wpList_loadW rfl 38 (.tmp 4) rfl 13 nod_agg nod_size (wN.heap.size) 38 rfl (nodC x (.slice A1 n1 c1) (.slice C1 m1 d1)) RN.out rfl ?_)|(go_at_call 67;refine (VOpq_b HOP.out hatt.1 hatt.2 wS5).mono ?_;rintro e7 wO ⟨rfl,hbel⟩;clear q1_4 q4_0;replace HB:=hide (HB.out.trans (hbel.mono HB.out.size));replace R1:=hide (R1.out.on hbel);replace R2:=hide (R2.out.on hbel);replace R3:=hide (R3.out.on hbel);replace HU:=hide (HU.out.under hbel (by omega));replace HL:=hide (HL.out.under hbel (by omega));replace RN:=hide (RN.out.on hbel);have hsz8:=hbel.size;have q1_4:wO.cell? ⟨w.heap.size,4,none⟩=some (.slice AU nU cU):=R1.out.cell 4;have q4_0:wO.cell? ⟨wN.heap.size,0,none⟩=some (.int .i64 x.k):=RN.out.cell 0;clear hbel)|(refine wpList_loadW rfl 29 (.tmp 1) rfl 6 stk_agg stk_size (w.heap.size) 29 rfl (stkC g (.slice AU nU cU) (.slice AL nL cL)) R1.out rfl ?_)|(go_at_call 68;refine (Roots_f wO (und_up HL.out (by omega)) HF.out).mono ?_;rintro e9 wR ⟨A6,c6,rfl,h6,hbel⟩;clear q1_4 q4_0;replace HB:=hide (HB.out.trans (hbel.mono HB.out.size));replace R1:=hide (R1.out.on hbel);replace R2:=hide (R2.out.on hbel);replace R3:=hide (R3.out.on hbel);replace HU:=hide (HU.out.under hbel (by omega));replace HL:=hide (HL.out.under hbel (by omega));replace RN:=hide (RN.out.on hbel);have hsz10:=hbel.size;have q1_4:wR.cell? ⟨w.heap.size,4,none⟩=some (.slice AU nU cU):=R1.out.cell 4;have q4_0:wR.cell? ⟨wN.heap.size,0,none⟩=some (.int .i64 x.k):=RN.out.cell 0;have H6:=hide h6;clear h6;clear hbel)|(refine wpList_storeV rfl 45 (.tmp 17) (.tmp 16) rfl plcs_size (w.heap.size+1+1) 1 47 rfl (.slice A6 (rootsL ls 0).length c6) rfl rfl rfl [.int .i64 1,.slice none 0 0] R3.out (by show 1 < 2;omega) ?_;intro wS11 hr11 hg11 hs11;replace hr11:RowL wS11 (w.heap.size+1+1) 47 [.int .i64 1,.slice A6 (rootsL ls 0).length c6]:=hr11;clear q1_4 q4_0;replace HB:=hide (HB.out.grown hg11 (by omega) (pu4 (by omega)));replace R1:=hide (R1.out.grown hg11 (pu5 (by omega)));replace R2:=hide (R2.out.grown hg11 (pu5 (by omega)));replace HU:=hide (und_grown HU.out hg11 (by omega) (by omega));replace HL:=hide (und_grown HL.out hg11 (by omega) (by omega));replace RN:=hide (RN.out.grown hg11 (pu5 (by omega)));replace H6:=hide (fr_grown H6.out hg11 (by omega));have hsz12:=hg11.size;replace R3:=hide hr11;have q1_4:wS11.cell? ⟨w.heap.size,4,none⟩=some (.slice AU nU cU):=R1.out.cell 4;have q4_0:wS11.cell? ⟨wN.heap.size,0,none⟩=some (.int .i64 x.k):=RN.out.cell 0;clear hr11 hg11 hs11)|(refine wpList_loadW rfl 47 (.tmp 3) rfl 2 viw_agg viw_size (w.heap.size+1+1) 47 rfl [.int .i64 1,.slice A6 (rootsL ls 0).length c6] R3.out rfl ?_)|(refine wpList_storeW rfl 47 (.tmp 2) (.tmp 18) rfl 2 viw_size (w.heap.size+1) 47 rfl (viwC 0 (.slice none 0 0)) (viwC 1 (.slice A6 (rootsL ls 0).length c6)) rfl R2.out rfl rfl (viwC_one _ _ _ _) ?_;intro wS13 hr13 hg13 hs13;clear q1_4 q4_0;replace HB:=hide (HB.out.grown hg13 (by omega) (pu4 (by omega)));replace R1:=hide (R1.out.grown hg13 (pu5 (by omega)));replace R3:=hide (R3.out.grown hg13 (pu5 (by omega)));replace HU:=hide (und_grown HU.out hg13 (by omega) (by omega));replace HL:=hide (und_grown HL.out hg13 (by omega) (by omega));replace RN:=hide (RN.out.grown hg13 (pu5 (by omega)));replace H6:=hide (fr_grown H6.out hg13 (by omega));have hsz14:=hg13.size;replace R2:=hide hr13;have q1_4:wS13.cell? ⟨w.heap.size,4,none⟩=some (.slice AU nU cU):=R1.out.cell 4;have q4_0:wS13.cell? ⟨wN.heap.size,0,none⟩=some (.int .i64 x.k):=RN.out.cell 0;clear hr13 hg13 hs13))
   exact bodyPost_ret (res_cell Tryz.results17 rfl viw_agg viw_size R2.out rfl) rfl ⟨A6,c6,by rw [HV.out],by rw [HV.out];exact fr_low H6.out (by omega),HB.out⟩
  ·have HV:=hide (show V=(1,[]) from by simpa using hV.symm)
   clear r0 r1 r2 hb1 hW1 hu h hup hF hV hx hbo hk
   go_enter Tryz.func17,Tryz.ntmps17
   go_wp2_with (first|(go_at_call 66;refine (Of_e HX.out W1 HU.out (by omega) (by have:=HFU.out.1;omega)).mono ?_;rintro e1 wN ⟨A1,n1,c1,C1,m1,d1,rfl,-,-,-,-,hbel⟩;clear q1_4;replace HB:=hide (HB.out.trans (hbel.mono HB.out.size));replace R1:=hide (R1.out.on hbel);replace R2:=hide (R2.out.on hbel);replace R3:=hide (R3.out.on hbel);replace HU:=hide (HU.out.under hbel (by omega));replace HL:=hide (HL.out.under hbel (by omega));have hsz2:=hbel.size;have q1_4:wN.cell? ⟨w.heap.size,4,none⟩=some (.slice AU nU cU):=R1.out.cell 4;clear hbel)|(refine wpList_storeW rfl 38 (.tmp 4) (.tmp 7) rfl 13 nod_size (wN.heap.size) 38 rfl (nodC nod0 (.slice none 0 0) (.slice none 0 0)) (nodC x (.slice A1 n1 c1) (.slice C1 m1 d1)) rfl (RowL.new wN 38 (nodC nod0 (.slice none 0 0) (.slice none 0 0))) rfl rfl (nodC_one _ _ _ _ _ _ _) ?_;intro wS3 hr3 hg3 hs3;have hzb:=below_stored' hg3;clear q1_4;replace HB:=hide (HB.out.trans (hzb.mono HB.out.size));replace R1:=hide (R1.out.on hzb);replace R2:=hide (R2.out.on hzb);replace R3:=hide (R3.out.on hzb);replace HU:=hide (HU.out.under hzb (by omega));replace HL:=hide (HL.out.under hzb (by omega));have hsz4:=hzb.size;have q1_4:wS3.cell? ⟨w.heap.size,4,none⟩=some (.slice AU nU cU):=R1.out.cell 4;have RN:=hide hr3;have hlt3:=hr3.lt;have q4_0:wS3.cell? ⟨wN.heap.size,0,none⟩=some (.int .i64 x.k):=RN.out.cell 0;clear hzb hr3;clear hg3 hs3)|(refine wpList_storeV rfl 3 (.tmp 11) (Operand.const (Value.int IntKind.i64 1)) rfl int_size (w.heap.size+1+1) 0 47 rfl (.int .i64 1) rfl rfl rfl (viwC 0 (.slice none 0 0)) R3.out (by show 0 < 2;omega) ?_;intro wS5 hr5 hg5 hs5;replace hr5:RowL wS5 (w.heap.size+1+1) 47 [.int .i64 1,.slice none 0 0]:=hr5;clear q1_4 q4_0;replace HB:=hide (HB.out.grown hg5 (by omega) (pu4 (by omega)));replace R1:=hide (R1.out.grown hg5 (pu5 (by omega)));replace R2:=hide (R2.out.grown hg5 (pu5 (by omega)));replace HU:=hide (und_grown HU.out hg5 (by omega) (by omega));replace HL:=hide (und_grown HL.out hg5 (by omega) (by omega));replace RN:=hide (RN.out.grown hg5 (pu5 (by omega)));have hsz6:=hg5.size;replace R3:=hide hr5;have q1_4:wS5.cell? ⟨w.heap.size,4,none⟩=some (.slice AU nU cU):=R1.out.cell 4;have q4_0:wS5.cell? ⟨wN.heap.size,0,none⟩=some (.int .i64 x.k):=RN.out.cell 0;clear hr5 hg5 hs5)|(refine wpList_loadW rfl 38 (.tmp 4) rfl 13 nod_agg nod_size (wN.heap.size) 38 rfl (nodC x (.slice A1 n1 c1) (.slice C1 m1 d1)) RN.out rfl ?_)|(go_at_call 67;refine (VOpq_b HOP.out hatt.1 hatt.2 wS5).mono ?_;rintro e7 wO ⟨rfl,hbel⟩;clear q1_4 q4_0;replace HB:=hide (HB.out.trans (hbel.mono HB.out.size));replace R1:=hide (R1.out.on hbel);replace R2:=hide (R2.out.on hbel);replace R3:=hide (R3.out.on hbel);replace HU:=hide (HU.out.under hbel (by omega));replace HL:=hide (HL.out.under hbel (by omega));replace RN:=hide (RN.out.on hbel);have hsz8:=hbel.size;have q1_4:wO.cell? ⟨w.heap.size,4,none⟩=some (.slice AU nU cU):=R1.out.cell 4;have q4_0:wO.cell? ⟨wN.heap.size,0,none⟩=some (.int .i64 x.k):=RN.out.cell 0;clear hbel)|(refine wpList_loadW rfl 47 (.tmp 3) rfl 2 viw_agg viw_size (w.heap.size+1+1) 47 rfl [.int .i64 1,.slice none 0 0] R3.out rfl ?_)|(refine wpList_storeW rfl 47 (.tmp 2) (.tmp 18) rfl 2 viw_size (w.heap.size+1) 47 rfl (viwC 0 (.slice none 0 0)) (viwC 1 (.slice none 0 0)) rfl R2.out rfl rfl (viwC_one _ _ _ _) ?_;intro wS9 hr9 hg9 hs9;clear q1_4 q4_0;replace HB:=hide (HB.out.grown hg9 (by omega) (pu4 (by omega)));replace R1:=hide (R1.out.grown hg9 (pu5 (by omega)));replace R3:=hide (R3.out.grown hg9 (pu5 (by omega)));replace HU:=hide (und_grown HU.out hg9 (by omega) (by omega));replace HL:=hide (und_grown HL.out hg9 (by omega) (by omega));replace RN:=hide (RN.out.grown hg9 (pu5 (by omega)));have hsz10:=hg9.size;replace R2:=hide hr9;have q1_4:wS9.cell? ⟨w.heap.size,4,none⟩=some (.slice AU nU cU):=R1.out.cell 4;have q4_0:wS9.cell? ⟨wN.heap.size,0,none⟩=some (.int .i64 x.k):=RN.out.cell 0;clear hr9 hg9 hs9))
   exact bodyPost_ret (res_cell Tryz.results17 rfl viw_agg viw_size R2.out rfl) rfl ⟨none,0,by rw [HV.out];rfl,by rw [HV.out];exact RdE.none_ _ _ _ _,HB.out⟩
 ·rw [if_neg hk] at hV
  have hk1:(x.k==1)=false:=by simpa using hk
  have hk2:(x.k != 1)=true:=by simpa using hk
  have hbf:bo=false:=by rw [←hbo];unfold opqD;simp [hk]
  subst hbf
  have HV:=hide (show V=(0,rootsL ls 0) from by simpa using hV.symm)
  clear r0 r1 r2 hb1 hW1 hu h hup hF hV hx hbo hk
  go_enter Tryz.func17,Tryz.ntmps17
  go_wp2_with (first|(go_at_call 66;refine (Of_e HX.out W1 HU.out (by omega) (by have:=HFU.out.1;omega)).mono ?_;rintro e1 wN ⟨A1,n1,c1,C1,m1,d1,rfl,-,-,-,-,hbel⟩;clear q1_4;replace HB:=hide (HB.out.trans (hbel.mono HB.out.size));replace R1:=hide (R1.out.on hbel);replace R2:=hide (R2.out.on hbel);replace R3:=hide (R3.out.on hbel);replace HU:=hide (HU.out.under hbel (by omega));replace HL:=hide (HL.out.under hbel (by omega));have hsz2:=hbel.size;have q1_4:wN.cell? ⟨w.heap.size,4,none⟩=some (.slice AU nU cU):=R1.out.cell 4;clear hbel)|(refine wpList_storeW rfl 38 (.tmp 4) (.tmp 7) rfl 13 nod_size (wN.heap.size) 38 rfl (nodC nod0 (.slice none 0 0) (.slice none 0 0)) (nodC x (.slice A1 n1 c1) (.slice C1 m1 d1)) rfl (RowL.new wN 38 (nodC nod0 (.slice none 0 0) (.slice none 0 0))) rfl rfl (nodC_one _ _ _ _ _ _ _) ?_;intro wS3 hr3 hg3 hs3;have hzb:=below_stored' hg3;clear q1_4;replace HB:=hide (HB.out.trans (hzb.mono HB.out.size));replace R1:=hide (R1.out.on hzb);replace R2:=hide (R2.out.on hzb);replace R3:=hide (R3.out.on hzb);replace HU:=hide (HU.out.under hzb (by omega));replace HL:=hide (HL.out.under hzb (by omega));have hsz4:=hzb.size;have q1_4:wS3.cell? ⟨w.heap.size,4,none⟩=some (.slice AU nU cU):=R1.out.cell 4;have RN:=hide hr3;have hlt3:=hr3.lt;have q4_0:wS3.cell? ⟨wN.heap.size,0,none⟩=some (.int .i64 x.k):=RN.out.cell 0;clear hzb hr3;clear hg3 hs3)|(refine wpList_loadW rfl 38 (.tmp 4) rfl 13 nod_agg nod_size (wN.heap.size) 38 rfl (nodC x (.slice A1 n1 c1) (.slice C1 m1 d1)) RN.out rfl ?_)|(go_at_call 67;refine (VOpq_b HOP.out hatt.1 hatt.2 wS3).mono ?_;rintro e5 wO ⟨rfl,hbel⟩;clear q1_4 q4_0;replace HB:=hide (HB.out.trans (hbel.mono HB.out.size));replace R1:=hide (R1.out.on hbel);replace R2:=hide (R2.out.on hbel);replace R3:=hide (R3.out.on hbel);replace HU:=hide (HU.out.under hbel (by omega));replace HL:=hide (HL.out.under hbel (by omega));replace RN:=hide (RN.out.on hbel);have hsz6:=hbel.size;have q1_4:wO.cell? ⟨w.heap.size,4,none⟩=some (.slice AU nU cU):=R1.out.cell 4;have q4_0:wO.cell? ⟨wN.heap.size,0,none⟩=some (.int .i64 x.k):=RN.out.cell 0;clear hbel)|(refine wpList_loadW rfl 29 (.tmp 1) rfl 6 stk_agg stk_size (w.heap.size) 29 rfl (stkC g (.slice AU nU cU) (.slice AL nL cL)) R1.out rfl ?_)|(go_at_call 68;refine (Roots_f wO (und_up HL.out (by omega)) HF.out).mono ?_;rintro e7 wR ⟨A6,c6,rfl,h6,hbel⟩;clear q1_4 q4_0;replace HB:=hide (HB.out.trans (hbel.mono HB.out.size));replace R1:=hide (R1.out.on hbel);replace R2:=hide (R2.out.on hbel);replace R3:=hide (R3.out.on hbel);replace HU:=hide (HU.out.under hbel (by omega));replace HL:=hide (HL.out.under hbel (by omega));replace RN:=hide (RN.out.on hbel);have hsz8:=hbel.size;have q1_4:wR.cell? ⟨w.heap.size,4,none⟩=some (.slice AU nU cU):=R1.out.cell 4;have q4_0:wR.cell? ⟨wN.heap.size,0,none⟩=some (.int .i64 x.k):=RN.out.cell 0;have H6:=hide h6;clear h6;clear hbel)|(refine wpList_storeV rfl 45 (.tmp 17) (.tmp 16) rfl plcs_size (w.heap.size+1+1) 1 47 rfl (.slice A6 (rootsL ls 0).length c6) rfl rfl rfl (viwC 0 (.slice none 0 0)) R3.out (by show 1 < 2;omega) ?_;intro wS9 hr9 hg9 hs9;replace hr9:RowL wS9 (w.heap.size+1+1) 47 [.int .i64 0,.slice A6 (rootsL ls 0).length c6]:=hr9;clear q1_4 q4_0;replace HB:=hide (HB.out.grown hg9 (by omega) (pu4 (by omega)));replace R1:=hide (R1.out.grown hg9 (pu5 (by omega)));replace R2:=hide (R2.out.grown hg9 (pu5 (by omega)));replace HU:=hide (und_grown HU.out hg9 (by omega) (by omega));replace HL:=hide (und_grown HL.out hg9 (by omega) (by omega));replace RN:=hide (RN.out.grown hg9 (pu5 (by omega)));replace H6:=hide (fr_grown H6.out hg9 (by omega));have hsz10:=hg9.size;replace R3:=hide hr9;have q1_4:wS9.cell? ⟨w.heap.size,4,none⟩=some (.slice AU nU cU):=R1.out.cell 4;have q4_0:wS9.cell? ⟨wN.heap.size,0,none⟩=some (.int .i64 x.k):=RN.out.cell 0;clear hr9 hg9 hs9)|(refine wpList_loadW rfl 47 (.tmp 3) rfl 2 viw_agg viw_size (w.heap.size+1+1) 47 rfl [.int .i64 0,.slice A6 (rootsL ls 0).length c6] R3.out rfl ?_)|(refine wpList_storeW rfl 47 (.tmp 2) (.tmp 18) rfl 2 viw_size (w.heap.size+1) 47 rfl (viwC 0 (.slice none 0 0)) (viwC 0 (.slice A6 (rootsL ls 0).length c6)) rfl R2.out rfl rfl (viwC_one _ _ _ _) ?_;intro wS11 hr11 hg11 hs11;clear q1_4 q4_0;replace HB:=hide (HB.out.grown hg11 (by omega) (pu4 (by omega)));replace R1:=hide (R1.out.grown hg11 (pu5 (by omega)));replace R3:=hide (R3.out.grown hg11 (pu5 (by omega)));replace HU:=hide (und_grown HU.out hg11 (by omega) (by omega));replace HL:=hide (und_grown HL.out hg11 (by omega) (by omega));replace RN:=hide (RN.out.grown hg11 (pu5 (by omega)));replace H6:=hide (fr_grown H6.out hg11 (by omega));have hsz12:=hg11.size;replace R2:=hide hr11;have q1_4:wS11.cell? ⟨w.heap.size,4,none⟩=some (.slice AU nU cU):=R1.out.cell 4;have q4_0:wS11.cell? ⟨wN.heap.size,0,none⟩=some (.int .i64 x.k):=RN.out.cell 0;clear hr11 hg11 hs11))
  exact bodyPost_ret (res_cell Tryz.results17 rfl viw_agg viw_size R2.out rfl) rfl ⟨A6,c6,by rw [HV.out],by rw [HV.out];exact fr_low H6.out (by omega),HB.out⟩
theorem VRoot_e {g:GeoQ} {AU AL:Option Addr} {nU cU nL cL B:Nat} {up:List NodV} {ls:List (List NodV)} {V:ViewV} (hV:rootV up ls=V) (w:World) (hu:RdE nodEn w (Under B) AU nU up) (h:RdE layEn w (Under B) AL nL ls) (hB:B≤w.heap.size) (hF:FewL ls) (hup:FewU up):Calls Tryz.prog 17 #[.agg (stkC g (.slice AU nU cU) (.slice AL nL cL)).toArray] w (ViewF w.heap.size w V):=by rw [←hV];exact VRoot_any w hu h hB hF hup
end Go.Proofs.YthdoimgbbabcaaaGreat

namespace Go.Proofs.YthdoimgbbabcaaaGreat
open Go.RowKit Go.Shelf Plain

def viewEn : Enc ViewV where
 k:=2
 R:=fun w D cs v=>∃A c,cs=viwC v.1 (.slice A v.2.length c)∧RdE prEn w D A v.2.length v.2
 len:=fun ⟨_,_,h,_⟩=>by rw [h];rfl
 one:=fun ⟨_,_,h,_⟩ v hv=>by rw [h] at hv;exact viwC_one _ _ _ _ v hv
 mono:=fun ⟨A,c,h,hr⟩ hk hD=>⟨A,c,h,hr.mono hk hD⟩
def zviw:Value:=.agg #[.int .i64 0,.slice none 0 0]
set_option maxRecDepth 100000 in
theorem viw_info:(Tryz.prog.info? 47).map (fun i=>(i.zero,i.size,i.bytes))=some (some zviw,2,32):=by kernel_rfl
theorem lit_viw (u:Int) (A:Option Addr) (n c:Nat) (W:World):(Instr.buildSlice 98 1 #[(0,.agg (viwC u (.slice A n c)).toArray)]).run Tryz.prog W=.ok (.slice (some ⟨W.heap.size,0,none⟩) 1 1) (W.alloc (.cells (viwC u (.slice A n c)).toArray 47)):=by
 obtain ⟨it,hi,hz,hsz,-⟩:=info_parts viw_info
 refine run_buildSlice W _ 47 1 _ _ it zviw Tryz.underlying98 hi hz (by omega) (by omega) ?_
 rw [hsz]
 have:=Great.fill_whole (s:=2) (by omega) [.agg (viwC u (.slice A n c)).toArray] ((Array.range (1*2)).map (zviw.cells[· % zviw.cells.size]!)) (by intro v hv;rw [List.mem_singleton] at hv;subst hv;simp [Value.cells,viwC]) (by simp)
 simpa [Value.cells] using this
theorem viw_lit1 (W:World) (v:ViewV) {A:Option Addr} {c lo:Nat} (h:RdE prEn W (fun b=>lo≤b∧b < W.heap.size) A v.2.length v.2) (hlo:lo≤W.heap.size):RdE viewEn (W.alloc (.cells (viwC v.1 (.slice A v.2.length c)).toArray 47)) (fun b=>lo≤b∧b < (W.alloc (.cells (viwC v.1 (.slice A v.2.length c)).toArray 47)).heap.size) (some ⟨W.heap.size,0,none⟩) 1 [v]:=by
 refine ⟨rfl,fun _=>⟨_,_,rfl,⟨hlo,by simp⟩,fun i y hy=>⟨viwC v.1 (.slice A v.2.length c),?_,fun j x hx=>?_⟩⟩⟩
 ·have hi:i=0:=by have:=(List.getElem?_eq_some_iff.1 hy).1;simpa using this
  subst hi
  obtain rfl:v=y:=by simpa using hy
  exact ⟨A,c,rfl,fr_on h (below_new (below_self W) _)⟩
 ·have hi:i=0:=by have:=(List.getElem?_eq_some_iff.1 hy).1;simpa using this
  subst hi
  rw [Nat.zero_mul,Nat.zero_add,Nat.zero_add,(RowL.new W 47 (viwC v.1 (.slice A v.2.length c))).cell]
  exact hx
end Go.Proofs.YthdoimgbbabcaaaGreat

namespace Go.Proofs.YthdoimgbbabcaaaGreat
open Go.RowKit Plain

def UpV (l:List WayV):Prop:=∀(j:Nat) (y:WayV),l[j]?=some y→(j=0→y.up = -1∧y.ino=1)∧(0 < j→∃p:Nat,y.up=(p:Int)∧p < j)
theorem UpV.snoc {l:List WayV} {p:Nat} {i:Int} {nm:List UInt8} (h:UpV l) (hp:p < l.length):UpV (l++[⟨i,p,nm⟩]):=by
 intro j y hy
 by_cases hj:j < l.length
 ·rw [List.getElem?_append_left hj] at hy
  exact h j y hy
 ·have hj2:j=l.length:=by
   have:=(List.getElem?_eq_some_iff.1 hy).1
   simp at this
   omega
  subst hj2
  simp at hy
  subst hy
  exact ⟨fun h0=>by omega,fun _=>⟨p,rfl,hp⟩⟩
theorem one_upv {dir:Int} {p:Nat} {s:StW} {x:EntV×Nat} (h:UpV s.1∧p < s.1.length):UpV (oneW dir p s x).1∧p < (oneW dir p s x).1.length:=by
 unfold oneW
 split
 ·exact h
 ·exact ⟨h.1.snoc h.2,by simp;omega⟩
theorem visit_upv {ns:List NodV} {p:Nat} {s:StW} (h:UpV s.1):UpV (visitW ns p s).1:=by
 unfold visitW
 cases hy:s.1[p]? with
 | none=>exact h
 | some y=>exact (foldl_keep (P:=fun s:StW=>UpV s.1∧p < s.1.length) _ _ ⟨h,(List.getElem?_eq_some_iff.1 hy).1⟩ (fun _ _ _ hs=>one_upv hs)).1
theorem run_upv {ns : List NodV} : ∀ (f p : Nat) (s : StW), UpV s.1 → UpV (runW ns f p s).1
 | 0,_,_,h=>h
 | f+1,p,s,h=>by
  unfold runW
  split
  ·exact run_upv f (p+1) _ (visit_upv h)
  ·exact h
theorem walk_upv (ns:List NodV):UpV (walkW ns [1]).1:=by
 have e:walkW ns [1]=rootW ns ([],[]) 1:=rfl
 rw [e]
 unfold rootW
 split
 ·refine run_upv _ _ _ ?_
  intro j y hy
  have hj:j=0:=by
   have:=(List.getElem?_eq_some_iff.1 hy).1
   simpa using this
  subst hj
  simp at hy
  subst hy
  exact ⟨fun _=>⟨rfl,rfl⟩,fun h=>by omega⟩
 ·intro j y hy
  simp at hy
theorem tree_succ (up:List NodV) (ls:List (List NodV)) {l:List WayV} {j:Nat} {y:WayV} (h:l[j]?=some y):treeV up ls (l.take (j+1))=treeV up ls (l.take j)++[wayView up ls (treeV up ls (l.take j)) y]:=by
 unfold treeV
 rw [List.take_add_one,h,Option.toList_some,List.foldl_append]
 rfl
theorem tree_take (up : List NodV) (ls : List (List NodV)) (l : List WayV) : ∀ j, (treeV up ls (l.take j)).length = (l.take j).length
 | 0=>by simp [treeV]
 | j+1=>by
  by_cases hj:j < l.length
  ·rw [tree_succ up ls (List.getElem?_eq_getElem hj),List.length_append,tree_take up ls l j]
   simp
   omega
  ·rw [List.take_of_length_le (by omega),←List.take_of_length_le (l:=l) (i:=j) (by omega)]
   have:=tree_take up ls l j
   rw [List.take_of_length_le (by omega)] at this ⊢
   exact this
theorem tree_len (up:List NodV) (ls:List (List NodV)) (l:List WayV):(treeV up ls l).length=l.length:=by
 have:=tree_take up ls l l.length
 rwa [List.take_of_length_le (Nat.le_refl _)] at this
theorem rootV_len (up:List NodV) (ls:List (List NodV)):(rootV up ls).2.length≤ls.length:=by
 unfold rootV
 dsimp only
 split
 ·simp
 ·exact rootsL_len ls 0
theorem way_few {up:List NodV} {ls:List (List NodV)} {vs:List ViewV} {x:WayV} (h:∀v∈vs,v.2.length≤ls.length):(wayView up ls vs x).2.length≤ls.length:=by
 unfold wayView
 split
 ·exact rootV_len up ls
 ·have h1:=partV_len up ls ((vs[x.up.toNat]?).getD (0,[])).2 x.ino x.name
  have h2:((vs[x.up.toNat]?).getD (0,[])).2.length≤ls.length:=by
   cases hv:vs[x.up.toNat]? with
   | none=>simp
   | some v=>exact h v (List.mem_of_getElem? hv)
  dsimp only
  omega
theorem tree_few (up:List NodV) (ls:List (List NodV)) (l:List WayV):∀v∈treeV up ls l,v.2.length≤ls.length:=by
 unfold treeV
 refine foldl_keep (P:=fun vs:List ViewV=>∀v∈vs,v.2.length≤ls.length) l [] (fun _ h=>by cases h) (fun vs x _ h v hv=>?_)
 rcases List.mem_append.1 hv with h1|h1
 ·exact h v h1
 ·rw [List.mem_singleton] at h1
  rw [h1]
  exact way_few h
end Go.Proofs.YthdoimgbbabcaaaGreat

namespace Go.Proofs.YthdoimgbbabcaaaGreat
open Go.RowKit Go.Shelf Plain

section
variable {gS gL : Nat} {p : List UInt8 → Bool} {B0 : Nat}
end
def NamesO (w:World) (L:List (List UInt8)) (e:Ending) (w':World):Prop:=∃A n c,e=.returned (.slice A n c)∧Ow st w' w.heap.size 9 A n c L∧Below w.heap.size w w'
def CtxV (g:GeoQ) (AU AL AV:Option Addr) (nU cU nL cL nV cV B gS:Nat) (u:Int) (up:List NodV) (ls:List (List NodV)) (vl:List (Int×Int)) (W:World):Prop:=RowL W gS 103 (vwdC g (.slice AU nU cU) (.slice AL nL cL) u (.slice AV nV cV))∧RdE nodEn W (Under B) AU nU up∧RdE layEn W (Under B) AL nL ls∧RdE prEn W (Under B) AV nV vl∧B≤W.heap.size
theorem CtxV.kept {g:GeoQ} {AU AL AV:Option Addr} {nU cU nL cL nV cV B B0 gS:Nat} {u:Int} {up:List NodV} {ls:List (List NodV)} {vl:List (Int×Int)} {W W':World} (h:CtxV g AU AL AV nU cU nL cL nV cV B gS u up ls vl W) (hk:Kept (Under B0) W W') (hS:gS < B0) (hB:B≤B0) (hs:W.heap.size≤W'.heap.size):CtxV g AU AL AV nU cU nL cL nV cV B gS u up ls vl W' :=
 ⟨(hk gS hS).trans h.1,h.2.1.mono (fun b hb=>hk b (Nat.lt_of_lt_of_le hb hB)) (fun _ h=>h),h.2.2.1.mono (fun b hb=>hk b (Nat.lt_of_lt_of_le hb hB)) (fun _ h=>h),h.2.2.2.1.mono (fun b hb=>hk b (Nat.lt_of_lt_of_le hb hB)) (fun _ h=>h),Nat.le_trans h.2.2.2.2 hs⟩
end Go.Proofs.YthdoimgbbabcaaaGreat

