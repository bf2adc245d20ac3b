import Derived.Test.YtfdbhldnohaopaaGreatVw32
import Derived.Test.YtfdbhldnohaopaaGreatVw34
import Derived.Test.YtfdbhldnohaopaaGreatVw12
import Derived.Test.YtfdbhldnohaopaaGreatVw21
import Derived.Test.YtfdbhldnohaopaaGreatVw4
import Derived.Test.YtfdbhldnohaopaaGreatVw20
import Derived.Test.YtfdbhldnohaopaaGreatVw29
import Derived.Test.YtfdbhldnohaopaaGreatVw27
import Derived.Test.YtfdbhldnohaopaaGreatVw28
import Derived.Test.YtfdbhldnohaopaaGreatVw25
import Derived.Test.YtfdbhldnohaopaaGreatVw33
import Derived.Test.YtfdbhldnohaopaaGreatVw14
import Derived.BigRegion

namespace Go.Proofs.YtfdbhldnohaopaaGreat
open Go.RowKit Go.Shelf Plain

theorem aw_root:rootV upI lsB=(1,[(1,1)]):=by decide +kernel
theorem aw_a:stepV upI lsB (1,[(1,1)]) [97]=(2,(0,[]),(1,2)):=by decide +kernel
theorem aw_z:stepV upI lsB (1,[(1,1)]) [122]=(0,(0,[]),(0,0)):=by decide +kernel
theorem aw_walk17:(walkW upI [1]).1=[⟨1,-1,[]⟩]:=by decide +kernel
theorem aw_names17:namesV upI lsB (1,[(1,1)])=[[97]]:=by decide +kernel
theorem aw_few:FewU upI:=by
 refine ⟨by decide,fun x hx=>?_⟩
 simp only [upI,List.mem_cons,List.not_mem_nil,or_false] at hx
 rcases hx with rfl|rfl|rfl|rfl|rfl
 ·refine ⟨fun i e hi he=>?_,by decide,by decide,by decide,by decide,by decide,fun e he=>?_⟩
  ·obtain rfl:i=0:=by have:i < 1:=hi;omega
   cases he
   exact ⟨by decide,by decide,fun p h=>absurd h (by omega)⟩
  ·rw [List.mem_singleton.1 he]
   decide
 ·exact ⟨fun i e hi he=>absurd hi (by simp [ndD,nod0]),by decide,by decide,by decide,by decide,by decide,fun e he=>by simp [ndD,nod0] at he⟩
 ·exact ⟨fun i e hi he=>absurd hi (by simp [ndD,nod0]),by decide,by decide,by decide,by decide,by decide,fun e he=>by simp [ndD,nod0] at he⟩
 ·exact ⟨fun i e hi he=>absurd hi (by simp [ndW,nod0]),by decide,by decide,by decide,by decide,by decide,fun e he=>by simp [ndW,nod0] at he⟩
 ·exact plain0
theorem VNames_e {g:GeoQ} {AU AL:Option Addr} {nU cU nL cL B:Nat} {up:List NodV} {ls:List (List NodV)} {u:Int} {AV:Option Addr} {nV cV BV:Nat} {vl:List (Int×Int)} {L:List (List UInt8)} (hL:namesV up ls (u,vl)=L) (w:World) (hu:RdE nodEn w (Under B) AU nU up) (h:RdE layEn w (Under B) AL nL ls) (hB:B≤w.heap.size) (hF:FewL ls) (hup:FewU up) (hv:RdE prEn w (Under BV) AV nV vl) (hBV:BV≤w.heap.size) (hnV:nV≤1000):Calls Tryz.prog 18 #[.agg (stkC g (.slice AU nU cU) (.slice AL nL cL)).toArray,.agg (viwC u (.slice AV nV cV)).toArray] w (NamesO w L):=by rw [←hL];exact VNames_any w hu h hB hF hup hv hBV hnV
set_option maxRecDepth 100000 in
set_option maxHeartbeats 4000000 in
theorem awake17_any (w:World):Calls Tryz.prog 11 #[] w (LawOk w):=by
 have HB:=hide (below_self w)
 go_enter Tryz.func11,Tryz.ntmps11
 go_wp2_with (first|(go_at_call 61;refine (Idle_any w).mono ?_;rintro e1 wI ⟨AU,nU,cU,AL,nL,cL,rfl,hu,hl,hbel⟩;replace HB:=hide (HB.out.trans (hbel.mono HB.out.size));have hsz2:=hbel.size;have HU:=hide hu;clear hu;have HL:=hide hl;clear hl;clear hbel)|(refine wpList_storeW rfl 29 (.tmp 1) (.tmp 11) rfl 6 stk_size (wI.heap.size) 29 rfl (stkC ⟨0,0,0,0⟩ (.slice none 0 0) (.slice none 0 0)) (stkC gB (.slice AU nU cU) (.slice AL nL cL)) rfl (RowL.new wI 29 (stkC ⟨0,0,0,0⟩ (.slice none 0 0) (.slice none 0 0))) rfl rfl (stkC_one _ _ _ _ _ _ _) ?_;intro wS3 hr3 hg3 hs3;have hzb:=below_stored' hg3;replace HB:=hide (HB.out.trans (hzb.mono HB.out.size));replace HU:=hide (HU.out.under hzb (by omega));replace HL:=hide (HL.out.under hzb (by omega));have hsz4:=hzb.size;have RS:=hide hr3;have hlt3:=hr3.lt;have q1_0:wS3.cell? ⟨wI.heap.size,0,none⟩=some (.int .i64 1):=RS.out.cell 0;have q1_1:wS3.cell? ⟨wI.heap.size,1,none⟩=some (.int .i64 5):=RS.out.cell 1;have q1_2:wS3.cell? ⟨wI.heap.size,2,none⟩=some (.int .i64 6):=RS.out.cell 2;have q1_3:wS3.cell? ⟨wI.heap.size,3,none⟩=some (.int .i64 5):=RS.out.cell 3;have q1_4:wS3.cell? ⟨wI.heap.size,4,none⟩=some (.slice AU nU cU):=RS.out.cell 4;have q1_5:wS3.cell? ⟨wI.heap.size,5,none⟩=some (.slice AL nL cL):=RS.out.cell 5;clear hzb hr3;clear hg3 hs3)|(refine wpList_loadW rfl 29 (.tmp 1) rfl 6 stk_agg stk_size (wI.heap.size) 29 rfl (stkC gB (.slice AU nU cU) (.slice AL nL cL)) RS.out rfl ?_)|(go_at_call 16;refine (VRoot_e (g:=gB) aw_root wS3 HU.out HL.out (by omega) ba_few aw_few).mono ?_;rintro e5 wR ⟨A2,c2,rfl,h2,hbel⟩;replace h2:RdE prEn wR (Under wR.heap.size) A2 1 [(1,1)]:=fr_under h2;clear q1_0 q1_1 q1_2 q1_3 q1_4 q1_5;replace HB:=hide (HB.out.trans (hbel.mono HB.out.size));replace HU:=hide (HU.out.under hbel (by omega));replace HL:=hide (HL.out.under hbel (by omega));replace RS:=hide (RS.out.on hbel);have hsz6:=hbel.size;have q1_0:wR.cell? ⟨wI.heap.size,0,none⟩=some (.int .i64 1):=RS.out.cell 0;have q1_1:wR.cell? ⟨wI.heap.size,1,none⟩=some (.int .i64 5):=RS.out.cell 1;have q1_2:wR.cell? ⟨wI.heap.size,2,none⟩=some (.int .i64 6):=RS.out.cell 2;have q1_3:wR.cell? ⟨wI.heap.size,3,none⟩=some (.int .i64 5):=RS.out.cell 3;have q1_4:wR.cell? ⟨wI.heap.size,4,none⟩=some (.slice AU nU cU):=RS.out.cell 4;have q1_5:wR.cell? ⟨wI.heap.size,5,none⟩=some (.slice AL nL cL):=RS.out.cell 5;have HV:=hide h2;clear h2;clear hbel)|(refine wpList_storeW rfl 47 (.tmp 2) (.tmp 13) rfl 2 viw_size (wR.heap.size) 47 rfl (viwC 0 (.slice none 0 0)) (viwC 1 (.slice A2 1 c2)) rfl (RowL.new wR 47 (viwC 0 (.slice none 0 0))) rfl rfl (viwC_one _ _ _ _) ?_;intro wS7 hr7 hg7 hs7;have hzb:=below_stored' hg7;clear q1_0 q1_1 q1_2 q1_3 q1_4 q1_5;replace HB:=hide (HB.out.trans (hzb.mono HB.out.size));replace HU:=hide (HU.out.under hzb (by omega));replace HL:=hide (HL.out.under hzb (by omega));replace RS:=hide (RS.out.on hzb);replace HV:=hide (HV.out.under hzb (by omega));have hsz8:=hzb.size;have q1_0:wS7.cell? ⟨wI.heap.size,0,none⟩=some (.int .i64 1):=RS.out.cell 0;have q1_1:wS7.cell? ⟨wI.heap.size,1,none⟩=some (.int .i64 5):=RS.out.cell 1;have q1_2:wS7.cell? ⟨wI.heap.size,2,none⟩=some (.int .i64 6):=RS.out.cell 2;have q1_3:wS7.cell? ⟨wI.heap.size,3,none⟩=some (.int .i64 5):=RS.out.cell 3;have q1_4:wS7.cell? ⟨wI.heap.size,4,none⟩=some (.slice AU nU cU):=RS.out.cell 4;have q1_5:wS7.cell? ⟨wI.heap.size,5,none⟩=some (.slice AL nL cL):=RS.out.cell 5;have RV:=hide hr7;have hlt7:=hr7.lt;have q2_0:wS7.cell? ⟨wR.heap.size,0,none⟩=some (.int .i64 1):=RV.out.cell 0;have q2_1:wS7.cell? ⟨wR.heap.size,1,none⟩=some (.slice A2 1 c2):=RV.out.cell 1;clear hzb hr7;clear hg7 hs7)|(refine wpList_loadW rfl 29 (.tmp 1) rfl 6 stk_agg stk_size (wI.heap.size) 29 rfl (stkC gB (.slice AU nU cU) (.slice AL nL cL)) RS.out rfl ?_)|(refine wpList_loadW rfl 47 (.tmp 2) rfl 2 viw_agg viw_size (wR.heap.size) 47 rfl (viwC 1 (.slice A2 1 c2)) RV.out rfl ?_)|(go_at_call 15;refine (VStep_any (g:=gB) (u:=1) (cV:=c2) aw_a wS7 HU.out HL.out (by omega) ba_few aw_few HV.out (by omega) (by omega)).mono ?_;rintro e9 wA ⟨A3,c3,rfl,-,hbel⟩;clear q2_0 q2_1 q1_0 q1_1 q1_2 q1_3 q1_4 q1_5;replace HB:=hide (HB.out.trans (hbel.mono HB.out.size));replace HU:=hide (HU.out.under hbel (by omega));replace HL:=hide (HL.out.under hbel (by omega));replace RS:=hide (RS.out.on hbel);replace HV:=hide (HV.out.under hbel (by omega));replace RV:=hide (RV.out.on hbel);have hsz10:=hbel.size;have q2_0:wA.cell? ⟨wR.heap.size,0,none⟩=some (.int .i64 1):=RV.out.cell 0;have q2_1:wA.cell? ⟨wR.heap.size,1,none⟩=some (.slice A2 1 c2):=RV.out.cell 1;have q1_0:wA.cell? ⟨wI.heap.size,0,none⟩=some (.int .i64 1):=RS.out.cell 0;have q1_1:wA.cell? ⟨wI.heap.size,1,none⟩=some (.int .i64 5):=RS.out.cell 1;have q1_2:wA.cell? ⟨wI.heap.size,2,none⟩=some (.int .i64 6):=RS.out.cell 2;have q1_3:wA.cell? ⟨wI.heap.size,3,none⟩=some (.int .i64 5):=RS.out.cell 3;have q1_4:wA.cell? ⟨wI.heap.size,4,none⟩=some (.slice AU nU cU):=RS.out.cell 4;have q1_5:wA.cell? ⟨wI.heap.size,5,none⟩=some (.slice AL nL cL):=RS.out.cell 5;clear hbel)|(obtain ⟨hz4,hz5,hzb,hzs⟩:=rows2 wA (viwC 0 (.slice none 0 0)) (prC (0,0)) 47 49;refine wpList_storeW rfl 47 (.tmp 4) (.tmp 19) rfl 2 viw_size (wA.heap.size) 47 rfl (viwC 0 (.slice none 0 0)) (viwC 0 (.slice A3 0 c3)) rfl hz4 rfl rfl (viwC_one _ _ _ _) ?_;intro wS11 hr11 hg11 hs11;replace hzb:=hzb.grown hg11 hzb.size (pu4 (by omega));replace hz5:=hz5.grown hg11 (pu5 (by omega));have hz4:=hr11;clear hg11 hs11 hr11)|(refine wpList_storeW rfl 49 (.tmp 5) (.tmp 20) rfl 2 plc_size (wA.heap.size+1) 49 rfl (prC (0,0)) (prC (1,2)) rfl hz5 rfl rfl (prC_one _) ?_;intro wS12 hr12 hg12 hs12;replace hzb:=hzb.grown hg12 hzb.size (pu4 (by omega));replace hz4:=hz4.grown hg12 (pu5 (by omega));have hz5:=hr12;clear q2_0 q2_1 q1_0 q1_1 q1_2 q1_3 q1_4 q1_5;replace HB:=hide (HB.out.trans (hzb.mono HB.out.size));replace HU:=hide (HU.out.under hzb (by omega));replace HL:=hide (HL.out.under hzb (by omega));replace RS:=hide (RS.out.on hzb);replace HV:=hide (HV.out.under hzb (by omega));replace RV:=hide (RV.out.on hzb);have hsz13:=hzb.size;have q2_0:wS12.cell? ⟨wR.heap.size,0,none⟩=some (.int .i64 1):=RV.out.cell 0;have q2_1:wS12.cell? ⟨wR.heap.size,1,none⟩=some (.slice A2 1 c2):=RV.out.cell 1;have q1_0:wS12.cell? ⟨wI.heap.size,0,none⟩=some (.int .i64 1):=RS.out.cell 0;have q1_1:wS12.cell? ⟨wI.heap.size,1,none⟩=some (.int .i64 5):=RS.out.cell 1;have q1_2:wS12.cell? ⟨wI.heap.size,2,none⟩=some (.int .i64 6):=RS.out.cell 2;have q1_3:wS12.cell? ⟨wI.heap.size,3,none⟩=some (.int .i64 5):=RS.out.cell 3;have q1_4:wS12.cell? ⟨wI.heap.size,4,none⟩=some (.slice AU nU cU):=RS.out.cell 4;have q1_5:wS12.cell? ⟨wI.heap.size,5,none⟩=some (.slice AL nL cL):=RS.out.cell 5;have RA:=hide hz4;have hlt11:=hz4.lt;have RP:=hide hz5;have hlt12:=hz5.lt;have q5_0:wS12.cell? ⟨wA.heap.size+1,0,none⟩=some (.int .i64 1):=RP.out.cell 0;have q5_1:wS12.cell? ⟨wA.heap.size+1,1,none⟩=some (.int .i64 2):=RP.out.cell 1;clear hzb hzs hz4 hz5;clear hg12 hs12)|(refine wpList_loadW rfl 29 (.tmp 1) rfl 6 stk_agg stk_size (wI.heap.size) 29 rfl (stkC gB (.slice AU nU cU) (.slice AL nL cL)) RS.out rfl ?_)|(refine wpList_loadW rfl 47 (.tmp 2) rfl 2 viw_agg viw_size (wR.heap.size) 47 rfl (viwC 1 (.slice A2 1 c2)) RV.out rfl ?_)|(go_at_call 15;refine (VStep_any (g:=gB) (u:=1) (cV:=c2) aw_z wS12 HU.out HL.out (by omega) ba_few aw_few HV.out (by omega) (by omega)).mono ?_;rintro e14 wZ ⟨A4,c4,rfl,-,hbel⟩;clear q2_0 q2_1 q5_0 q5_1 q1_0 q1_1 q1_2 q1_3 q1_4 q1_5;replace HB:=hide (HB.out.trans (hbel.mono HB.out.size));replace HU:=hide (HU.out.under hbel (by omega));replace HL:=hide (HL.out.under hbel (by omega));replace RS:=hide (RS.out.on hbel);replace HV:=hide (HV.out.under hbel (by omega));replace RV:=hide (RV.out.on hbel);replace RA:=hide (RA.out.on hbel);replace RP:=hide (RP.out.on hbel);have hsz15:=hbel.size;have q2_0:wZ.cell? ⟨wR.heap.size,0,none⟩=some (.int .i64 1):=RV.out.cell 0;have q2_1:wZ.cell? ⟨wR.heap.size,1,none⟩=some (.slice A2 1 c2):=RV.out.cell 1;have q5_0:wZ.cell? ⟨wA.heap.size+1,0,none⟩=some (.int .i64 1):=RP.out.cell 0;have q5_1:wZ.cell? ⟨wA.heap.size+1,1,none⟩=some (.int .i64 2):=RP.out.cell 1;have q1_0:wZ.cell? ⟨wI.heap.size,0,none⟩=some (.int .i64 1):=RS.out.cell 0;have q1_1:wZ.cell? ⟨wI.heap.size,1,none⟩=some (.int .i64 5):=RS.out.cell 1;have q1_2:wZ.cell? ⟨wI.heap.size,2,none⟩=some (.int .i64 6):=RS.out.cell 2;have q1_3:wZ.cell? ⟨wI.heap.size,3,none⟩=some (.int .i64 5):=RS.out.cell 3;have q1_4:wZ.cell? ⟨wI.heap.size,4,none⟩=some (.slice AU nU cU):=RS.out.cell 4;have q1_5:wZ.cell? ⟨wI.heap.size,5,none⟩=some (.slice AL nL cL):=RS.out.cell 5;clear hbel)|(obtain ⟨hz7,hz8,hzb,hzs⟩:=rows2 wZ (viwC 0 (.slice none 0 0)) (prC (0,0)) 47 49;refine wpList_storeW rfl 47 (.tmp 7) (.tmp 26) rfl 2 viw_size (wZ.heap.size) 47 rfl (viwC 0 (.slice none 0 0)) (viwC 0 (.slice A4 0 c4)) rfl hz7 rfl rfl (viwC_one _ _ _ _) ?_;intro wS16 hr16 hg16 hs16;replace hzb:=hzb.grown hg16 hzb.size (pu4 (by omega));replace hz8:=hz8.grown hg16 (pu5 (by omega));have hz7:=hr16;clear hg16 hs16 hr16)|(refine wpList_storeW rfl 49 (.tmp 8) (.tmp 27) rfl 2 plc_size (wZ.heap.size+1) 49 rfl (prC (0,0)) (prC (0,0)) rfl hz8 rfl rfl (prC_one _) ?_;intro wS17 hr17 hg17 hs17;replace hzb:=hzb.grown hg17 hzb.size (pu4 (by omega));replace hz7:=hz7.grown hg17 (pu5 (by omega));have hz8:=hr17;clear q2_0 q2_1 q5_0 q5_1 q1_0 q1_1 q1_2 q1_3 q1_4 q1_5;replace HB:=hide (HB.out.trans (hzb.mono HB.out.size));replace HU:=hide (HU.out.under hzb (by omega));replace HL:=hide (HL.out.under hzb (by omega));replace RS:=hide (RS.out.on hzb);replace HV:=hide (HV.out.under hzb (by omega));replace RV:=hide (RV.out.on hzb);replace RA:=hide (RA.out.on hzb);replace RP:=hide (RP.out.on hzb);have hsz18:=hzb.size;have q2_0:wS17.cell? ⟨wR.heap.size,0,none⟩=some (.int .i64 1):=RV.out.cell 0;have q2_1:wS17.cell? ⟨wR.heap.size,1,none⟩=some (.slice A2 1 c2):=RV.out.cell 1;have q5_0:wS17.cell? ⟨wA.heap.size+1,0,none⟩=some (.int .i64 1):=RP.out.cell 0;have q5_1:wS17.cell? ⟨wA.heap.size+1,1,none⟩=some (.int .i64 2):=RP.out.cell 1;have q1_0:wS17.cell? ⟨wI.heap.size,0,none⟩=some (.int .i64 1):=RS.out.cell 0;have q1_1:wS17.cell? ⟨wI.heap.size,1,none⟩=some (.int .i64 5):=RS.out.cell 1;have q1_2:wS17.cell? ⟨wI.heap.size,2,none⟩=some (.int .i64 6):=RS.out.cell 2;have q1_3:wS17.cell? ⟨wI.heap.size,3,none⟩=some (.int .i64 5):=RS.out.cell 3;have q1_4:wS17.cell? ⟨wI.heap.size,4,none⟩=some (.slice AU nU cU):=RS.out.cell 4;have q1_5:wS17.cell? ⟨wI.heap.size,5,none⟩=some (.slice AL nL cL):=RS.out.cell 5;have RZ:=hide hz7;have hlt16:=hz7.lt;have RQ:=hide hz8;have hlt17:=hz8.lt;clear hzb hzs hz7 hz8;clear hg17 hs17)|(refine wpList_loadW rfl 29 (.tmp 1) rfl 6 stk_agg stk_size (wI.heap.size) 29 rfl (stkC gB (.slice AU nU cU) (.slice AL nL cL)) RS.out rfl ?_)|(go_at_call 62;refine (VTree1_any (g:=gB) aw_walk17 wS17 HU.out HL.out (by omega) ba_few aw_few).mono ?_;rintro e19 wT ⟨A5,c5,A6,c6,rfl,hbel⟩;clear q2_0 q2_1 q5_0 q5_1 q1_0 q1_1 q1_2 q1_3 q1_4 q1_5;replace HB:=hide (HB.out.trans (hbel.mono HB.out.size));replace HU:=hide (HU.out.under hbel (by omega));replace HL:=hide (HL.out.under hbel (by omega));replace RS:=hide (RS.out.on hbel);replace HV:=hide (HV.out.under hbel (by omega));replace RV:=hide (RV.out.on hbel);replace RA:=hide (RA.out.on hbel);replace RP:=hide (RP.out.on hbel);replace RZ:=hide (RZ.out.on hbel);replace RQ:=hide (RQ.out.on hbel);have hsz20:=hbel.size;have q2_0:wT.cell? ⟨wR.heap.size,0,none⟩=some (.int .i64 1):=RV.out.cell 0;have q2_1:wT.cell? ⟨wR.heap.size,1,none⟩=some (.slice A2 1 c2):=RV.out.cell 1;have q5_0:wT.cell? ⟨wA.heap.size+1,0,none⟩=some (.int .i64 1):=RP.out.cell 0;have q5_1:wT.cell? ⟨wA.heap.size+1,1,none⟩=some (.int .i64 2):=RP.out.cell 1;have q1_0:wT.cell? ⟨wI.heap.size,0,none⟩=some (.int .i64 1):=RS.out.cell 0;have q1_1:wT.cell? ⟨wI.heap.size,1,none⟩=some (.int .i64 5):=RS.out.cell 1;have q1_2:wT.cell? ⟨wI.heap.size,2,none⟩=some (.int .i64 6):=RS.out.cell 2;have q1_3:wT.cell? ⟨wI.heap.size,3,none⟩=some (.int .i64 5):=RS.out.cell 3;have q1_4:wT.cell? ⟨wI.heap.size,4,none⟩=some (.slice AU nU cU):=RS.out.cell 4;have q1_5:wT.cell? ⟨wI.heap.size,5,none⟩=some (.slice AL nL cL):=RS.out.cell 5;clear hbel)|(go_at_call 18;refine (VNames_e (g:=gB) (u:=1) (cV:=c2) aw_names17 wT HU.out HL.out (by omega) ba_few aw_few HV.out (by omega) (by omega)).mono ?_;rintro e21 wN ⟨A7,n7,c7,rfl,h7,hbel⟩;clear q2_0 q2_1 q5_0 q5_1 q1_0 q1_1 q1_2 q1_3 q1_4 q1_5;replace HB:=hide (HB.out.trans (hbel.mono HB.out.size));replace HU:=hide (HU.out.under hbel (by omega));replace HL:=hide (HL.out.under hbel (by omega));replace RS:=hide (RS.out.on hbel);replace HV:=hide (HV.out.under hbel (by omega));replace RV:=hide (RV.out.on hbel);replace RA:=hide (RA.out.on hbel);replace RP:=hide (RP.out.on hbel);replace RZ:=hide (RZ.out.on hbel);replace RQ:=hide (RQ.out.on hbel);have hsz22:=hbel.size;have q2_0:wN.cell? ⟨wR.heap.size,0,none⟩=some (.int .i64 1):=RV.out.cell 0;have q2_1:wN.cell? ⟨wR.heap.size,1,none⟩=some (.slice A2 1 c2):=RV.out.cell 1;have q5_0:wN.cell? ⟨wA.heap.size+1,0,none⟩=some (.int .i64 1):=RP.out.cell 0;have q5_1:wN.cell? ⟨wA.heap.size+1,1,none⟩=some (.int .i64 2):=RP.out.cell 1;have q1_0:wN.cell? ⟨wI.heap.size,0,none⟩=some (.int .i64 1):=RS.out.cell 0;have q1_1:wN.cell? ⟨wI.heap.size,1,none⟩=some (.int .i64 5):=RS.out.cell 1;have q1_2:wN.cell? ⟨wI.heap.size,2,none⟩=some (.int .i64 6):=RS.out.cell 2;have q1_3:wN.cell? ⟨wI.heap.size,3,none⟩=some (.int .i64 5):=RS.out.cell 3;have q1_4:wN.cell? ⟨wI.heap.size,4,none⟩=some (.slice AU nU cU):=RS.out.cell 4;have q1_5:wN.cell? ⟨wI.heap.size,5,none⟩=some (.slice AL nL cL):=RS.out.cell 5;have HN:=hide h7;clear h7;clear hbel)|(go_at_call 25;refine (EqS_b (show (([[97]]:List (List UInt8))==[[97]])=true from by decide) _ (HN.out.rd.on (below_new (below_self wN) _)) (Rd.one wN 9 (f:=st) (u:=.string ⟨#[97]⟩) (x:=[97]) rfl) (by have:=HN.out.rd.len;simp at this;omega)).mono ?_;rintro e99 wE ⟨rfl,hbel⟩;replace HB:=hide (HB.out.trans (((below_new (below_self wN) _).trans (hbel.mono (by simp))).mono HB.out.size));clear hbel))
 go_ret
 exact LawOk.of HB.out
end Go.Proofs.YtfdbhldnohaopaaGreat

namespace Go.Proofs.YtfdbhldnohaopaaGreat
open Go.RowKit Go.Shelf Plain

theorem IdxS_any {A:Option Addr} {n c B:Nat} {l:List (List UInt8)} {v:List UInt8} (w:World) (h:Rd st w B A n l) (hn:n≤1000000) :
  Calls Tryz.prog 68 #[.slice A n c,.string ⟨v.toArray⟩] w (fun e w'=>∃i:Int,e=.returned (.int .i64 i)∧w=w'∧decide (0≤i)=decide (v∈l)):=by
 have H:=hide h
 have hl:=h.len
 clear h
 go_enter Tryz.func68,Tryz.ntmps68
 go_wp2
 go_loopw [8] (fun v8 wr=>∃j:Nat,j≤n∧v8=.int .i64 j∧wr=w∧v∉l.take j) (fun v8 _=>n - (intOf v8).toNat)
 case atStart=>exact ⟨0,by omega,rfl,rfl,by simp⟩
 case round =>
  obtain ⟨j,hj,rfl,hw,hno⟩:=hrel
  subst hw
  have HNO:=hide hno
  clear hno
  by_cases hlt:j < n
  ·obtain ⟨x,hx⟩:∃x,l[j]?=some x:=⟨_,List.getElem?_eq_getElem (by omega)⟩
   obtain ⟨b,o,rfl,hb,q⟩:=st_cell H.out hx
   have HX:=hide hx
   have hjn:(j:Int) < (n:Int):=by omega
   clear hx
   by_cases hv:v=x
   ·subst hv
    have hm:decide (v∈l)=true:=decide_eq_true (List.mem_of_getElem? HX.out)
    have HM:=hide hm
    clear hm
    go_wp2_with fail
    go_ret
    exact ⟨(j:Int),rfl,rfl,by rw [HM.out];simp⟩
   ·have HNV:=hide hv
    have hv2:(v==x)=false:=by simpa using hv
    clear hv
    go_wp2_with fail
    go_roundw
    case rel=>exact ⟨j+1,by omega,by go_num,(by first|rfl|trivial),fun hm=>by
     rw [List.take_add_one,HX.out,List.mem_append] at hm
     rcases hm with hm|hm
     ·exact HNO.out hm
     ·simp at hm;exact HNV.out hm⟩
    case measure=>simp [intOf];omega
  ·obtain rfl:j=n:=by omega
   have hm:decide (v∈l)=false:=by have:=HNO.out;rw [List.take_of_length_le (by omega)] at this;exact decide_eq_false this
   have HM:=hide hm
   clear hm
   go_wp2_with fail
   go_ret
   exact ⟨-1,rfl,rfl,by rw [HM.out];rfl⟩
theorem ContS_b {A:Option Addr} {n c B:Nat} {l:List (List UInt8)} {v:List UInt8} {b:Bool} (hb:decide (v∈l)=b) (w:World) (h:Rd st w B A n l) (hn:n≤1000000) :
  Calls Tryz.prog 17 #[.slice A n c,.string ⟨v.toArray⟩] w (fun e w'=>e=.returned (.bool b)∧w=w'):=by
 have H:=hide h
 have HB:=hide hb
 clear h hb
 go_enter Tryz.func17,Tryz.ntmps17
 go_wp2_with (go_at_call 68;refine (IdxS_any w H.out hn).mono ?_;rintro e w3 ⟨i,rfl,rfl,hi⟩;rw [HB.out] at hi)
 go_ret
 exact ⟨by first|rfl|(rw [hi]),rfl⟩
theorem find_told {ls : List (List NodV)} (nm : List UInt8) : ∀ (l : List (Int × Int)), (findL ls nm l []).1 ≠ 0 → ∃ p ∈ l, ∃ x, firstL ls p nm = some x
 | [],h=>by unfold findL at h;simp at h
 | p::r,h=>by
  cases hx:firstL ls p nm with
  | some x=>exact ⟨p,List.mem_cons_self,x,hx⟩
  | none =>
   unfold findL at h
   rw [hx] at h
   obtain ⟨q,hq,x,hqx⟩:=find_told nm r h
   exact ⟨q,List.mem_cons_of_mem _ hq,x,hqx⟩
theorem told_mem {ls:List (List NodV)} {l:List (Int×Int)} {nm:List UInt8}:decide (nm∈namesL ls l)=((findL ls nm l []).1 != 0):=by
 rw [Bool.eq_iff_iff,decide_eq_true_iff]
 unfold namesL
 rw [List.mem_filter,(sortS_rising _).2]
 constructor
 ·rintro ⟨-,h⟩
  unfold hidS at h
  simpa using h
 ·intro h
  have h0:(findL ls nm l []).1≠0:=by simpa using h
  refine ⟨?_,by unfold hidS;simpa using h0⟩
  obtain ⟨p,hp,x,hx⟩:=find_told nm l h0
  unfold firstL at hx
  rw [Option.map_eq_some_iff] at hx
  obtain ⟨e,he,-⟩:=hx
  have h1:=List.find?_some he
  have h2:=List.mem_of_find?_eq_some he
  unfold useE at h1
  simp only [Bool.and_eq_true,decide_eq_true_eq] at h1
  unfold allN
  exact List.mem_flatMap.2 ⟨p,hp,List.mem_map.2 ⟨e,h2,h1.1⟩⟩
end Go.Proofs.YtfdbhldnohaopaaGreat

namespace Go.Proofs.YtfdbhldnohaopaaGreat
open Go.RowKit Plain

def UpV (l:List WayV):Prop:=∀(j:Nat) (y:WayV),l[j]?=some y→(j=0→y.up = -1∧y.ino=1)∧(0 < j→∃p:Nat,y.up=(p:Int)∧p < j)
theorem UpV.snoc {l:List WayV} {p:Nat} {i:Int} {nm:List UInt8} (h:UpV l) (hp:p < l.length):UpV (l++[⟨i,p,nm⟩]):=by
 intro j y hy
 by_cases hj:j < l.length
 ·rw [List.getElem?_append_left hj] at hy
  exact h j y hy
 ·have hj2:j=l.length:=by
   have:=(List.getElem?_eq_some_iff.1 hy).1
   simp at this
   omega
  subst hj2
  simp at hy
  subst hy
  exact ⟨fun h0=>by omega,fun _=>⟨p,rfl,hp⟩⟩
end Go.Proofs.YtfdbhldnohaopaaGreat

namespace Go.Proofs.YtfdbhldnohaopaaGreat
open Go.RowKit Go.Shelf Plain

theorem hcell {w w':World} {b o:Nat} {cs:List Value} (h:∀k x,cs[k]?=some x→w.cell? ⟨b,o+k,none⟩=some x) {B:Nat} (hb:Below B w w') (hlt:b < B):∀k x,cs[k]?=some x→w'.cell? ⟨b,o+k,none⟩=some x:=fun k x hx=>(hb.cell (p:=⟨b,o+k,none⟩) hlt).trans (h k x hx)
end Go.Proofs.YtfdbhldnohaopaaGreat

namespace Go.Proofs.YtfdbhldnohaopaaGreat
open Go.RowKit Go.Shelf Plain

def TreeF (w:World) (ws:List WayV) (vs:List ViewV) (e:Ending) (w':World):Prop:=∃A c A' c',e=.returned (.tuple #[.slice A ws.length c,.slice A' vs.length c'])∧RdE wayEn w' (fun b=>w.heap.size≤b∧b < w'.heap.size) A ws.length ws∧RdE viewEn w' (Under w'.heap.size) A' vs.length vs∧Below w.heap.size w w'
end Go.Proofs.YtfdbhldnohaopaaGreat

namespace Go.Proofs.YtfdbhldnohaopaaGreat
open Go.RowKit Go.Shelf Plain

theorem OwE.lt {α:Type} {E:Enc α} {w:World} {base e n c:Nat} {A:Option Addr} {l:List α} (h:OwE E w base e A n c l):∀a,A=some a→a.block < w.heap.size:=by
 obtain ⟨css,hrow,-,-⟩:=h
 intro a ha
 subst ha
 rcases hrow.2 with ⟨h0,-⟩|⟨g,cap,cur,h0,-,hg,-⟩
 ·cases h0
 ·cases h0
  exact (Array.getElem?_eq_some_iff.1 hg).1
theorem KeepS.cell {wX W:World} {B b o:Nat} {vc:List Value} (h:KeepS wX B b o vc W) {p:Addr} (hp:p.block < wX.heap.size) (hne:p.block≠b):W.cell? p=wX.cell? p:=World.cell?_of_block (w:=wX) (h.2.1 p.block hp hne)
end Go.Proofs.YtfdbhldnohaopaaGreat

namespace Go.Proofs.YtfdbhldnohaopaaGreat
open Go.RowKit Go.Shelf Plain

def TreeP (w:World) (n:Nat) (ws:List WayV) (vs:List ViewV) (e:Ending) (w':World):Prop:=∃A c A' c',e=.returned (.tuple #[.slice A n c,.slice A' n c'])∧RdE wayEn w' (fun b=>w.heap.size≤b∧b < w'.heap.size) A n ws∧RdE viewEn w' (Under w'.heap.size) A' n vs∧Below w.heap.size w w'
theorem TreeF.p {w w':World} {ws:List WayV} {vs:List ViewV} {n:Nat} {e:Ending} (h:TreeF w ws vs e w') (h1:ws.length=n) (h2:vs.length=n):TreeP w n ws vs e w':=by
 obtain ⟨A,c,A',c',he,ha,hb,hbl⟩:=h
 rw [h1] at he ha
 rw [h2] at he hb
 exact ⟨A,c,A',c',he,ha,hb,hbl⟩
end Go.Proofs.YtfdbhldnohaopaaGreat

