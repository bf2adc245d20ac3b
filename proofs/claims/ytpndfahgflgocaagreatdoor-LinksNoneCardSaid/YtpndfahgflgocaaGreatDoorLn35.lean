import Derived.Test.YtpndfahgflgocaaGreatDoorLn34
import Derived.Test.YtpndfahgflgocaaGreatDoorLn24
import Derived.Test.YtpndfahgflgocaaGreatDoorLn15
import Derived.Test.YtpndfahgflgocaaGreatDoorLn30
import Derived.Test.YtpndfahgflgocaaGreatDoorLn26
import Derived.Test.YtpndfahgflgocaaGreatDoorLn27
import Derived.Test.YtpndfahgflgocaaGreatDoorLn25
import Derived.Test.YtpndfahgflgocaaGreatDoorLn28
import Derived.Test.YtpndfahgflgocaaGreatDoorLn16

namespace Go.Proofs.YtpndfahgflgocaaGreatDoor
open Go.RowKit Go.Shelf Plain

set_option maxRecDepth 100000 in
set_option maxHeartbeats 4000000 in
theorem XEnts_any {g:GeoQ} {AU AL AR:Option Addr} {nU cU nL cL nR cR B:Nat} {up:List NodV} {i:Int} {l:List EntV} (hl:entB up i=l) (w:World) (hu:RdE nodEn w (Under B) AU nU up) (hB:B≤w.heap.size) (hup:FewU up):Calls Tryz.prog 26 #[.agg (tixC g (.slice AU nU cU) (.slice AL nL cL) (.slice AR nR cR)).toArray,.int .i64 i] w (EntsRet w B l):=by
 obtain ⟨W1,hW1⟩:∃W1,w.alloc (.cells (tixC g (.slice AU nU cU) (.slice AL nL cL) (.slice AR nR cR)).toArray 59)=W1:=⟨_,rfl⟩
 obtain ⟨r0,hb1,hs1⟩:=rowA1 w _ _ hW1
 have hW1':w.alloc (.cells #[.int .i64 g.a,.int .i64 g.b,.int .i64 g.c,.int .i64 g.d,.slice AU nU cU,.slice AL nL cL,.slice AR nR cR] 59)=W1:=hW1
 have R2:=hide r0
 have HB:=hide hb1
 have HU:=hide (hu.under hb1 hB)
 have HFU:=hide hup
 have HEQ:=hide hl
 have hs1':w.heap.size+1≤W1.heap.size:=by omega
 unfold tixC
 clear hW1 r0 hb1 hu hup hs1 hl
 go_enter Tryz.func26,Tryz.ntmps26
 go_wp2_with (first|(refine wpList_loadC rfl 26 (.tmp 6) rfl 1 lay_agg lay_size (w.heap.size) 4 59 rfl (tixC g (.slice AU nU cU) (.slice AL nL cL) (.slice AR nR cR)) [.slice AU nU cU] R2.out rfl rfl ?_)|(go_at_call 46;refine (Entries_e HEQ.out W1 HU.out (by omega) (by have:=HFU.out.1;omega)).mono ?_;rintro e1 w1 ⟨C,m,d,rfl,hmd,he,hbel⟩;have HE:=hide he;replace HB:=hide (HB.out.trans (hbel.mono (by omega)));clear he hbel))
 go_ret
 exact ⟨C,m,d,rfl,hmd,HE.out,HB.out⟩
set_option maxRecDepth 100000 in
set_option maxHeartbeats 16000000 in
theorem XIn_any {g:GeoQ} {AU AL:Option Addr} {nU cU nL cL B:Nat} {up:List NodV} {ls:List (List NodV)} {rs:List Bool} (hrs:reachL up (walkW up [1]).1=rs) {i:Int} {r:Bool} (hr:inX up ls rs i=r) (w:World) (hu:RdE nodEn w (Under B) AU nU up) (h:RdE layEn w (Under B) AL nL ls) (hB:B≤w.heap.size) (hF:FewL ls) (hup:FewU up) (hw:HanW w):Calls Tryz.prog 13 #[.agg (stkC g (.slice AU nU cU) (.slice AL nL cL)).toArray,.int .i64 i] w (BoolB w r):=by
 obtain ⟨W1,hW1⟩:∃W1,w.alloc (.cells (stkC g (.slice AU nU cU) (.slice AL nL cL)).toArray 29)=W1:=⟨_,rfl⟩
 obtain ⟨r0,hb1,hs1⟩:=rowA1 w _ _ hW1
 have hW1':w.alloc (.cells #[.int .i64 g.a,.int .i64 g.b,.int .i64 g.c,.int .i64 g.d,.slice AU nU cU,.slice AL nL cL] 29)=W1:=hW1
 have R2:=hide r0
 have HB:=hide hb1
 have HU:=hide (hu.under hb1 hB)
 have HL:=hide (h.under hb1 hB)
 have HF:=hide hF
 have HFU:=hide hup
 have HW:=hide (hw.below hb1)
 have HRS:=hide hrs
 have HRL:=hide (show rs.length=up.length from by rw [←hrs,reachL_len])
 have HR:=hide hr
 have hs1':w.heap.size+1≤W1.heap.size:=by omega
 obtain ⟨EL,hEL⟩:∃EL,entB up 3=EL:=⟨_,rfl⟩
 have HEL:=hide hEL
 have hl16:=entB_len hup.2 3
 rw [hEL] at hl16
 have hnm:∀e∈EL,e.name.length≤1000:=fun e he=>by
  rw [←hEL] at he
  unfold entB at he
  split at he
  ·have h1:=nameB_len ((nodAt_plain hup.2 3).2.2.2.2.2.2 e he)
   omega
  ·cases he
 have HNM:=hide hnm
 unfold stkC
 clear hW1 r0 hb1 hu h hF hup hs1 hw hrs hr hEL hnm
 go_enter Tryz.func13,Tryz.ntmps13
 go_wp2_with (first|(refine wpList_loadW rfl 29 (.tmp 2) rfl 6 stk_agg stk_size (w.heap.size) 29 rfl (stkC g (.slice AU nU cU) (.slice AL nL cL)) R2.out rfl ?_)|(go_at_call 25;refine (XBegin_any (g:=g) (AL:=AL) (nL:=nL) (cU:=cU) (cL:=cL) HRS.out W1 HU.out (by omega) HFU.out).mono ?_;rintro e1 wA ⟨AR,nR,cR,rfl,hrd,hbA⟩;have HRD:=hide hrd;replace HB:=hide (HB.out.trans (hbA.mono (by omega)));replace HU:=hide (HU.out.under hbA (by omega));replace HL:=hide (HL.out.under hbA (by omega));replace HW:=hide (HW.out.below hbA);have hzA:=hbA.size;clear hbA hrd)|(refine wpList_storeW rfl 59 (.tmp 5) (.tmp 9) rfl 7 tix_size (wA.heap.size) 59 rfl (tixC ⟨0,0,0,0⟩ (.slice none 0 0) (.slice none 0 0) (.slice none 0 0)) (tixC g (.slice AU nU cU) (.slice AL nL cL) (.slice AR nR cR)) rfl (RowL.new wA 59 (tixC ⟨0,0,0,0⟩ (.slice none 0 0) (.slice none 0 0) (.slice none 0 0))) rfl rfl (tixC_one _ _ _ _ _ _ _ _ _ _) ?_;intro wB hrB hgB hsB;have hbB:=below_stored' hgB;have RT:=hide hrB;have hltB:=hrB.lt;replace HB:=hide (HB.out.trans (hbB.mono (by omega)));replace HU:=hide (HU.out.under hbB (by omega));replace HL:=hide (HL.out.under hbB (by omega));replace HW:=hide (HW.out.below hbB);replace HRD:=hide (HRD.out.below hbB);have hzB:=hbB.size;clear hrB hgB hsB hbB)|(refine wpList_loadW rfl 59 (.tmp 5) rfl 7 tix_agg tix_size (wA.heap.size) 59 rfl (tixC g (.slice AU nU cU) (.slice AL nL cL) (.slice AR nR cR)) RT.out rfl ?_)|(go_at_call 26;refine (XEnts_any (g:=g) (AL:=AL) (nL:=nL) (cU:=cU) (cL:=cL) (cR:=cR) HEL.out wB HU.out (by omega) HFU.out).mono ?_;rintro e1 w5 ⟨C,m,d,rfl,hmd,he,hbC⟩;have HE:=hide he;replace HB:=hide (HB.out.trans (hbC.mono (by omega)));replace HU:=hide (HU.out.under hbC (by omega));replace HL:=hide (HL.out.under hbC (by omega));replace HW:=hide (HW.out.below hbC);replace HRD:=hide (HRD.out.below (hbC.mono (by omega)));replace RT:=hide (RT.out.on hbC);have hzC:=hbC.size;clear hbC he))
 have hEm:=HE.out.1
 have hm16:m≤16:=by omega
 have HEM:=hide hEm
 clear hEm hl16 hW1'
 go_loopw [13] (fun v13 wr=>∃j:Nat,j≤m∧v13=.int .i64 j∧Below w5.heap.size w5 wr∧∀(k:Nat) e,k < j→EL[k]?=some e→e.ino=i→badX up ls rs e=true) (fun v13 _=>m - (intOf v13).toNat)
 case atStart=>exact ⟨0,by omega,rfl,below_self _,fun k e hk=>absurd hk (by omega)⟩
 case round =>
  obtain ⟨j,hj,rfl,hbr,hnone⟩:=hrel
  have HN:=hide hnone
  have HBR:=hide hbr
  have hbsz:=hbr.size
  have RTr:=hide (RT.out.on hbr)
  clear hnone hbr
  by_cases hlt:j < m
  ·obtain ⟨e,he⟩:∃e,EL[j]?=some e:=⟨_,List.getElem?_eq_getElem (by have:=HEM.out;omega)⟩
   obtain ⟨bE,oE,rfl,hbE,hcE⟩:=ent_get (HE.out.under HBR.out (by omega)) he
   have HCE:=hide hcE
   have HEJ:=hide he
   have HNL:=hide (HNM.out e (List.mem_of_getElem? he))
   have hjm:(j:Int) < (m:Int):=by omega
   obtain ⟨b,hb⟩:∃b,badX up ls rs e=b:=⟨_,rfl⟩
   have HBD:=hide hb
   have hstep:∀(h:e.ino=i→b=true) (k:Nat) e',k < j+1→EL[k]?=some e'→e'.ino=i→badX up ls rs e'=true:=fun h k e' hk hk' hi=>by
    rcases Nat.lt_or_ge k j with h1|h1
    ·exact HN.out k e' h1 hk' hi
    ·obtain rfl:k=j:=by omega
     rw [HEJ.out] at hk'
     obtain rfl:=Option.some.inj hk'
     rw [HBD.out]
     exact h hi
   have HST:=hide hstep
   clear he hcE hb hstep
   by_cases hi:e.ino=i
   ·have hq:(e.ino==i)=true:=by simpa using hi
    cases b with
    | true =>
     have HST':=hide (HST.out (fun _=>rfl))
     clear hi
     go_wp2_with (first|(refine wpList_loadX rfl 31 (.tmp 15) rfl 3 ixe_agg ixe_size bE (oE+j*3) rfl (cellsE e) HCE.out rfl ?_)|(refine wpList_storeW rfl 31 (.tmp 7) (.tmp 16) rfl 3 ixe_size (wr.heap.size) 31 rfl [.int .i64 0,.int .i64 0,.string ⟨#[]⟩] (cellsE e) rfl (RowL.new wr 31 [.int .i64 0,.int .i64 0,.string ⟨#[]⟩]) rfl rfl (cellsE_one e) ?_;intro w6 hr6 hg6 hs6;have hb6:=below_stored' hg6;have R6:=hide hr6;have HBR6:=hide (HBR.out.trans (hb6.mono (by omega)));have RT6:=hide (RTr.out.on hb6);have hz6:=hb6.size;have qt_0:w6.cell? ⟨wA.heap.size,0,none⟩=some (.int .i64 g.a):=RT6.out.cell 0;have qt_1:w6.cell? ⟨wA.heap.size,1,none⟩=some (.int .i64 g.b):=RT6.out.cell 1;have qt_2:w6.cell? ⟨wA.heap.size,2,none⟩=some (.int .i64 g.c):=RT6.out.cell 2;have qt_3:w6.cell? ⟨wA.heap.size,3,none⟩=some (.int .i64 g.d):=RT6.out.cell 3;have qt_4:w6.cell? ⟨wA.heap.size,4,none⟩=some (.slice AU nU cU):=RT6.out.cell 4;have qt_5:w6.cell? ⟨wA.heap.size,5,none⟩=some (.slice AL nL cL):=RT6.out.cell 5;have qt_6:w6.cell? ⟨wA.heap.size,6,none⟩=some (.slice AR nR cR):=RT6.out.cell 6;have qe_0:w6.cell? ⟨wr.heap.size,0,none⟩=some (.int .i64 e.slot):=R6.out.cell 0;have qe_1:w6.cell? ⟨wr.heap.size,1,none⟩=some (.int .i64 e.ino):=R6.out.cell 1;have qe_2:w6.cell? ⟨wr.heap.size,2,none⟩=some (.string ⟨e.name.toArray⟩):=R6.out.cell 2;clear hr6 hg6 hs6 hb6)|(go_at_call 27;refine (XBad_any (g:=g) (cU:=cU) (cL:=cL) (cR:=cR) HBD.out w6 (HU.out.under HBR6.out (by omega)) (HL.out.under HBR6.out (by omega)) (by omega) HF.out HFU.out ((HRD.out.below (HBR6.out.mono (by omega))).upto (by omega)) HRL.out HNL.out (HW.out.below HBR6.out)).mono ?_;rintro e8 w8 ⟨rfl,hb8⟩;have HBR8:=hide (HBR6.out.trans (hb8.mono (by omega)));clear hb8))
     go_roundw
     case rel=>exact ⟨j+1,by omega,by go_num,HBR8.out,HST'.out⟩
     case measure=>simp [intOf];omega
    | false =>
     have hr1:r=true:=by rw [←HR.out];exact inX_at (by rw [HEL.out];exact HEJ.out) hi HBD.out
     subst hr1
     clear hi
     go_wp2_with (first|(refine wpList_loadX rfl 31 (.tmp 15) rfl 3 ixe_agg ixe_size bE (oE+j*3) rfl (cellsE e) HCE.out rfl ?_)|(refine wpList_storeW rfl 31 (.tmp 7) (.tmp 16) rfl 3 ixe_size (wr.heap.size) 31 rfl [.int .i64 0,.int .i64 0,.string ⟨#[]⟩] (cellsE e) rfl (RowL.new wr 31 [.int .i64 0,.int .i64 0,.string ⟨#[]⟩]) rfl rfl (cellsE_one e) ?_;intro w6 hr6 hg6 hs6;have hb6:=below_stored' hg6;have R6:=hide hr6;have HBR6:=hide (HBR.out.trans (hb6.mono (by omega)));have RT6:=hide (RTr.out.on hb6);have hz6:=hb6.size;have qt_0:w6.cell? ⟨wA.heap.size,0,none⟩=some (.int .i64 g.a):=RT6.out.cell 0;have qt_1:w6.cell? ⟨wA.heap.size,1,none⟩=some (.int .i64 g.b):=RT6.out.cell 1;have qt_2:w6.cell? ⟨wA.heap.size,2,none⟩=some (.int .i64 g.c):=RT6.out.cell 2;have qt_3:w6.cell? ⟨wA.heap.size,3,none⟩=some (.int .i64 g.d):=RT6.out.cell 3;have qt_4:w6.cell? ⟨wA.heap.size,4,none⟩=some (.slice AU nU cU):=RT6.out.cell 4;have qt_5:w6.cell? ⟨wA.heap.size,5,none⟩=some (.slice AL nL cL):=RT6.out.cell 5;have qt_6:w6.cell? ⟨wA.heap.size,6,none⟩=some (.slice AR nR cR):=RT6.out.cell 6;have qe_0:w6.cell? ⟨wr.heap.size,0,none⟩=some (.int .i64 e.slot):=R6.out.cell 0;have qe_1:w6.cell? ⟨wr.heap.size,1,none⟩=some (.int .i64 e.ino):=R6.out.cell 1;have qe_2:w6.cell? ⟨wr.heap.size,2,none⟩=some (.string ⟨e.name.toArray⟩):=R6.out.cell 2;clear hr6 hg6 hs6 hb6)|(go_at_call 27;refine (XBad_any (g:=g) (cU:=cU) (cL:=cL) (cR:=cR) HBD.out w6 (HU.out.under HBR6.out (by omega)) (HL.out.under HBR6.out (by omega)) (by omega) HF.out HFU.out ((HRD.out.below (HBR6.out.mono (by omega))).upto (by omega)) HRL.out HNL.out (HW.out.below HBR6.out)).mono ?_;rintro e8 w8 ⟨rfl,hb8⟩;have HBR8:=hide (HBR6.out.trans (hb8.mono (by omega)));clear hb8))
     go_ret
     exact BoolB.of (HB.out.trans (HBR8.out.mono (by have:=HB.out.size;omega)))
   ·have hq:(e.ino==i)=false:=by simpa using hi
    have HST':=hide (HST.out (fun h=>absurd h hi))
    clear hi
    go_wp2_with (first|(refine wpList_loadX rfl 31 (.tmp 15) rfl 3 ixe_agg ixe_size bE (oE+j*3) rfl (cellsE e) HCE.out rfl ?_)|(refine wpList_storeW rfl 31 (.tmp 7) (.tmp 16) rfl 3 ixe_size (wr.heap.size) 31 rfl [.int .i64 0,.int .i64 0,.string ⟨#[]⟩] (cellsE e) rfl (RowL.new wr 31 [.int .i64 0,.int .i64 0,.string ⟨#[]⟩]) rfl rfl (cellsE_one e) ?_;intro w6 hr6 hg6 hs6;have hb6:=below_stored' hg6;have R6:=hide hr6;have HBR6:=hide (HBR.out.trans (hb6.mono (by omega)));have RT6:=hide (RTr.out.on hb6);have hz6:=hb6.size;have qt_0:w6.cell? ⟨wA.heap.size,0,none⟩=some (.int .i64 g.a):=RT6.out.cell 0;have qt_1:w6.cell? ⟨wA.heap.size,1,none⟩=some (.int .i64 g.b):=RT6.out.cell 1;have qt_2:w6.cell? ⟨wA.heap.size,2,none⟩=some (.int .i64 g.c):=RT6.out.cell 2;have qt_3:w6.cell? ⟨wA.heap.size,3,none⟩=some (.int .i64 g.d):=RT6.out.cell 3;have qt_4:w6.cell? ⟨wA.heap.size,4,none⟩=some (.slice AU nU cU):=RT6.out.cell 4;have qt_5:w6.cell? ⟨wA.heap.size,5,none⟩=some (.slice AL nL cL):=RT6.out.cell 5;have qt_6:w6.cell? ⟨wA.heap.size,6,none⟩=some (.slice AR nR cR):=RT6.out.cell 6;have qe_0:w6.cell? ⟨wr.heap.size,0,none⟩=some (.int .i64 e.slot):=R6.out.cell 0;have qe_1:w6.cell? ⟨wr.heap.size,1,none⟩=some (.int .i64 e.ino):=R6.out.cell 1;have qe_2:w6.cell? ⟨wr.heap.size,2,none⟩=some (.string ⟨e.name.toArray⟩):=R6.out.cell 2;clear hr6 hg6 hs6 hb6))
    go_roundw
    case rel=>exact ⟨j+1,by omega,by go_num,HBR6.out,HST'.out⟩
    case measure=>simp [intOf];omega
  ·obtain rfl:j=m:=by omega
   have hr1:r=false:=by
    rw [←HR.out]
    refine inX_none fun k e hk hi=>HN.out k e ?_ (by rw [←HEL.out];exact hk) hi
    have h1:=(List.getElem?_eq_some_iff.1 hk).1
    rw [HEL.out] at h1
    have:=HEM.out
    omega
   subst hr1
   go_wp2_with fail
   go_ret
   exact BoolB.of (HB.out.trans (HBR.out.mono (by have:=HB.out.size;omega)))
end Go.Proofs.YtpndfahgflgocaaGreatDoor

namespace Go.Proofs.YtpndfahgflgocaaGreatDoor
open Go.RowKit Go.Shelf Plain

theorem aw_tang:lsB.any tangB=false:=by decide +kernel
theorem Count_e {g:GeoQ} {AU AL:Option Addr} {nU cU nL cL B:Nat} {up:List NodV} {ls:List (List NodV)} {p:Int×Int} {m:Nat} (hm:cntS (allS up ls) p=m) (w:World) (hu:RdE nodEn w (Under B) AU nU up) (h:RdE layEn w (Under B) AL nL ls) (hB:B≤w.heap.size) (hF:FewL ls) (hup:FewU up):Calls Tryz.prog 38 #[.agg (stkC g (.slice AU nU cU) (.slice AL nL cL)).toArray,.agg #[.int .i64 p.1,.int .i64 p.2]] w (fun e w'=>e=.returned (.int .i64 m)∧Below w.heap.size w w'):=by
 rw [←hm]
 exact Count_any w hu h hB hF hup
end Go.Proofs.YtpndfahgflgocaaGreatDoor

namespace Go.Proofs.YtpndfahgflgocaaGreatDoor
open Go.RowKit Go.Shelf Plain

def upCX:List Value:=nodC ndD (.slice none 0 0) (.slice none 0 0)++(nodC ndD (.slice none 0 0) (.slice none 0 0)++(nodC ndD (.slice none 0 0) (.slice none 0 0)++(nodC nod0 (.slice none 0 0) (.slice none 0 0)++nodC nod0 (.slice none 0 0) (.slice none 0 0))))
def BaseRetX (w:World) (e:Ending) (w':World):Prop:=∃g0 AL nL cL,e=.returned (.agg (stkC gB (.slice (some ⟨g0,0,none⟩) 5 5) (.slice AL nL cL)).toArray)∧RowL w' g0 51 upCX∧RdE layEn w' (fun b=>w.heap.size≤b∧b < g0) AL nL lsB∧w.heap.size≤g0∧Below w.heap.size w w'
set_option maxRecDepth 100000 in
set_option maxHeartbeats 1000000 in
theorem Base_oX (w:World):Calls Tryz.prog 35 #[] w (BaseRetX w):=by
 obtain ⟨r0,r1,hb2,hs2⟩:=rows2 w (stkC ⟨0,0,0,0⟩ (.slice none 0 0) (.slice none 0 0)) (stkC ⟨0,0,0,0⟩ (.slice none 0 0) (.slice none 0 0)) 29 29
 have R0:=hide r0
 have R1:=hide r1
 have HB2:=hide hb2
 clear r0 r1 hb2 hs2
 go_enter Tryz.func35,Tryz.ntmps35
 go_wp2_with (refine wpList_storeW rfl 29 (.tmp 1) (.tmp 3) rfl 6 stk_size (w.heap.size+1) 29 rfl (stkC ⟨0,0,0,0⟩ (.slice none 0 0) (.slice none 0 0)) (stkC gB (.slice none 0 0) (.slice none 0 0)) rfl R1.out rfl rfl (by simp [stkC,Value.oneCell']) ?_;intro w3 hr3 hg3 hs3;have R3:=hide hr3;have R03:=hide (R0.out.grown hg3 (pu5 (by omega)));have HB3:=hide (HB2.out.grown hg3 HB2.out.size (pu4 (by omega)));have hl3:=hr3.lt;have HE3:=hide (RowL.new w3 31 (flatE [⟨0,2,[97]⟩]));have hbe:=below_new (below_self w3) (.cells (flatE [⟨0,2,[97]⟩]).toArray 31);have HBE:=hide hbe;clear hr3 hg3 hs3 hbe)
 refine (Dir_any _).mono ?_
 rintro ez w4 ⟨rfl,hb4⟩
 have HE4:=hide (HE3.out.on hb4)
 have HB4:=hide ((HB3.out.trans (HBE.out.mono HB3.out.size)).trans (hb4.mono (Nat.le_trans HB3.out.size HBE.out.size)))
 have hbe4:=HBE.out.trans (hb4.mono HBE.out.size)
 have HR34:=hide (R3.out.on hbe4)
 have HR04:=hide (R03.out.on hbe4)
 have q5:w4.cell? ⟨w.heap.size+1,5,none⟩=some (.slice none 0 0):=HR34.out.cell 5
 have f5:w4.frozen? ⟨w.heap.size+1,5,none⟩=false:=HR34.out.frozen 5
 have hl4:w.heap.size+1 < w4.heap.size:=HR34.out.lt
 have hl34:=HE4.out.lt
 clear hb4 hbe4
 have HRU:=hide (RowL.new w4 5 [.int .u8 120])
 have HBU:=hide (below_new (below_self w4) (.cells #[.int .u8 120] 5))
 go_wp2_with (first|(refine wpList_lit5N (w:=w4.alloc (.cells #[.int .u8 120] 5)) rfl (.tmp 6) (.tmp 8) (.tmp 9) (.tmp 10) (.tmp 11) rfl (c0:=nodC ndD (.slice none 0 0) (.slice (some ⟨w3.heap.size,0,none⟩) 1 1)) (c1:=nodC ndF (.slice (some ⟨w4.heap.size,0,none⟩) 1 1) (.slice none 0 0)) (c2:=nodC nod0 (.slice none 0 0) (.slice none 0 0)) (c3:=nodC nod0 (.slice none 0 0) (.slice none 0 0)) (c4:=nodC nod0 (.slice none 0 0) (.slice none 0 0)) rfl rfl rfl rfl rfl rfl rfl rfl rfl rfl ?_;intro w6 hr6 hb6;simp only [World.size_alloc] at hr6;have HR6:=hide hr6;have HB6:=hide (HBU.out.trans (hb6.mono HBU.out.size));have HRU6:=hide (HRU.out.on hb6);have q56:w6.cell? ⟨w.heap.size+1,5,none⟩=some (.slice none 0 0):=(HB6.out.cell (p:=⟨w.heap.size+1,5,none⟩) hl4).trans q5;have f56:w6.frozen? ⟨w.heap.size+1,5,none⟩=false:=(HB6.out.frozen (p:=⟨w.heap.size+1,5,none⟩) hl4).trans f5;have hl6:w.heap.size+1 < w6.heap.size:=Nat.lt_of_lt_of_le hl4 HB6.out.size;clear hr6 hb6)|fail)
 have hw2:w.heap.size+2≤w3.heap.size:=by have:=R3.out.lt;omega
 have hs34:w3.heap.size < w4.heap.size:=hl34
 have hs46:=HB6.out.size
 have hr6l:=HR6.out.lt
 have hg7:=grown_cell w6 (w.heap.size+1) 5 (.slice (some ⟨w6.heap.size,0,none⟩) 1 1)
 have n6:RdE nodEn w6 (Fr (w.heap.size+2) w6) (some ⟨w4.heap.size+1,0,none⟩) 5 lyB:=nods_row HR6.out ⟨by omega,hr6l⟩ ⟨none,0,0,_,1,1,rfl,Nat.le_refl _,RdE.none_ _ _ _ _,Nat.le_refl _,ent_row (HE4.out.on HB6.out) ⟨by omega,by omega⟩⟩ ⟨_,1,1,none,0,0,rfl,Nat.le_refl _,byte_row (l:=[120]) HRU6.out ⟨by omega,by omega⟩,Nat.le_refl _,RdE.none_ _ _ _ _⟩ (nod0R _ _) (nod0R _ _) (nod0R _ _)
 have n7:=n6.grF hg7 (by omega)
 have x7:RowL (w6.setCell ⟨w.heap.size+1,5,none⟩ (.slice (some ⟨w6.heap.size,0,none⟩) 1 1)) (w.heap.size+1) 29 (stkC gB (.slice none 0 0) (.slice (some ⟨w6.heap.size,0,none⟩) 1 1)):=(HR34.out.on HB6.out).set_ 5 _
 have y7:=(HR04.out.on HB6.out).grown hg7 (pu5 (by omega))
 have hs7:(w6.setCell ⟨w.heap.size+1,5,none⟩ (.slice (some ⟨w6.heap.size,0,none⟩) 1 1)).heap.size=w6.heap.size:=by simp [World.setCell]
 have hb7:Below w.heap.size w (w6.setCell ⟨w.heap.size+1,5,none⟩ (.slice (some ⟨w6.heap.size,0,none⟩) 1 1)):=(HB4.out.trans (HB6.out.mono (by omega))).setCell (p:=⟨w.heap.size+1,5,none⟩) (by show w.heap.size≤w.heap.size+1;omega) _
 clear q5 f5 hl4 hg7 n6
 refine (Dir_any _).mono ?_
 rintro ez w9 ⟨rfl,hb9⟩
 generalize w6.setCell ⟨w.heap.size+1,5,none⟩ (.slice (some ⟨w6.heap.size,0,none⟩) 1 1)=w7 at *
 have r8:=RowL.new w7 26 [Value.slice (some ⟨w4.heap.size+1,0,none⟩) 5 5]
 have b8:=below_new (below_self w7) (.cells [Value.slice (some ⟨w4.heap.size+1,0,none⟩) 5 5].toArray 26)
 have l8:RdE layEn (w7.alloc (.cells [Value.slice (some ⟨w4.heap.size+1,0,none⟩) 5 5].toArray 26)) (Fr (w.heap.size+2) (w7.alloc (.cells [Value.slice (some ⟨w4.heap.size+1,0,none⟩) 5 5].toArray 26))) (some ⟨w6.heap.size,0,none⟩) 1 lsB:=lay_row (by rw [←hs7];exact r8) ⟨by omega,by simp;omega⟩ (Nat.le_refl _) (n7.onF b8)
 have X9:=hide ((x7.on b8).on hb9)
 have Y9:=hide ((y7.on b8).on hb9)
 have L9:=hide (l8.onF hb9)
 have B9:=hide ((hb7.trans (b8.mono hb7.size)).trans (hb9.mono (Nat.le_trans hb7.size b8.size)))
 clear r8 b8 l8 x7 y7 n7 hb7 hb9 hs7
 go_wp2_with fail
 refine (Dir_any _).mono ?_
 rintro ez w10 ⟨rfl,hb10⟩
 have HB10:=hide hb10
 clear hb10
 go_wp2_with fail
 refine (Dir_any _).mono ?_
 rintro ez w11 ⟨rfl,hb11⟩
 have HB11:=hide (HB10.out.trans (hb11.mono HB10.out.size))
 clear hb11
 go_wp2_with (first|(refine wpList_lit5N (w:=w11) rfl (.tmp 16) (.tmp 17) (.tmp 18) (.tmp 19) (.tmp 20) rfl (c0:=nodC ndD (.slice none 0 0) (.slice none 0 0)) (c1:=nodC ndD (.slice none 0 0) (.slice none 0 0)) (c2:=nodC ndD (.slice none 0 0) (.slice none 0 0)) (c3:=nodC nod0 (.slice none 0 0) (.slice none 0 0)) (c4:=nodC nod0 (.slice none 0 0) (.slice none 0 0)) rfl rfl rfl rfl rfl rfl rfl rfl rfl rfl ?_;intro w12 hr12 hb12;have HR12:=hide hr12;have HB12:=hide (HB11.out.trans (hb12.mono HB11.out.size));have hl12:=hr12.lt;clear hr12 hb12)|(refine wpList_storeC rfl 26 (.tmp 23) (.tmp 22) rfl 1 lay_size (w.heap.size+1) 4 29 rfl (stkC gB (.slice none 0 0) (.slice (some ⟨w6.heap.size,0,none⟩) 1 1)) [.slice (some ⟨w11.heap.size,0,none⟩) 5 5] rfl (X9.out.on HB12.out) rfl (by simp [stkC]) (by simp [Value.oneCell']) ?_;intro w13 hr13 hg13 hs13;have HX13:=hide (show RowL w13 (w.heap.size+1) 29 (stkC gB (.slice (some ⟨w11.heap.size,0,none⟩) 5 5) (.slice (some ⟨w6.heap.size,0,none⟩) 1 1)) from hr13);have HG13:=hide hg13;clear hr13 hg13)|(refine wpList_loadW rfl 29 (.tmp 1) rfl 6 stk_agg stk_size (w.heap.size+1) 29 rfl (stkC gB (.slice (some ⟨w11.heap.size,0,none⟩) 5 5) (.slice (some ⟨w6.heap.size,0,none⟩) 1 1)) HX13.out rfl ?_)|(refine wpList_storeW rfl 29 (.tmp 0) (.tmp 24) rfl 6 stk_size w.heap.size 29 rfl (stkC ⟨0,0,0,0⟩ (.slice none 0 0) (.slice none 0 0)) (stkC gB (.slice (some ⟨w11.heap.size,0,none⟩) 5 5) (.slice (some ⟨w6.heap.size,0,none⟩) 1 1)) rfl ((Y9.out.on HB12.out).grown HG13.out (pu5 (by omega))) rfl rfl (by simp [stkC,Value.oneCell']) ?_;intro w14 hr14 hg14 hs14;have HR14:=hide hr14;have HG14:=hide hg14;clear hr14 hg14)|fail)
 have hx9:=X9.out.lt
 have hs9:=B9.out.size
 have hs12:=HB12.out.size
 have hs11:=HB11.out.size
 have l12:RdE layEn w12 (fun b=>w.heap.size+2≤b∧b < w9.heap.size) _ 1 lsB:=L9.out.mono (fun b hb=>HB12.out.block b hb.2) (fun _ h=>h)
 have l13:=l12.mono (w':=w13) (D':=fun b=>w.heap.size+2≤b∧b < w9.heap.size) (fun b hb=>HG13.out.block b (by have:=hb.2;omega) (fun e=>by have:=Option.some.inj e;have:=hb.1;omega)) (fun _ h=>h)
 have hs13:=HG13.out.size
 have l14:=l13.mono (w':=w14) (D':=fun b=>w.heap.size≤b∧b < w11.heap.size) (fun b hb=>HG14.out.block b (by have:=hb.2;omega) (fun e=>by have:=Option.some.inj e;have:=hb.1;omega)) (fun _ h=>⟨by have:=h.1;omega,by have:=h.2;omega⟩)
 exact bodyPost_ret (res_cell Tryz.results35 rfl stk_agg stk_size HR14.out rfl) rfl ⟨w11.heap.size,_,1,1,rfl,(HR12.out.grown HG13.out (pu5 (by omega))).grown HG14.out (pu5 (by omega)),l14,by omega,((B9.out.trans (HB12.out.mono hs9)).grown HG13.out (by omega) (pu4 (by omega))).grown HG14.out (by have:=HG13.out.size;omega) (pu4 (by omega))⟩
theorem btw_onX {α:Type} {E:Enc α} {w w':World} {lo hi:Nat} {A:Option Addr} {n:Nat} {l:List α} (h:RdE E w (fun b=>lo≤b∧b < hi) A n l) (hb:Below w.heap.size w w') (hh:hi≤w.heap.size):RdE E w' (fun b=>lo≤b∧b < hi) A n l:=h.mono (Kept.of_below hb fun _ h=>Nat.lt_of_lt_of_le h.2 hh) fun _ h=>h
theorem btw_grownX {α:Type} {E:Enc α} {w w':World} {lo hi g:Nat} {A:Option Addr} {n:Nat} {l:List α} (h:RdE E w (fun b=>lo≤b∧b < hi) A n l) (hg:w.grownBy w' (some g)) (hh:hi≤w.heap.size) (hne:g < lo∨hi≤g):RdE E w' (fun b=>lo≤b∧b < hi) A n l:=h.mono (fun b hb=>hg.block b (Nat.lt_of_lt_of_le hb.2 hh) (fun e=>by have:=Option.some.inj e;have h1:=hb.1;have h2:=hb.2;omega)) fun _ h=>h
theorem stkC_oneX (g:GeoQ) (A B:Option Addr) (n c m d:Nat):∀v∈stkC g (.slice A n c) (.slice B m d),v.oneCell'=true:=by simp [stkC,Value.oneCell']
def upC1X (E:Value):List Value:=nodC ndD (.slice none 0 0) E++(nodC ndD (.slice none 0 0) (.slice none 0 0)++(nodC ndD (.slice none 0 0) (.slice none 0 0)++(nodC nod0 (.slice none 0 0) (.slice none 0 0)++nodC nod0 (.slice none 0 0) (.slice none 0 0))))
end Go.Proofs.YtpndfahgflgocaaGreatDoor

