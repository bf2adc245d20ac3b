import Derived.Test.YtpndfahgflgocaaGreatDoorXt29

namespace Go.Proofs.YtpndfahgflgocaaGreatDoor
open Go.RowKit Go.Shelf Plain

set_option maxRecDepth 100000 in
set_option maxHeartbeats 4000000 in
theorem XEnts_any {g:GeoQ} {AU AL AR:Option Addr} {nU cU nL cL nR cR B:Nat} {up:List NodV} {i:Int} {l:List EntV} (hl:entB up i=l) (w:World) (hu:RdE nodEn w (Under B) AU nU up) (hB:B≤w.heap.size) (hup:FewU up):Calls Tryz.prog 26 #[.agg (tixC g (.slice AU nU cU) (.slice AL nL cL) (.slice AR nR cR)).toArray,.int .i64 i] w (EntsRet w B l):=by
 obtain ⟨W1,hW1⟩:∃W1,w.alloc (.cells (tixC g (.slice AU nU cU) (.slice AL nL cL) (.slice AR nR cR)).toArray 59)=W1:=⟨_,rfl⟩
 obtain ⟨r0,hb1,hs1⟩:=rowA1 w _ _ hW1
 have hW1':w.alloc (.cells #[.int .i64 g.a,.int .i64 g.b,.int .i64 g.c,.int .i64 g.d,.slice AU nU cU,.slice AL nL cL,.slice AR nR cR] 59)=W1:=hW1
 have R2:=hide r0
 have HB:=hide hb1
 have HU:=hide (hu.under hb1 hB)
 have HFU:=hide hup
 have HEQ:=hide hl
 have hs1':w.heap.size+1≤W1.heap.size:=by omega
 unfold tixC
 clear hW1 r0 hb1 hu hup hs1 hl
 go_enter Tryz.func26,Tryz.ntmps26
 go_wp2_with (first|(refine wpList_loadC rfl 26 (.tmp 6) rfl 1 lay_agg lay_size (w.heap.size) 4 59 rfl (tixC g (.slice AU nU cU) (.slice AL nL cL) (.slice AR nR cR)) [.slice AU nU cU] R2.out rfl rfl ?_)|(go_at_call 46;refine (Entries_e HEQ.out W1 HU.out (by omega) (by have:=HFU.out.1;omega)).mono ?_;rintro e1 w1 ⟨C,m,d,rfl,hmd,he,hbel⟩;have HE:=hide he;replace HB:=hide (HB.out.trans (hbel.mono (by omega)));clear he hbel))
 go_ret
 exact ⟨C,m,d,rfl,hmd,HE.out,HB.out⟩
set_option maxRecDepth 100000 in
set_option maxHeartbeats 16000000 in
theorem XIn_any {g:GeoQ} {AU AL:Option Addr} {nU cU nL cL B:Nat} {up:List NodV} {ls:List (List NodV)} {rs:List Bool} (hrs:reachL up (walkW up [1]).1=rs) {i:Int} {r:Bool} (hr:inX up ls rs i=r) (w:World) (hu:RdE nodEn w (Under B) AU nU up) (h:RdE layEn w (Under B) AL nL ls) (hB:B≤w.heap.size) (hF:FewL ls) (hup:FewU up) (hw:HanW w):Calls Tryz.prog 13 #[.agg (stkC g (.slice AU nU cU) (.slice AL nL cL)).toArray,.int .i64 i] w (BoolB w r):=by
 obtain ⟨W1,hW1⟩:∃W1,w.alloc (.cells (stkC g (.slice AU nU cU) (.slice AL nL cL)).toArray 29)=W1:=⟨_,rfl⟩
 obtain ⟨r0,hb1,hs1⟩:=rowA1 w _ _ hW1
 have hW1':w.alloc (.cells #[.int .i64 g.a,.int .i64 g.b,.int .i64 g.c,.int .i64 g.d,.slice AU nU cU,.slice AL nL cL] 29)=W1:=hW1
 have R2:=hide r0
 have HB:=hide hb1
 have HU:=hide (hu.under hb1 hB)
 have HL:=hide (h.under hb1 hB)
 have HF:=hide hF
 have HFU:=hide hup
 have HW:=hide (hw.below hb1)
 have HRS:=hide hrs
 have HRL:=hide (show rs.length=up.length from by rw [←hrs,reachL_len])
 have HR:=hide hr
 have hs1':w.heap.size+1≤W1.heap.size:=by omega
 obtain ⟨EL,hEL⟩:∃EL,entB up 3=EL:=⟨_,rfl⟩
 have HEL:=hide hEL
 have hl16:=entB_len hup.2 3
 rw [hEL] at hl16
 have hnm:∀e∈EL,e.name.length≤1000:=fun e he=>by
  rw [←hEL] at he
  unfold entB at he
  split at he
  ·have h1:=nameB_len ((nodAt_plain hup.2 3).2.2.2.2.2.2 e he)
   omega
  ·cases he
 have HNM:=hide hnm
 unfold stkC
 clear hW1 r0 hb1 hu h hF hup hs1 hw hrs hr hEL hnm
 go_enter Tryz.func13,Tryz.ntmps13
 go_wp2_with (first|(refine wpList_loadW rfl 29 (.tmp 2) rfl 6 stk_agg stk_size (w.heap.size) 29 rfl (stkC g (.slice AU nU cU) (.slice AL nL cL)) R2.out rfl ?_)|(go_at_call 25;refine (XBegin_any (g:=g) (AL:=AL) (nL:=nL) (cU:=cU) (cL:=cL) HRS.out W1 HU.out (by omega) HFU.out).mono ?_;rintro e1 wA ⟨AR,nR,cR,rfl,hrd,hbA⟩;have HRD:=hide hrd;replace HB:=hide (HB.out.trans (hbA.mono (by omega)));replace HU:=hide (HU.out.under hbA (by omega));replace HL:=hide (HL.out.under hbA (by omega));replace HW:=hide (HW.out.below hbA);have hzA:=hbA.size;clear hbA hrd)|(refine wpList_storeW rfl 59 (.tmp 5) (.tmp 9) rfl 7 tix_size (wA.heap.size) 59 rfl (tixC ⟨0,0,0,0⟩ (.slice none 0 0) (.slice none 0 0) (.slice none 0 0)) (tixC g (.slice AU nU cU) (.slice AL nL cL) (.slice AR nR cR)) rfl (RowL.new wA 59 (tixC ⟨0,0,0,0⟩ (.slice none 0 0) (.slice none 0 0) (.slice none 0 0))) rfl rfl (tixC_one _ _ _ _ _ _ _ _ _ _) ?_;intro wB hrB hgB hsB;have hbB:=below_stored' hgB;have RT:=hide hrB;have hltB:=hrB.lt;replace HB:=hide (HB.out.trans (hbB.mono (by omega)));replace HU:=hide (HU.out.under hbB (by omega));replace HL:=hide (HL.out.under hbB (by omega));replace HW:=hide (HW.out.below hbB);replace HRD:=hide (HRD.out.below hbB);have hzB:=hbB.size;clear hrB hgB hsB hbB)|(refine wpList_loadW rfl 59 (.tmp 5) rfl 7 tix_agg tix_size (wA.heap.size) 59 rfl (tixC g (.slice AU nU cU) (.slice AL nL cL) (.slice AR nR cR)) RT.out rfl ?_)|(go_at_call 26;refine (XEnts_any (g:=g) (AL:=AL) (nL:=nL) (cU:=cU) (cL:=cL) (cR:=cR) HEL.out wB HU.out (by omega) HFU.out).mono ?_;rintro e1 w5 ⟨C,m,d,rfl,hmd,he,hbC⟩;have HE:=hide he;replace HB:=hide (HB.out.trans (hbC.mono (by omega)));replace HU:=hide (HU.out.under hbC (by omega));replace HL:=hide (HL.out.under hbC (by omega));replace HW:=hide (HW.out.below hbC);replace HRD:=hide (HRD.out.below (hbC.mono (by omega)));replace RT:=hide (RT.out.on hbC);have hzC:=hbC.size;clear hbC he))
 have hEm:=HE.out.1
 have hm16:m≤16:=by omega
 have HEM:=hide hEm
 clear hEm hl16 hW1'
 go_loopw [13] (fun v13 wr=>∃j:Nat,j≤m∧v13=.int .i64 j∧Below w5.heap.size w5 wr∧∀(k:Nat) e,k < j→EL[k]?=some e→e.ino=i→badX up ls rs e=true) (fun v13 _=>m - (intOf v13).toNat)
 case atStart=>exact ⟨0,by omega,rfl,below_self _,fun k e hk=>absurd hk (by omega)⟩
 case round =>
  obtain ⟨j,hj,rfl,hbr,hnone⟩:=hrel
  have HN:=hide hnone
  have HBR:=hide hbr
  have hbsz:=hbr.size
  have RTr:=hide (RT.out.on hbr)
  clear hnone hbr
  by_cases hlt:j < m
  ·obtain ⟨e,he⟩:∃e,EL[j]?=some e:=⟨_,List.getElem?_eq_getElem (by have:=HEM.out;omega)⟩
   obtain ⟨bE,oE,rfl,hbE,hcE⟩:=ent_get (HE.out.under HBR.out (by omega)) he
   have HCE:=hide hcE
   have HEJ:=hide he
   have HNL:=hide (HNM.out e (List.mem_of_getElem? he))
   have hjm:(j:Int) < (m:Int):=by omega
   obtain ⟨b,hb⟩:∃b,badX up ls rs e=b:=⟨_,rfl⟩
   have HBD:=hide hb
   have hstep:∀(h:e.ino=i→b=true) (k:Nat) e',k < j+1→EL[k]?=some e'→e'.ino=i→badX up ls rs e'=true:=fun h k e' hk hk' hi=>by
    rcases Nat.lt_or_ge k j with h1|h1
    ·exact HN.out k e' h1 hk' hi
    ·obtain rfl:k=j:=by omega
     rw [HEJ.out] at hk'
     obtain rfl:=Option.some.inj hk'
     rw [HBD.out]
     exact h hi
   have HST:=hide hstep
   clear he hcE hb hstep
   by_cases hi:e.ino=i
   ·have hq:(e.ino==i)=true:=by simpa using hi
    cases b with
    | true =>
     have HST':=hide (HST.out (fun _=>rfl))
     clear hi
     go_wp2_with (first|(refine wpList_loadX rfl 31 (.tmp 15) rfl 3 ixe_agg ixe_size bE (oE+j*3) rfl (cellsE e) HCE.out rfl ?_)|(refine wpList_storeW rfl 31 (.tmp 7) (.tmp 16) rfl 3 ixe_size (wr.heap.size) 31 rfl [.int .i64 0,.int .i64 0,.string ⟨#[]⟩] (cellsE e) rfl (RowL.new wr 31 [.int .i64 0,.int .i64 0,.string ⟨#[]⟩]) rfl rfl (cellsE_one e) ?_;intro w6 hr6 hg6 hs6;have hb6:=below_stored' hg6;have R6:=hide hr6;have HBR6:=hide (HBR.out.trans (hb6.mono (by omega)));have RT6:=hide (RTr.out.on hb6);have hz6:=hb6.size;have qt_0:w6.cell? ⟨wA.heap.size,0,none⟩=some (.int .i64 g.a):=RT6.out.cell 0;have qt_1:w6.cell? ⟨wA.heap.size,1,none⟩=some (.int .i64 g.b):=RT6.out.cell 1;have qt_2:w6.cell? ⟨wA.heap.size,2,none⟩=some (.int .i64 g.c):=RT6.out.cell 2;have qt_3:w6.cell? ⟨wA.heap.size,3,none⟩=some (.int .i64 g.d):=RT6.out.cell 3;have qt_4:w6.cell? ⟨wA.heap.size,4,none⟩=some (.slice AU nU cU):=RT6.out.cell 4;have qt_5:w6.cell? ⟨wA.heap.size,5,none⟩=some (.slice AL nL cL):=RT6.out.cell 5;have qt_6:w6.cell? ⟨wA.heap.size,6,none⟩=some (.slice AR nR cR):=RT6.out.cell 6;have qe_0:w6.cell? ⟨wr.heap.size,0,none⟩=some (.int .i64 e.slot):=R6.out.cell 0;have qe_1:w6.cell? ⟨wr.heap.size,1,none⟩=some (.int .i64 e.ino):=R6.out.cell 1;have qe_2:w6.cell? ⟨wr.heap.size,2,none⟩=some (.string ⟨e.name.toArray⟩):=R6.out.cell 2;clear hr6 hg6 hs6 hb6)|(go_at_call 27;refine (XBad_any (g:=g) (cU:=cU) (cL:=cL) (cR:=cR) HBD.out w6 (HU.out.under HBR6.out (by omega)) (HL.out.under HBR6.out (by omega)) (by omega) HF.out HFU.out ((HRD.out.below (HBR6.out.mono (by omega))).upto (by omega)) HRL.out HNL.out (HW.out.below HBR6.out)).mono ?_;rintro e8 w8 ⟨rfl,hb8⟩;have HBR8:=hide (HBR6.out.trans (hb8.mono (by omega)));clear hb8))
     go_roundw
     case rel=>exact ⟨j+1,by omega,by go_num,HBR8.out,HST'.out⟩
     case measure=>simp [intOf];omega
    | false =>
     have hr1:r=true:=by rw [←HR.out];exact inX_at (by rw [HEL.out];exact HEJ.out) hi HBD.out
     subst hr1
     clear hi
     go_wp2_with (first|(refine wpList_loadX rfl 31 (.tmp 15) rfl 3 ixe_agg ixe_size bE (oE+j*3) rfl (cellsE e) HCE.out rfl ?_)|(refine wpList_storeW rfl 31 (.tmp 7) (.tmp 16) rfl 3 ixe_size (wr.heap.size) 31 rfl [.int .i64 0,.int .i64 0,.string ⟨#[]⟩] (cellsE e) rfl (RowL.new wr 31 [.int .i64 0,.int .i64 0,.string ⟨#[]⟩]) rfl rfl (cellsE_one e) ?_;intro w6 hr6 hg6 hs6;have hb6:=below_stored' hg6;have R6:=hide hr6;have HBR6:=hide (HBR.out.trans (hb6.mono (by omega)));have RT6:=hide (RTr.out.on hb6);have hz6:=hb6.size;have qt_0:w6.cell? ⟨wA.heap.size,0,none⟩=some (.int .i64 g.a):=RT6.out.cell 0;have qt_1:w6.cell? ⟨wA.heap.size,1,none⟩=some (.int .i64 g.b):=RT6.out.cell 1;have qt_2:w6.cell? ⟨wA.heap.size,2,none⟩=some (.int .i64 g.c):=RT6.out.cell 2;have qt_3:w6.cell? ⟨wA.heap.size,3,none⟩=some (.int .i64 g.d):=RT6.out.cell 3;have qt_4:w6.cell? ⟨wA.heap.size,4,none⟩=some (.slice AU nU cU):=RT6.out.cell 4;have qt_5:w6.cell? ⟨wA.heap.size,5,none⟩=some (.slice AL nL cL):=RT6.out.cell 5;have qt_6:w6.cell? ⟨wA.heap.size,6,none⟩=some (.slice AR nR cR):=RT6.out.cell 6;have qe_0:w6.cell? ⟨wr.heap.size,0,none⟩=some (.int .i64 e.slot):=R6.out.cell 0;have qe_1:w6.cell? ⟨wr.heap.size,1,none⟩=some (.int .i64 e.ino):=R6.out.cell 1;have qe_2:w6.cell? ⟨wr.heap.size,2,none⟩=some (.string ⟨e.name.toArray⟩):=R6.out.cell 2;clear hr6 hg6 hs6 hb6)|(go_at_call 27;refine (XBad_any (g:=g) (cU:=cU) (cL:=cL) (cR:=cR) HBD.out w6 (HU.out.under HBR6.out (by omega)) (HL.out.under HBR6.out (by omega)) (by omega) HF.out HFU.out ((HRD.out.below (HBR6.out.mono (by omega))).upto (by omega)) HRL.out HNL.out (HW.out.below HBR6.out)).mono ?_;rintro e8 w8 ⟨rfl,hb8⟩;have HBR8:=hide (HBR6.out.trans (hb8.mono (by omega)));clear hb8))
     go_ret
     exact BoolB.of (HB.out.trans (HBR8.out.mono (by have:=HB.out.size;omega)))
   ·have hq:(e.ino==i)=false:=by simpa using hi
    have HST':=hide (HST.out (fun h=>absurd h hi))
    clear hi
    go_wp2_with (first|(refine wpList_loadX rfl 31 (.tmp 15) rfl 3 ixe_agg ixe_size bE (oE+j*3) rfl (cellsE e) HCE.out rfl ?_)|(refine wpList_storeW rfl 31 (.tmp 7) (.tmp 16) rfl 3 ixe_size (wr.heap.size) 31 rfl [.int .i64 0,.int .i64 0,.string ⟨#[]⟩] (cellsE e) rfl (RowL.new wr 31 [.int .i64 0,.int .i64 0,.string ⟨#[]⟩]) rfl rfl (cellsE_one e) ?_;intro w6 hr6 hg6 hs6;have hb6:=below_stored' hg6;have R6:=hide hr6;have HBR6:=hide (HBR.out.trans (hb6.mono (by omega)));have RT6:=hide (RTr.out.on hb6);have hz6:=hb6.size;have qt_0:w6.cell? ⟨wA.heap.size,0,none⟩=some (.int .i64 g.a):=RT6.out.cell 0;have qt_1:w6.cell? ⟨wA.heap.size,1,none⟩=some (.int .i64 g.b):=RT6.out.cell 1;have qt_2:w6.cell? ⟨wA.heap.size,2,none⟩=some (.int .i64 g.c):=RT6.out.cell 2;have qt_3:w6.cell? ⟨wA.heap.size,3,none⟩=some (.int .i64 g.d):=RT6.out.cell 3;have qt_4:w6.cell? ⟨wA.heap.size,4,none⟩=some (.slice AU nU cU):=RT6.out.cell 4;have qt_5:w6.cell? ⟨wA.heap.size,5,none⟩=some (.slice AL nL cL):=RT6.out.cell 5;have qt_6:w6.cell? ⟨wA.heap.size,6,none⟩=some (.slice AR nR cR):=RT6.out.cell 6;have qe_0:w6.cell? ⟨wr.heap.size,0,none⟩=some (.int .i64 e.slot):=R6.out.cell 0;have qe_1:w6.cell? ⟨wr.heap.size,1,none⟩=some (.int .i64 e.ino):=R6.out.cell 1;have qe_2:w6.cell? ⟨wr.heap.size,2,none⟩=some (.string ⟨e.name.toArray⟩):=R6.out.cell 2;clear hr6 hg6 hs6 hb6))
    go_roundw
    case rel=>exact ⟨j+1,by omega,by go_num,HBR6.out,HST'.out⟩
    case measure=>simp [intOf];omega
  ·obtain rfl:j=m:=by omega
   have hr1:r=false:=by
    rw [←HR.out]
    refine inX_none fun k e hk hi=>HN.out k e ?_ (by rw [←HEL.out];exact hk) hi
    have h1:=(List.getElem?_eq_some_iff.1 hk).1
    rw [HEL.out] at h1
    have:=HEM.out
    omega
   subst hr1
   go_wp2_with fail
   go_ret
   exact BoolB.of (HB.out.trans (HBR.out.mono (by have:=HB.out.size;omega)))
end Go.Proofs.YtpndfahgflgocaaGreatDoor

