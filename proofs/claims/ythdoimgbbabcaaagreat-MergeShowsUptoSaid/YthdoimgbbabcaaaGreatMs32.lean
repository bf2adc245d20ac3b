import Derived.Test.YthdoimgbbabcaaaGreatMs22
import Derived.Test.YthdoimgbbabcaaaGreatMs31

namespace Go.Proofs.YthdoimgbbabcaaaGreat
open Go.RowKit Go.Shelf Plain

set_option maxRecDepth 100000 in
set_option maxHeartbeats 16000000 in
theorem RVStep_any {g:GeoQ} {AU AL:Option Addr} {nU cU nL cL B:Nat} {up:List NodV} {ls:List (List NodV)} {u:Int} {AV:Option Addr} {nV cV BV:Nat} {vl:List (Int×Int)} {nm:List UInt8} (w:World) (hu:RdE nodEn w (Under B) AU nU up) (h:RdE layEn w (Under B) AL nL ls) (hB:B≤w.heap.size) (hF:FewL ls) (hup:FewU up) (hv:RdE prEn w (Under BV) AV nV vl) (hBV:BV≤w.heap.size) (hnV:nV≤1000):Calls Tryz.prog 78 #[.agg (stkC g (.slice AU nU cU) (.slice AL nL cL)).toArray,.agg (viwC u (.slice AV nV cV)).toArray,.string ⟨nm.toArray⟩] w (StepF w.heap.size w (stepV up ls (u,vl) nm)):=by
 obtain ⟨W1,hW1⟩:∃W1,((((w.alloc (.cells (stkC g (.slice AU nU cU) (.slice AL nL cL)).toArray 29)).alloc (.cells (viwC u (.slice AV nV cV)).toArray 47)).alloc (.cells (viwC 0 (.slice none 0 0)).toArray 47)).alloc (.cells (prC (0,0)).toArray 49))=W1:=⟨_,rfl⟩
 obtain ⟨r0,r1,r2,r3,hb1,hs1⟩:=rowA4 w _ _ _ _ _ _ _ _ hW1
 have hW1':((((w.alloc (.cells #[.int .i64 g.a,.int .i64 g.b,.int .i64 g.c,.int .i64 g.d,.slice AU nU cU,.slice AL nL cL] 29)).alloc (.cells #[.int .i64 u,.slice AV nV cV] 47)).alloc (.cells #[.int .i64 0,.slice none 0 0] 47)).alloc (.cells #[.int .i64 0,.int .i64 0] 49))=W1:=hW1
 have R3:=hide r0
 have R4:=hide r1
 have R7:=hide r2
 have R8:=hide r3
 have HB:=hide hb1
 have hsz0:=hb1.size
 have HU:=hide (hu.under hb1 hB)
 have HL:=hide (h.under hb1 hB)
 have HF:=hide hF
 have HFU:=hide hup
 have HV:=hide (hv.under hb1 hBV)
 obtain ⟨E,hE⟩:∃E,entO (firstB up u nm)=E:=⟨_,rfl⟩
 have HE:=hide hE
 have q3_4:W1.cell? ⟨w.heap.size,4,none⟩=some (.slice AU nU cU):=R3.out.cell 4
 have q4_1:W1.cell? ⟨w.heap.size+1,1,none⟩=some (.slice AV nV cV):=R4.out.cell 1
 unfold stepV
 dsimp only
 unfold stkC viwC
 cases ho:firstB up u nm with
 | none =>
  have HBO:=hide (show (firstB up u nm).isSome=false from by rw [ho];rfl)
  obtain ⟨R,hR⟩:∃R,findL ls nm vl []=R:=⟨_,rfl⟩
  have hkd:=findL_kind hF nm vl []
  rw [hR] at hkd
  dsimp only
  unfold lowStep
  rw [hR]
  obtain ⟨K,L⟩:=R
  have HR:=hide hR
  clear r0 r1 r2 r3 hb1 hW1 hu h hF hup hv hR ho hE
  by_cases hk:K=0
  ·subst hk
   rw [if_pos rfl]
   have hL:L=[]:=by
    by_cases hh:L=[]
    ·exact hh
    ·exact absurd (hkd.1.2 hh) (by simp)
   subst hL
   clear hkd
   go_enter Tryz.func78,Tryz.ntmps78
   go_wp2_with (first|(refine wpList_loadW rfl 29 (.tmp 3) rfl 6 stk_agg stk_size (w.heap.size) 29 rfl (stkC g (.slice AU nU cU) (.slice AL nL cL)) R3.out rfl ?_)|(refine wpList_loadW rfl 47 (.tmp 4) rfl 2 viw_agg viw_size (w.heap.size+1) 47 rfl (viwC u (.slice AV nV cV)) R4.out rfl ?_)|(go_at_call 93;refine (REnt17_e HE.out HBO.out (B:=B) W1 HU.out (by omega) HFU.out).mono ?_;rintro e1 wE ⟨rfl,hbel⟩;clear q3_4 q4_1;replace HB:=hide (HB.out.trans (hbel.mono HB.out.size));replace R3:=hide (R3.out.on hbel);replace R4:=hide (R4.out.on hbel);replace R7:=hide (R7.out.on hbel);replace R8:=hide (R8.out.on hbel);replace HU:=hide (HU.out.under hbel (by omega));replace HL:=hide (HL.out.under hbel (by omega));replace HV:=hide (HV.out.under hbel (by omega));have hsz2:=hbel.size;have q3_4:wE.cell? ⟨w.heap.size,4,none⟩=some (.slice AU nU cU):=R3.out.cell 4;have q4_1:wE.cell? ⟨w.heap.size+1,1,none⟩=some (.slice AV nV cV):=R4.out.cell 1;clear hbel)|(refine wpList_storeW rfl 42 (.tmp 9) (.tmp 19) rfl 3 entw_size (wE.heap.size) 42 rfl [.int .i64 0,.int .i64 0,.string ⟨#[]⟩] (cellsE E) rfl (RowL.new wE 42 [.int .i64 0,.int .i64 0,.string ⟨#[]⟩]) rfl rfl (cellsE_one _) ?_;intro wS3 hr3 hg3 hs3;have hzb:=below_stored' hg3;clear q3_4 q4_1;replace HB:=hide (HB.out.trans (hzb.mono HB.out.size));replace R3:=hide (R3.out.on hzb);replace R4:=hide (R4.out.on hzb);replace R7:=hide (R7.out.on hzb);replace R8:=hide (R8.out.on hzb);replace HU:=hide (HU.out.under hzb (by omega));replace HL:=hide (HL.out.under hzb (by omega));replace HV:=hide (HV.out.under hzb (by omega));have hsz4:=hzb.size;have q3_4:wS3.cell? ⟨w.heap.size,4,none⟩=some (.slice AU nU cU):=R3.out.cell 4;have q4_1:wS3.cell? ⟨w.heap.size+1,1,none⟩=some (.slice AV nV cV):=R4.out.cell 1;have RE:=hide hr3;have hlt3:=hr3.lt;have q9_1:wS3.cell? ⟨wE.heap.size,1,none⟩=some (.int .i64 E.ino):=RE.out.cell 1;clear hzb hr3;clear hg3 hs3)|(refine wpList_loadW rfl 29 (.tmp 3) rfl 6 stk_agg stk_size (w.heap.size) 29 rfl (stkC g (.slice AU nU cU) (.slice AL nL cL)) R3.out rfl ?_)|(go_at_call 109;refine (RFind_ev HR.out wS3 HL.out (und_up HV.out (by omega)) (by omega) HF.out hnV).mono ?_;rintro e5 wF ⟨A3,c3,rfl,-,h3,hbel⟩;clear q3_4 q9_1 q4_1;replace HB:=hide (HB.out.trans (hbel.mono HB.out.size));replace R3:=hide (R3.out.on hbel);replace R4:=hide (R4.out.on hbel);replace R7:=hide (R7.out.on hbel);replace R8:=hide (R8.out.on hbel);replace HU:=hide (HU.out.under hbel (by omega));replace HL:=hide (HL.out.under hbel (by omega));replace HV:=hide (HV.out.under hbel (by omega));replace RE:=hide (RE.out.on hbel);have hsz6:=hbel.size;have q3_4:wF.cell? ⟨w.heap.size,4,none⟩=some (.slice AU nU cU):=R3.out.cell 4;have q9_1:wF.cell? ⟨wE.heap.size,1,none⟩=some (.int .i64 E.ino):=RE.out.cell 1;have q4_1:wF.cell? ⟨w.heap.size+1,1,none⟩=some (.slice AV nV cV):=R4.out.cell 1;have H3:=hide h3;clear h3;have hwE:w.heap.size+4≤wS3.heap.size:=(by omega);clear hbel)|(refine wpList_storeW rfl 47 (.tmp 7) (.tmp 68) rfl 2 viw_size (w.heap.size+1+1) 47 rfl (viwC 0 (.slice none 0 0)) (viwC 0 (.slice none 0 0)) rfl R7.out rfl rfl (viwC_one _ _ _ _) ?_;intro wS7 hr7 hg7 hs7;clear q3_4 q9_1 q4_1;replace HB:=hide (HB.out.grown hg7 (by omega) (pu4 (by omega)));replace R3:=hide (R3.out.grown hg7 (pu5 (by omega)));replace R4:=hide (R4.out.grown hg7 (pu5 (by omega)));replace R8:=hide (R8.out.grown hg7 (pu5 (by omega)));replace HU:=hide (und_grown HU.out hg7 (by omega) (by omega));replace HL:=hide (und_grown HL.out hg7 (by omega) (by omega));replace HV:=hide (und_grown HV.out hg7 (by omega) (by omega));replace RE:=hide (RE.out.grown hg7 (pu5 (by omega)));replace H3:=hide (fr_grown H3.out hg7 (by omega));have hsz8:=hg7.size;replace R7:=hide hr7;have q3_4:wS7.cell? ⟨w.heap.size,4,none⟩=some (.slice AU nU cU):=R3.out.cell 4;have q9_1:wS7.cell? ⟨wE.heap.size,1,none⟩=some (.int .i64 E.ino):=RE.out.cell 1;have q4_1:wS7.cell? ⟨w.heap.size+1,1,none⟩=some (.slice AV nV cV):=R4.out.cell 1;clear hr7 hg7 hs7)|(refine wpList_storeW rfl 49 (.tmp 8) (.tmp 69) rfl 2 plc_size (w.heap.size+1+1+1) 49 rfl (prC (0,0)) (prC (0,0)) rfl R8.out rfl rfl (prC_one _) ?_;intro wS9 hr9 hg9 hs9;clear q3_4 q9_1 q4_1;replace HB:=hide (HB.out.grown hg9 (by omega) (pu4 (by omega)));replace R3:=hide (R3.out.grown hg9 (pu5 (by omega)));replace R4:=hide (R4.out.grown hg9 (pu5 (by omega)));replace R7:=hide (R7.out.grown hg9 (pu5 (by omega)));replace HU:=hide (und_grown HU.out hg9 (by omega) (by omega));replace HL:=hide (und_grown HL.out hg9 (by omega) (by omega));replace HV:=hide (und_grown HV.out hg9 (by omega) (by omega));replace RE:=hide (RE.out.grown hg9 (pu5 (by omega)));replace H3:=hide (fr_grown H3.out hg9 (by omega));have hsz10:=hg9.size;replace R8:=hide hr9;have q3_4:wS9.cell? ⟨w.heap.size,4,none⟩=some (.slice AU nU cU):=R3.out.cell 4;have q9_1:wS9.cell? ⟨wE.heap.size,1,none⟩=some (.int .i64 E.ino):=RE.out.cell 1;have q4_1:wS9.cell? ⟨w.heap.size+1,1,none⟩=some (.slice AV nV cV):=R4.out.cell 1;clear hr9 hg9 hs9))
   exact bodyPost_ret (res_tcc Tryz.results78 rfl rfl rfl viw_agg viw_size plc_agg plc_size R7.out rfl R8.out rfl) rfl ⟨none,0,rfl,RdE.none_ _ _ _ _,HB.out⟩
  ·rw [if_neg hk]
   have hLn:L≠[]:=hkd.1.1 hk
   have hLp:0 < L.length:=List.length_pos_iff.2 hLn
   obtain ⟨p,hp0⟩:∃p,L[0]?=some p:=⟨_,List.getElem?_eq_getElem hLp⟩
   have hhd:L.headD (0,0)=p:=by cases L with|nil=>simp at hLp|cons a r=>simpa using hp0
   have hk0:(K==0)=false:=by simpa using hk
   rw [hhd]
   by_cases hk1:K=1
   ·have hk2:(K==1)=true:=by simpa using hk1
    rw [if_pos hk1]
    subst hk1
    clear hkd hLn hhd hk
    go_enter Tryz.func78,Tryz.ntmps78
    go_wp2_with (first|(refine wpList_loadW rfl 29 (.tmp 3) rfl 6 stk_agg stk_size (w.heap.size) 29 rfl (stkC g (.slice AU nU cU) (.slice AL nL cL)) R3.out rfl ?_)|(refine wpList_loadW rfl 47 (.tmp 4) rfl 2 viw_agg viw_size (w.heap.size+1) 47 rfl (viwC u (.slice AV nV cV)) R4.out rfl ?_)|(go_at_call 93;refine (REnt17_e HE.out HBO.out (B:=B) W1 HU.out (by omega) HFU.out).mono ?_;rintro e1 wE ⟨rfl,hbel⟩;clear q3_4 q4_1;replace HB:=hide (HB.out.trans (hbel.mono HB.out.size));replace R3:=hide (R3.out.on hbel);replace R4:=hide (R4.out.on hbel);replace R7:=hide (R7.out.on hbel);replace R8:=hide (R8.out.on hbel);replace HU:=hide (HU.out.under hbel (by omega));replace HL:=hide (HL.out.under hbel (by omega));replace HV:=hide (HV.out.under hbel (by omega));have hsz2:=hbel.size;have q3_4:wE.cell? ⟨w.heap.size,4,none⟩=some (.slice AU nU cU):=R3.out.cell 4;have q4_1:wE.cell? ⟨w.heap.size+1,1,none⟩=some (.slice AV nV cV):=R4.out.cell 1;clear hbel)|(refine wpList_storeW rfl 42 (.tmp 9) (.tmp 19) rfl 3 entw_size (wE.heap.size) 42 rfl [.int .i64 0,.int .i64 0,.string ⟨#[]⟩] (cellsE E) rfl (RowL.new wE 42 [.int .i64 0,.int .i64 0,.string ⟨#[]⟩]) rfl rfl (cellsE_one _) ?_;intro wS3 hr3 hg3 hs3;have hzb:=below_stored' hg3;clear q3_4 q4_1;replace HB:=hide (HB.out.trans (hzb.mono HB.out.size));replace R3:=hide (R3.out.on hzb);replace R4:=hide (R4.out.on hzb);replace R7:=hide (R7.out.on hzb);replace R8:=hide (R8.out.on hzb);replace HU:=hide (HU.out.under hzb (by omega));replace HL:=hide (HL.out.under hzb (by omega));replace HV:=hide (HV.out.under hzb (by omega));have hsz4:=hzb.size;have q3_4:wS3.cell? ⟨w.heap.size,4,none⟩=some (.slice AU nU cU):=R3.out.cell 4;have q4_1:wS3.cell? ⟨w.heap.size+1,1,none⟩=some (.slice AV nV cV):=R4.out.cell 1;have RE:=hide hr3;have hlt3:=hr3.lt;have q9_1:wS3.cell? ⟨wE.heap.size,1,none⟩=some (.int .i64 E.ino):=RE.out.cell 1;clear hzb hr3;clear hg3 hs3)|(refine wpList_loadW rfl 29 (.tmp 3) rfl 6 stk_agg stk_size (w.heap.size) 29 rfl (stkC g (.slice AU nU cU) (.slice AL nL cL)) R3.out rfl ?_)|(go_at_call 109;refine (RFind_ev HR.out wS3 HL.out (und_up HV.out (by omega)) (by omega) HF.out hnV).mono ?_;rintro e5 wF ⟨A3,c3,rfl,-,h3,hbel⟩;clear q3_4 q9_1 q4_1;replace HB:=hide (HB.out.trans (hbel.mono HB.out.size));replace R3:=hide (R3.out.on hbel);replace R4:=hide (R4.out.on hbel);replace R7:=hide (R7.out.on hbel);replace R8:=hide (R8.out.on hbel);replace HU:=hide (HU.out.under hbel (by omega));replace HL:=hide (HL.out.under hbel (by omega));replace HV:=hide (HV.out.under hbel (by omega));replace RE:=hide (RE.out.on hbel);have hsz6:=hbel.size;have q3_4:wF.cell? ⟨w.heap.size,4,none⟩=some (.slice AU nU cU):=R3.out.cell 4;have q9_1:wF.cell? ⟨wE.heap.size,1,none⟩=some (.int .i64 E.ino):=RE.out.cell 1;have q4_1:wF.cell? ⟨w.heap.size+1,1,none⟩=some (.slice AV nV cV):=R4.out.cell 1;have H3:=hide h3;clear h3;have hwE:w.heap.size+4≤wS3.heap.size:=(by omega);clear hbel))
    obtain ⟨bP,oP,hAP,hbP,hcP⟩:=pr_get H3.out hp0
    have hbP2:bP < wF.heap.size:=hbP.2
    have hbP1:wS3.heap.size≤bP:=hbP.1
    have HCP:=hide (fun (j:Nat) (v:Value) (hv:(prC p)[j]?=some v)=>show wF.cell? ⟨bP,oP+j,none⟩=some v from by have:=hcP j v hv;simpa using this)
    subst hAP
    clear hcP
    refine wp_region_planN (fun w'=>TwoS wF w.heap.size (w.heap.size+1+1) 47 2 (w.heap.size+1+1+1) 49 2 w') [(0,true),(1,true),(2,true),(3,true),(4,true),(5,true),(6,true),(7,false),(8,false)] (by kernel_rfl) (by kernel_rfl) (by kernel_rfl) (by kernel_rfl) rfl (fun _ _ _ _ _ h=>h) (TwoS.start (base:=w.heap.size) R7.out rfl R8.out rfl) (fun hHeld=>?_)
    simp only [planOps,List.filterMap_cons,List.filterMap_nil,List.getElem?_toArray,List.getElem?_cons_succ,List.getElem?_cons_zero,Option.map_some]
    iterate 5
     refine wpPlan_take (v:=?_) (by kernel_rfl) (fun wS hSw=>?_) ?_
     rotate_left
     ·(try dsimp only at hSw);go_simp;(try with_reducible rfl)
     (try simp only [Act.put,pu1,pu2,pu3])
    refine wpPlan_take (v:=?_) (by kernel_rfl) (fun wS hSw=>?_) ?_
    rotate_left
    ·refine execOp_load (x:=.tmp 76) (k:=2) (g:=bP) (off:=oP) (cs:=prC p) ?_ plc_agg plc_size ?_ (fun j v hv=>(cell_same (hSw.1 bP hbP2 (by omega) (by omega))).trans (HCP.out j v hv)) rfl <;> rfl
    (try simp only [Act.put,pu1,pu2,pu3])
    refine wpPlan_take (v:=?_) (by kernel_rfl) (fun wS hSw=>?_) ?_
    rotate_left
    ·(try dsimp only at hSw);go_simp;(try with_reducible rfl)
    (try simp only [Act.put,pu1,pu2,pu3])
    refine wpPlan_call (by kernel_rfl) (fun K hK=>?_)
    have hOld:=hide hHeld
    clear hHeld
    obtain ⟨pk,⟨cu5,p5,l5⟩,p6,pb⟩:=hOld.out
    refine wp_storeC 47 (.tmp 7) (.tmp 74) rfl 2 viw_size (w.heap.size+1+1) 0 47 rfl cu5 (viwC 0 (.slice (some ⟨bP,oP,none⟩) L.length c3)) rfl p5 rfl (by omega) (viwC_one _ _ _ _) ?_
    intro w' hr' hg' hs'
    rw [splice_all _ _ (by rw [l5];rfl)] at hr'
    refine hK.out _ _ (hOld.out.st5 hg' hr' rfl (by omega) (by omega) (by omega)) (fun hHeld=>?_)
    clear hK K
    have hsO:=hOld.out.2.2.2.size
    have HR5:=hide hr'
    clear hr' hg' hs' pk p5 p6 pb hsO
    (try simp only [Act.put])
    refine wpPlan_call (by kernel_rfl) (fun K hK=>?_)
    have hOld:=hide hHeld
    clear hHeld
    obtain ⟨pk,p5,⟨cu6,p6,l6⟩,pb⟩:=hOld.out
    refine wp_storeC 49 (.tmp 8) (.tmp 77) rfl 2 plc_size (w.heap.size+1+1+1) 0 49 rfl cu6 (prC p) rfl p6 rfl (by omega) (prC_one _) ?_
    intro w' hr' hg' hs'
    rw [splice_all _ _ (by rw [l6];rfl)] at hr'
    refine hK.out _ _ (hOld.out.st6 hg' hr' rfl (by omega) (by omega) (by omega)) (fun hHeld=>?_)
    clear hK K
    have hsO:=hOld.out.2.2.2.size
    have HR6:=hide hr'
    replace HR5:=hide (HR5.out.grown hg' (pu5 (by omega)))
    clear hr' hg' hs' pk p5 p6 pb hsO
    (try simp only [Act.put])
    refine wpPlan_end ?_
    have HSF:=hide hHeld
    clear hHeld
    go_wp2_with fail
    exact bodyPost_ret (res_tcc Tryz.results78 rfl rfl rfl viw_agg viw_size plc_agg plc_size HR5.out rfl HR6.out rfl) rfl ⟨_,c3,rfl,fr_low (HSF.out.fr H3.out (by omega) (by omega)) (by omega),HB.out.trans HSF.out.2.2.2⟩
   ·have hk2:(K==1)=false:=by simpa using hk1
    rw [if_neg hk1]
    clear hkd hLn hhd hk hk1
    go_enter Tryz.func78,Tryz.ntmps78
    go_wp2_with (first|(refine wpList_loadW rfl 29 (.tmp 3) rfl 6 stk_agg stk_size (w.heap.size) 29 rfl (stkC g (.slice AU nU cU) (.slice AL nL cL)) R3.out rfl ?_)|(refine wpList_loadW rfl 47 (.tmp 4) rfl 2 viw_agg viw_size (w.heap.size+1) 47 rfl (viwC u (.slice AV nV cV)) R4.out rfl ?_)|(go_at_call 93;refine (REnt17_e HE.out HBO.out (B:=B) W1 HU.out (by omega) HFU.out).mono ?_;rintro e1 wE ⟨rfl,hbel⟩;clear q3_4 q4_1;replace HB:=hide (HB.out.trans (hbel.mono HB.out.size));replace R3:=hide (R3.out.on hbel);replace R4:=hide (R4.out.on hbel);replace R7:=hide (R7.out.on hbel);replace R8:=hide (R8.out.on hbel);replace HU:=hide (HU.out.under hbel (by omega));replace HL:=hide (HL.out.under hbel (by omega));replace HV:=hide (HV.out.under hbel (by omega));have hsz2:=hbel.size;have q3_4:wE.cell? ⟨w.heap.size,4,none⟩=some (.slice AU nU cU):=R3.out.cell 4;have q4_1:wE.cell? ⟨w.heap.size+1,1,none⟩=some (.slice AV nV cV):=R4.out.cell 1;clear hbel)|(refine wpList_storeW rfl 42 (.tmp 9) (.tmp 19) rfl 3 entw_size (wE.heap.size) 42 rfl [.int .i64 0,.int .i64 0,.string ⟨#[]⟩] (cellsE E) rfl (RowL.new wE 42 [.int .i64 0,.int .i64 0,.string ⟨#[]⟩]) rfl rfl (cellsE_one _) ?_;intro wS3 hr3 hg3 hs3;have hzb:=below_stored' hg3;clear q3_4 q4_1;replace HB:=hide (HB.out.trans (hzb.mono HB.out.size));replace R3:=hide (R3.out.on hzb);replace R4:=hide (R4.out.on hzb);replace R7:=hide (R7.out.on hzb);replace R8:=hide (R8.out.on hzb);replace HU:=hide (HU.out.under hzb (by omega));replace HL:=hide (HL.out.under hzb (by omega));replace HV:=hide (HV.out.under hzb (by omega));have hsz4:=hzb.size;have q3_4:wS3.cell? ⟨w.heap.size,4,none⟩=some (.slice AU nU cU):=R3.out.cell 4;have q4_1:wS3.cell? ⟨w.heap.size+1,1,none⟩=some (.slice AV nV cV):=R4.out.cell 1;have RE:=hide hr3;have hlt3:=hr3.lt;have q9_1:wS3.cell? ⟨wE.heap.size,1,none⟩=some (.int .i64 E.ino):=RE.out.cell 1;clear hzb hr3;clear hg3 hs3)|(refine wpList_loadW rfl 29 (.tmp 3) rfl 6 stk_agg stk_size (w.heap.size) 29 rfl (stkC g (.slice AU nU cU) (.slice AL nL cL)) R3.out rfl ?_)|(go_at_call 109;refine (RFind_ev HR.out wS3 HL.out (und_up HV.out (by omega)) (by omega) HF.out hnV).mono ?_;rintro e5 wF ⟨A3,c3,rfl,-,h3,hbel⟩;clear q3_4 q9_1 q4_1;replace HB:=hide (HB.out.trans (hbel.mono HB.out.size));replace R3:=hide (R3.out.on hbel);replace R4:=hide (R4.out.on hbel);replace R7:=hide (R7.out.on hbel);replace R8:=hide (R8.out.on hbel);replace HU:=hide (HU.out.under hbel (by omega));replace HL:=hide (HL.out.under hbel (by omega));replace HV:=hide (HV.out.under hbel (by omega));replace RE:=hide (RE.out.on hbel);have hsz6:=hbel.size;have q3_4:wF.cell? ⟨w.heap.size,4,none⟩=some (.slice AU nU cU):=R3.out.cell 4;have q9_1:wF.cell? ⟨wE.heap.size,1,none⟩=some (.int .i64 E.ino):=RE.out.cell 1;have q4_1:wF.cell? ⟨w.heap.size+1,1,none⟩=some (.slice AV nV cV):=R4.out.cell 1;have H3:=hide h3;clear h3;have hwE:w.heap.size+4≤wS3.heap.size:=(by omega);clear hbel))
    obtain ⟨bP,oP,hAP,hbP,hcP⟩:=pr_get H3.out hp0
    have hbP2:bP < wF.heap.size:=hbP.2
    have hbP1:wS3.heap.size≤bP:=hbP.1
    have HCP:=hide (fun (j:Nat) (v:Value) (hv:(prC p)[j]?=some v)=>show wF.cell? ⟨bP,oP+j,none⟩=some v from by have:=hcP j v hv;simpa using this)
    subst hAP
    clear hcP
    refine wp_region_planN (fun w'=>TwoS wF w.heap.size (w.heap.size+1+1) 47 2 (w.heap.size+1+1+1) 49 2 w') [(0,true),(1,true),(2,true),(3,true),(4,true),(5,true),(6,false),(7,false)] (by kernel_rfl) (by kernel_rfl) (by kernel_rfl) (by kernel_rfl) rfl (fun _ _ _ _ _ h=>h) (TwoS.start (base:=w.heap.size) R7.out rfl R8.out rfl) (fun hHeld=>?_)
    simp only [planOps,List.filterMap_cons,List.filterMap_nil,List.getElem?_toArray,List.getElem?_cons_succ,List.getElem?_cons_zero,Option.map_some]
    iterate 4
     refine wpPlan_take (v:=?_) (by kernel_rfl) (fun wS hSw=>?_) ?_
     rotate_left
     ·(try dsimp only at hSw);go_simp;(try with_reducible rfl)
     (try simp only [Act.put,pu1,pu2,pu3])
    refine wpPlan_take (v:=?_) (by kernel_rfl) (fun wS hSw=>?_) ?_
    rotate_left
    ·refine execOp_load (x:=.tmp 81) (k:=2) (g:=bP) (off:=oP) (cs:=prC p) ?_ plc_agg plc_size ?_ (fun j v hv=>(cell_same (hSw.1 bP hbP2 (by omega) (by omega))).trans (HCP.out j v hv)) rfl <;> rfl
    (try simp only [Act.put,pu1,pu2,pu3])
    refine wpPlan_take (v:=?_) (by kernel_rfl) (fun wS hSw=>?_) ?_
    rotate_left
    ·(try dsimp only at hSw);go_simp;(try with_reducible rfl)
    (try simp only [Act.put,pu1,pu2,pu3])
    refine wpPlan_call (by kernel_rfl) (fun K hK=>?_)
    have hOld:=hide hHeld
    clear hHeld
    obtain ⟨pk,⟨cu5,p5,l5⟩,p6,pb⟩:=hOld.out
    refine wp_storeC 47 (.tmp 7) (.tmp 79) rfl 2 viw_size (w.heap.size+1+1) 0 47 rfl cu5 (viwC 0 (.slice none 0 0)) rfl p5 rfl (by omega) (viwC_one _ _ _ _) ?_
    intro w' hr' hg' hs'
    rw [splice_all _ _ (by rw [l5];rfl)] at hr'
    refine hK.out _ _ (hOld.out.st5 hg' hr' rfl (by omega) (by omega) (by omega)) (fun hHeld=>?_)
    clear hK K
    have hsO:=hOld.out.2.2.2.size
    have HR5:=hide hr'
    clear hr' hg' hs' pk p5 p6 pb hsO
    (try simp only [Act.put])
    refine wpPlan_call (by kernel_rfl) (fun K hK=>?_)
    have hOld:=hide hHeld
    clear hHeld
    obtain ⟨pk,p5,⟨cu6,p6,l6⟩,pb⟩:=hOld.out
    refine wp_storeC 49 (.tmp 8) (.tmp 82) rfl 2 plc_size (w.heap.size+1+1+1) 0 49 rfl cu6 (prC p) rfl p6 rfl (by omega) (prC_one _) ?_
    intro w' hr' hg' hs'
    rw [splice_all _ _ (by rw [l6];rfl)] at hr'
    refine hK.out _ _ (hOld.out.st6 hg' hr' rfl (by omega) (by omega) (by omega)) (fun hHeld=>?_)
    clear hK K
    have hsO:=hOld.out.2.2.2.size
    have HR6:=hide hr'
    replace HR5:=hide (HR5.out.grown hg' (pu5 (by omega)))
    clear hr' hg' hs' pk p5 p6 pb hsO
    (try simp only [Act.put])
    refine wpPlan_end ?_
    have HSF:=hide hHeld
    clear hHeld
    go_wp2_with fail
    exact bodyPost_ret (res_tcc Tryz.results78 rfl rfl rfl viw_agg viw_size plc_agg plc_size HR5.out rfl HR6.out rfl) rfl ⟨none,0,rfl,RdE.none_ _ _ _ _,HB.out.trans HSF.out.2.2.2⟩
 | some e =>
  have HBO:=hide (show (firstB up u nm).isSome=true from by rw [ho];rfl)
  rw [ho] at hE
  have huse:=(firstB_use ho).1
  have hEe:E=e:=hE.symm
  subst hEe
  obtain ⟨N,hN⟩:∃N,nodAt up E.ino=N:=⟨_,rfl⟩
  have HN:=hide hN
  rw [hN] at huse
  have hkr:=(show PlainN N from by rw [←hN];exact nodAt_plain hup.2 _).2.1
  dsimp only
  unfold upStep
  rw [hN]
  by_cases h1:N.k=1
  ·rw [if_pos h1]
   have hk1:(N.k==1)=true:=by simpa using h1
   obtain ⟨P,hP⟩:∃P,partV up ls vl E.ino nm=P:=⟨_,rfl⟩
   have HP:=hide hP
   rw [hP]
   clear r0 r1 r2 r3 hb1 hW1 hu h hF hup hv hE ho hN huse hkr h1 hP
   go_enter Tryz.func78,Tryz.ntmps78
   go_wp2_with (first|(refine wpList_loadW rfl 29 (.tmp 3) rfl 6 stk_agg stk_size (w.heap.size) 29 rfl (stkC g (.slice AU nU cU) (.slice AL nL cL)) R3.out rfl ?_)|(refine wpList_loadW rfl 47 (.tmp 4) rfl 2 viw_agg viw_size (w.heap.size+1) 47 rfl (viwC u (.slice AV nV cV)) R4.out rfl ?_)|(go_at_call 93;refine (REnt17_e HE.out HBO.out (B:=B) W1 HU.out (by omega) HFU.out).mono ?_;rintro e1 wE ⟨rfl,hbel⟩;clear q3_4 q4_1;replace HB:=hide (HB.out.trans (hbel.mono HB.out.size));replace R3:=hide (R3.out.on hbel);replace R4:=hide (R4.out.on hbel);replace R7:=hide (R7.out.on hbel);replace R8:=hide (R8.out.on hbel);replace HU:=hide (HU.out.under hbel (by omega));replace HL:=hide (HL.out.under hbel (by omega));replace HV:=hide (HV.out.under hbel (by omega));have hsz2:=hbel.size;have q3_4:wE.cell? ⟨w.heap.size,4,none⟩=some (.slice AU nU cU):=R3.out.cell 4;have q4_1:wE.cell? ⟨w.heap.size+1,1,none⟩=some (.slice AV nV cV):=R4.out.cell 1;clear hbel)|(refine wpList_storeW rfl 42 (.tmp 9) (.tmp 19) rfl 3 entw_size (wE.heap.size) 42 rfl [.int .i64 0,.int .i64 0,.string ⟨#[]⟩] (cellsE E) rfl (RowL.new wE 42 [.int .i64 0,.int .i64 0,.string ⟨#[]⟩]) rfl rfl (cellsE_one _) ?_;intro wS3 hr3 hg3 hs3;have hzb:=below_stored' hg3;clear q3_4 q4_1;replace HB:=hide (HB.out.trans (hzb.mono HB.out.size));replace R3:=hide (R3.out.on hzb);replace R4:=hide (R4.out.on hzb);replace R7:=hide (R7.out.on hzb);replace R8:=hide (R8.out.on hzb);replace HU:=hide (HU.out.under hzb (by omega));replace HL:=hide (HL.out.under hzb (by omega));replace HV:=hide (HV.out.under hzb (by omega));have hsz4:=hzb.size;have q3_4:wS3.cell? ⟨w.heap.size,4,none⟩=some (.slice AU nU cU):=R3.out.cell 4;have q4_1:wS3.cell? ⟨w.heap.size+1,1,none⟩=some (.slice AV nV cV):=R4.out.cell 1;have RE:=hide hr3;have hlt3:=hr3.lt;have q9_1:wS3.cell? ⟨wE.heap.size,1,none⟩=some (.int .i64 E.ino):=RE.out.cell 1;clear hzb hr3;clear hg3 hs3)|(go_at_call 101;refine (At_e HN.out wS3 HU.out (by omega) (by have:=HFU.out.1;omega)).mono ?_;rintro e5 wA ⟨A1,n1,c1,C1,m1,d1,rfl,-,-,-,-,hbel⟩;clear q3_4 q9_1 q4_1;replace HB:=hide (HB.out.trans (hbel.mono HB.out.size));replace R3:=hide (R3.out.on hbel);replace R4:=hide (R4.out.on hbel);replace R7:=hide (R7.out.on hbel);replace R8:=hide (R8.out.on hbel);replace HU:=hide (HU.out.under hbel (by omega));replace HL:=hide (HL.out.under hbel (by omega));replace HV:=hide (HV.out.under hbel (by omega));replace RE:=hide (RE.out.on hbel);have hsz6:=hbel.size;have q3_4:wA.cell? ⟨w.heap.size,4,none⟩=some (.slice AU nU cU):=R3.out.cell 4;have q9_1:wA.cell? ⟨wE.heap.size,1,none⟩=some (.int .i64 E.ino):=RE.out.cell 1;have q4_1:wA.cell? ⟨w.heap.size+1,1,none⟩=some (.slice AV nV cV):=R4.out.cell 1;clear hbel)|(refine wpList_storeW rfl 38 (.tmp 11) (.tmp 26) rfl 13 nod_size (wA.heap.size) 38 rfl (nodC nod0 (.slice none 0 0) (.slice none 0 0)) (nodC N (.slice A1 n1 c1) (.slice C1 m1 d1)) rfl (RowL.new wA 38 (nodC nod0 (.slice none 0 0) (.slice none 0 0))) rfl rfl (nodC_one _ _ _ _ _ _ _) ?_;intro wS7 hr7 hg7 hs7;have hzb:=below_stored' hg7;clear q3_4 q9_1 q4_1;replace HB:=hide (HB.out.trans (hzb.mono HB.out.size));replace R3:=hide (R3.out.on hzb);replace R4:=hide (R4.out.on hzb);replace R7:=hide (R7.out.on hzb);replace R8:=hide (R8.out.on hzb);replace HU:=hide (HU.out.under hzb (by omega));replace HL:=hide (HL.out.under hzb (by omega));replace HV:=hide (HV.out.under hzb (by omega));replace RE:=hide (RE.out.on hzb);have hsz8:=hzb.size;have q3_4:wS7.cell? ⟨w.heap.size,4,none⟩=some (.slice AU nU cU):=R3.out.cell 4;have q9_1:wS7.cell? ⟨wE.heap.size,1,none⟩=some (.int .i64 E.ino):=RE.out.cell 1;have q4_1:wS7.cell? ⟨w.heap.size+1,1,none⟩=some (.slice AV nV cV):=R4.out.cell 1;have RN:=hide hr7;have hlt7:=hr7.lt;have q11_0:wS7.cell? ⟨wA.heap.size,0,none⟩=some (.int .i64 N.k):=RN.out.cell 0;clear hzb hr7;clear hg7 hs7))
   refine wp_region_planN (fun w'=>TwoS wS7 w.heap.size (w.heap.size+1+1) 47 2 (w.heap.size+1+1+1) 49 2 w') [(0,true),(1,true),(2,true),(3,true),(4,true),(5,true),(6,true),(9,true),(10,true),(11,true),(7,false),(8,true),(12,true),(13,false),(14,false)] (by kernel_rfl) (by kernel_rfl) (by kernel_rfl) (by kernel_rfl) rfl (fun _ _ _ _ _ h=>h) (TwoS.start (base:=w.heap.size) R7.out rfl R8.out rfl) (fun hHeld=>?_)
   simp only [planOps,List.filterMap_cons,List.filterMap_nil,List.getElem?_toArray,List.getElem?_cons_succ,List.getElem?_cons_zero,Option.map_some]
   refine wpPlan_take (v:=?_) (by kernel_rfl) (fun wS hSw=>?_) ?_
   rotate_left
   ·(try dsimp only at hSw);go_simp;(try with_reducible rfl)
   (try simp only [Act.put,pu1,pu2,pu3])
   refine wpPlan_take (v:=?_) (by kernel_rfl) (fun wS hSw=>?_) ?_
   rotate_left
   ·have qx:=((hSw.row RE.out (by omega) (by omega)).cell 1).trans (show (cellsE E)[1]?=some (.int .i64 E.ino) from rfl);go_simp;(try with_reducible rfl)
   (try simp only [Act.put,pu1,pu2,pu3])
   refine wpPlan_take (v:=?_) (by kernel_rfl) (fun wS hSw=>?_) ?_
   rotate_left
   ·refine execOp_load (x:=.tmp 3) (k:=6) (g:=w.heap.size) (off:=0) (cs:=(stkC g (.slice AU nU cU) (.slice AL nL cL))) ?_ stk_agg stk_size ?_ (fun j v hv=>by rw [Nat.zero_add];exact ((hSw.row R3.out (by omega) (by omega)).cell j).trans hv) rfl <;> rfl
   (try simp only [Act.put,pu1,pu2,pu3])
   refine wpPlan_take (v:=?_) (by kernel_rfl) (fun wS hSw=>?_) ?_
   rotate_left
   ·refine execOp_load (x:=.tmp 4) (k:=2) (g:=w.heap.size+1) (off:=0) (cs:=(viwC u (.slice AV nV cV))) ?_ viw_agg viw_size ?_ (fun j v hv=>by rw [Nat.zero_add];exact ((hSw.row R4.out (by omega) (by omega)).cell j).trans hv) rfl <;> rfl
   (try simp only [Act.put,pu1,pu2,pu3])
   refine wpPlan_take (v:=?_) (by kernel_rfl) (fun wS hSw=>?_) ?_
   rotate_left
   ·(try dsimp only at hSw);go_simp;(try with_reducible rfl)
   (try simp only [Act.put,pu1,pu2,pu3])
   refine wpPlan_take (v:=?_) (by kernel_rfl) (fun wS hSw=>?_) ?_
   rotate_left
   ·have qx:=((hSw.row RE.out (by omega) (by omega)).cell 1).trans (show (cellsE E)[1]?=some (.int .i64 E.ino) from rfl);go_simp;(try with_reducible rfl)
   (try simp only [Act.put,pu1,pu2,pu3])
   iterate 2
    refine wpPlan_take (v:=?_) (by kernel_rfl) (fun wS hSw=>?_) ?_
    rotate_left
    ·(try dsimp only at hSw);go_simp;(try with_reducible rfl)
    (try simp only [Act.put,pu1,pu2,pu3])
   refine wpPlan_take (v:=?_) (by kernel_rfl) (fun wS hSw=>?_) ?_
   rotate_left
   ·have qx:=((hSw.row RE.out (by omega) (by omega)).cell 1).trans (show (cellsE E)[1]?=some (.int .i64 E.ino) from rfl);go_simp;(try with_reducible rfl)
   (try simp only [Act.put,pu1,pu2,pu3])
   refine wpPlan_take (v:=?_) (by kernel_rfl) (fun wS hSw=>?_) ?_
   rotate_left
   ·(try dsimp only at hSw);go_simp;(try with_reducible rfl)
   (try simp only [Act.put,pu1,pu2,pu3])
   refine wpPlan_call (by kernel_rfl) (fun K hK=>?_)
   have hOld:=hide hHeld
   clear hHeld
   go_simp
   go_at_call 128
   refine (RVPart_e HP.out _ (hOld.out.und HU.out (by omega) (by omega) (by omega)) (hOld.out.und HL.out (by omega) (by omega) (by omega)) (by have:=hOld.out.2.2.2.size;omega) HF.out HFU.out (hOld.out.und HV.out (by omega) (by omega) (by omega)) (by have:=hOld.out.2.2.2.size;omega) hnV).mono ?_
   rintro e w' ⟨A3,c3,rfl,h3,hbel⟩
   have H3:=hide (fr_low h3 (lo':=W1.heap.size) (by have:=hOld.out.2.2.2.size;omega))
   clear h3
   refine hK.out _ _ (hOld.out.on hbel (by omega)) (fun hHeld=>?_)
   clear hK K
   (try simp only [Act.put,pu1,pu2,pu3])
   iterate 2
    refine wpPlan_take (v:=?_) (by kernel_rfl) (fun wS hSw=>?_) ?_
    rotate_left
    ·(try dsimp only at hSw);go_simp;(try with_reducible rfl)
    (try simp only [Act.put,pu1,pu2,pu3])
   refine wpPlan_call (by kernel_rfl) (fun K hK=>?_)
   have hOld:=hide hHeld
   clear hHeld
   obtain ⟨pk,⟨cu5,p5,l5⟩,p6,pb⟩:=hOld.out
   refine wp_storeC 47 (.tmp 7) (.tmp 38) rfl 2 viw_size (w.heap.size+1+1) 0 47 rfl cu5 (viwC E.ino (.slice A3 P.length c3)) rfl p5 rfl (by omega) (viwC_one _ _ _ _) ?_
   intro w' hr' hg' hs'
   rw [splice_all _ _ (by rw [l5];rfl)] at hr'
   refine hK.out _ _ (hOld.out.st5 hg' hr' rfl (by omega) (by omega) (by omega)) (fun hHeld=>?_)
   clear hK K
   have hsO:=hOld.out.2.2.2.size
   replace H3:=hide (fr_grown H3.out hg' (by omega))
   have HR5:=hide hr'
   clear hr' hg' hs' pk p5 p6 pb hsO
   (try simp only [Act.put])
   refine wpPlan_call (by kernel_rfl) (fun K hK=>?_)
   have hOld:=hide hHeld
   clear hHeld
   obtain ⟨pk,p5,⟨cu6,p6,l6⟩,pb⟩:=hOld.out
   refine wp_storeC 49 (.tmp 8) (.tmp 41) rfl 2 plc_size (w.heap.size+1+1+1) 0 49 rfl cu6 (prC (0,E.ino)) rfl p6 rfl (by omega) (prC_one _) ?_
   intro w' hr' hg' hs'
   rw [splice_all _ _ (by rw [l6];rfl)] at hr'
   refine hK.out _ _ (hOld.out.st6 hg' hr' rfl (by omega) (by omega) (by omega)) (fun hHeld=>?_)
   clear hK K
   have hsO:=hOld.out.2.2.2.size
   replace H3:=hide (fr_grown H3.out hg' (by omega))
   have HR6:=hide hr'
   replace HR5:=hide (HR5.out.grown hg' (pu5 (by omega)))
   clear hr' hg' hs' pk p5 p6 pb hsO
   (try simp only [Act.put])
   refine wpPlan_end ?_
   have HSF:=hide hHeld
   clear hHeld
   go_wp2_with fail
   exact bodyPost_ret (res_tcc Tryz.results78 rfl rfl rfl viw_agg viw_size plc_agg plc_size HR5.out rfl HR6.out rfl) rfl ⟨A3,c3,rfl,fr_low H3.out (by omega),HB.out.trans HSF.out.2.2.2⟩
  ·rw [if_neg h1]
   have hk1:(N.k==1)=false:=by simpa using h1
   by_cases h4:N.k=4
   ·rw [if_pos h4]
    have hk2:(N.k==2)=false:=by simp [h4]
    have hk3:(N.k==3)=false:=by simp [h4]
    unfold noStep
    clear r0 r1 r2 r3 hb1 hW1 hu h hF hup hv hE ho hN huse hkr h1 h4
    go_enter Tryz.func78,Tryz.ntmps78
    go_wp2_with (first|(refine wpList_loadW rfl 29 (.tmp 3) rfl 6 stk_agg stk_size (w.heap.size) 29 rfl (stkC g (.slice AU nU cU) (.slice AL nL cL)) R3.out rfl ?_)|(refine wpList_loadW rfl 47 (.tmp 4) rfl 2 viw_agg viw_size (w.heap.size+1) 47 rfl (viwC u (.slice AV nV cV)) R4.out rfl ?_)|(go_at_call 93;refine (REnt17_e HE.out HBO.out (B:=B) W1 HU.out (by omega) HFU.out).mono ?_;rintro e1 wE ⟨rfl,hbel⟩;clear q3_4 q4_1;replace HB:=hide (HB.out.trans (hbel.mono HB.out.size));replace R3:=hide (R3.out.on hbel);replace R4:=hide (R4.out.on hbel);replace R7:=hide (R7.out.on hbel);replace R8:=hide (R8.out.on hbel);replace HU:=hide (HU.out.under hbel (by omega));replace HL:=hide (HL.out.under hbel (by omega));replace HV:=hide (HV.out.under hbel (by omega));have hsz2:=hbel.size;have q3_4:wE.cell? ⟨w.heap.size,4,none⟩=some (.slice AU nU cU):=R3.out.cell 4;have q4_1:wE.cell? ⟨w.heap.size+1,1,none⟩=some (.slice AV nV cV):=R4.out.cell 1;clear hbel)|(refine wpList_storeW rfl 42 (.tmp 9) (.tmp 19) rfl 3 entw_size (wE.heap.size) 42 rfl [.int .i64 0,.int .i64 0,.string ⟨#[]⟩] (cellsE E) rfl (RowL.new wE 42 [.int .i64 0,.int .i64 0,.string ⟨#[]⟩]) rfl rfl (cellsE_one _) ?_;intro wS3 hr3 hg3 hs3;have hzb:=below_stored' hg3;clear q3_4 q4_1;replace HB:=hide (HB.out.trans (hzb.mono HB.out.size));replace R3:=hide (R3.out.on hzb);replace R4:=hide (R4.out.on hzb);replace R7:=hide (R7.out.on hzb);replace R8:=hide (R8.out.on hzb);replace HU:=hide (HU.out.under hzb (by omega));replace HL:=hide (HL.out.under hzb (by omega));replace HV:=hide (HV.out.under hzb (by omega));have hsz4:=hzb.size;have q3_4:wS3.cell? ⟨w.heap.size,4,none⟩=some (.slice AU nU cU):=R3.out.cell 4;have q4_1:wS3.cell? ⟨w.heap.size+1,1,none⟩=some (.slice AV nV cV):=R4.out.cell 1;have RE:=hide hr3;have hlt3:=hr3.lt;have q9_1:wS3.cell? ⟨wE.heap.size,1,none⟩=some (.int .i64 E.ino):=RE.out.cell 1;clear hzb hr3;clear hg3 hs3)|(go_at_call 101;refine (At_e HN.out wS3 HU.out (by omega) (by have:=HFU.out.1;omega)).mono ?_;rintro e5 wA ⟨A1,n1,c1,C1,m1,d1,rfl,-,-,-,-,hbel⟩;clear q3_4 q9_1 q4_1;replace HB:=hide (HB.out.trans (hbel.mono HB.out.size));replace R3:=hide (R3.out.on hbel);replace R4:=hide (R4.out.on hbel);replace R7:=hide (R7.out.on hbel);replace R8:=hide (R8.out.on hbel);replace HU:=hide (HU.out.under hbel (by omega));replace HL:=hide (HL.out.under hbel (by omega));replace HV:=hide (HV.out.under hbel (by omega));replace RE:=hide (RE.out.on hbel);have hsz6:=hbel.size;have q3_4:wA.cell? ⟨w.heap.size,4,none⟩=some (.slice AU nU cU):=R3.out.cell 4;have q9_1:wA.cell? ⟨wE.heap.size,1,none⟩=some (.int .i64 E.ino):=RE.out.cell 1;have q4_1:wA.cell? ⟨w.heap.size+1,1,none⟩=some (.slice AV nV cV):=R4.out.cell 1;clear hbel)|(refine wpList_storeW rfl 38 (.tmp 11) (.tmp 26) rfl 13 nod_size (wA.heap.size) 38 rfl (nodC nod0 (.slice none 0 0) (.slice none 0 0)) (nodC N (.slice A1 n1 c1) (.slice C1 m1 d1)) rfl (RowL.new wA 38 (nodC nod0 (.slice none 0 0) (.slice none 0 0))) rfl rfl (nodC_one _ _ _ _ _ _ _) ?_;intro wS7 hr7 hg7 hs7;have hzb:=below_stored' hg7;clear q3_4 q9_1 q4_1;replace HB:=hide (HB.out.trans (hzb.mono HB.out.size));replace R3:=hide (R3.out.on hzb);replace R4:=hide (R4.out.on hzb);replace R7:=hide (R7.out.on hzb);replace R8:=hide (R8.out.on hzb);replace HU:=hide (HU.out.under hzb (by omega));replace HL:=hide (HL.out.under hzb (by omega));replace HV:=hide (HV.out.under hzb (by omega));replace RE:=hide (RE.out.on hzb);have hsz8:=hzb.size;have q3_4:wS7.cell? ⟨w.heap.size,4,none⟩=some (.slice AU nU cU):=R3.out.cell 4;have q9_1:wS7.cell? ⟨wE.heap.size,1,none⟩=some (.int .i64 E.ino):=RE.out.cell 1;have q4_1:wS7.cell? ⟨w.heap.size+1,1,none⟩=some (.slice AV nV cV):=R4.out.cell 1;have RN:=hide hr7;have hlt7:=hr7.lt;have q11_0:wS7.cell? ⟨wA.heap.size,0,none⟩=some (.int .i64 N.k):=RN.out.cell 0;clear hzb hr7;clear hg7 hs7)|(refine wpList_storeW rfl 47 (.tmp 7) (.tmp 56) rfl 2 viw_size (w.heap.size+1+1) 47 rfl (viwC 0 (.slice none 0 0)) (viwC 0 (.slice none 0 0)) rfl R7.out rfl rfl (viwC_one _ _ _ _) ?_;intro wS9 hr9 hg9 hs9;clear q3_4 q9_1 q11_0 q4_1;replace HB:=hide (HB.out.grown hg9 (by omega) (pu4 (by omega)));replace R3:=hide (R3.out.grown hg9 (pu5 (by omega)));replace R4:=hide (R4.out.grown hg9 (pu5 (by omega)));replace R8:=hide (R8.out.grown hg9 (pu5 (by omega)));replace HU:=hide (und_grown HU.out hg9 (by omega) (by omega));replace HL:=hide (und_grown HL.out hg9 (by omega) (by omega));replace HV:=hide (und_grown HV.out hg9 (by omega) (by omega));replace RE:=hide (RE.out.grown hg9 (pu5 (by omega)));replace RN:=hide (RN.out.grown hg9 (pu5 (by omega)));have hsz10:=hg9.size;replace R7:=hide hr9;have q3_4:wS9.cell? ⟨w.heap.size,4,none⟩=some (.slice AU nU cU):=R3.out.cell 4;have q9_1:wS9.cell? ⟨wE.heap.size,1,none⟩=some (.int .i64 E.ino):=RE.out.cell 1;have q11_0:wS9.cell? ⟨wA.heap.size,0,none⟩=some (.int .i64 N.k):=RN.out.cell 0;have q4_1:wS9.cell? ⟨w.heap.size+1,1,none⟩=some (.slice AV nV cV):=R4.out.cell 1;clear hr9 hg9 hs9)|(refine wpList_storeW rfl 49 (.tmp 8) (.tmp 57) rfl 2 plc_size (w.heap.size+1+1+1) 49 rfl (prC (0,0)) (prC (0,0)) rfl R8.out rfl rfl (prC_one _) ?_;intro wS11 hr11 hg11 hs11;clear q3_4 q9_1 q11_0 q4_1;replace HB:=hide (HB.out.grown hg11 (by omega) (pu4 (by omega)));replace R3:=hide (R3.out.grown hg11 (pu5 (by omega)));replace R4:=hide (R4.out.grown hg11 (pu5 (by omega)));replace R7:=hide (R7.out.grown hg11 (pu5 (by omega)));replace HU:=hide (und_grown HU.out hg11 (by omega) (by omega));replace HL:=hide (und_grown HL.out hg11 (by omega) (by omega));replace HV:=hide (und_grown HV.out hg11 (by omega) (by omega));replace RE:=hide (RE.out.grown hg11 (pu5 (by omega)));replace RN:=hide (RN.out.grown hg11 (pu5 (by omega)));have hsz12:=hg11.size;replace R8:=hide hr11;have q3_4:wS11.cell? ⟨w.heap.size,4,none⟩=some (.slice AU nU cU):=R3.out.cell 4;have q9_1:wS11.cell? ⟨wE.heap.size,1,none⟩=some (.int .i64 E.ino):=RE.out.cell 1;have q11_0:wS11.cell? ⟨wA.heap.size,0,none⟩=some (.int .i64 N.k):=RN.out.cell 0;have q4_1:wS11.cell? ⟨w.heap.size+1,1,none⟩=some (.slice AV nV cV):=R4.out.cell 1;clear hr11 hg11 hs11))
    exact bodyPost_ret (res_tcc Tryz.results78 rfl rfl rfl viw_agg viw_size plc_agg plc_size R7.out rfl R8.out rfl) rfl ⟨none,0,rfl,RdE.none_ _ _ _ _,HB.out⟩
   ·rw [if_neg h4]
    by_cases h2:N.k=2
    ·have hk2:(N.k==2)=true:=by simpa using h2
     clear r0 r1 r2 r3 hb1 hW1 hu h hF hup hv hE ho hN huse hkr h1 h4 h2
     go_enter Tryz.func78,Tryz.ntmps78
     go_wp2_with (first|(refine wpList_loadW rfl 29 (.tmp 3) rfl 6 stk_agg stk_size (w.heap.size) 29 rfl (stkC g (.slice AU nU cU) (.slice AL nL cL)) R3.out rfl ?_)|(refine wpList_loadW rfl 47 (.tmp 4) rfl 2 viw_agg viw_size (w.heap.size+1) 47 rfl (viwC u (.slice AV nV cV)) R4.out rfl ?_)|(go_at_call 93;refine (REnt17_e HE.out HBO.out (B:=B) W1 HU.out (by omega) HFU.out).mono ?_;rintro e1 wE ⟨rfl,hbel⟩;clear q3_4 q4_1;replace HB:=hide (HB.out.trans (hbel.mono HB.out.size));replace R3:=hide (R3.out.on hbel);replace R4:=hide (R4.out.on hbel);replace R7:=hide (R7.out.on hbel);replace R8:=hide (R8.out.on hbel);replace HU:=hide (HU.out.under hbel (by omega));replace HL:=hide (HL.out.under hbel (by omega));replace HV:=hide (HV.out.under hbel (by omega));have hsz2:=hbel.size;have q3_4:wE.cell? ⟨w.heap.size,4,none⟩=some (.slice AU nU cU):=R3.out.cell 4;have q4_1:wE.cell? ⟨w.heap.size+1,1,none⟩=some (.slice AV nV cV):=R4.out.cell 1;clear hbel)|(refine wpList_storeW rfl 42 (.tmp 9) (.tmp 19) rfl 3 entw_size (wE.heap.size) 42 rfl [.int .i64 0,.int .i64 0,.string ⟨#[]⟩] (cellsE E) rfl (RowL.new wE 42 [.int .i64 0,.int .i64 0,.string ⟨#[]⟩]) rfl rfl (cellsE_one _) ?_;intro wS3 hr3 hg3 hs3;have hzb:=below_stored' hg3;clear q3_4 q4_1;replace HB:=hide (HB.out.trans (hzb.mono HB.out.size));replace R3:=hide (R3.out.on hzb);replace R4:=hide (R4.out.on hzb);replace R7:=hide (R7.out.on hzb);replace R8:=hide (R8.out.on hzb);replace HU:=hide (HU.out.under hzb (by omega));replace HL:=hide (HL.out.under hzb (by omega));replace HV:=hide (HV.out.under hzb (by omega));have hsz4:=hzb.size;have q3_4:wS3.cell? ⟨w.heap.size,4,none⟩=some (.slice AU nU cU):=R3.out.cell 4;have q4_1:wS3.cell? ⟨w.heap.size+1,1,none⟩=some (.slice AV nV cV):=R4.out.cell 1;have RE:=hide hr3;have hlt3:=hr3.lt;have q9_1:wS3.cell? ⟨wE.heap.size,1,none⟩=some (.int .i64 E.ino):=RE.out.cell 1;clear hzb hr3;clear hg3 hs3)|(go_at_call 101;refine (At_e HN.out wS3 HU.out (by omega) (by have:=HFU.out.1;omega)).mono ?_;rintro e5 wA ⟨A1,n1,c1,C1,m1,d1,rfl,-,-,-,-,hbel⟩;clear q3_4 q9_1 q4_1;replace HB:=hide (HB.out.trans (hbel.mono HB.out.size));replace R3:=hide (R3.out.on hbel);replace R4:=hide (R4.out.on hbel);replace R7:=hide (R7.out.on hbel);replace R8:=hide (R8.out.on hbel);replace HU:=hide (HU.out.under hbel (by omega));replace HL:=hide (HL.out.under hbel (by omega));replace HV:=hide (HV.out.under hbel (by omega));replace RE:=hide (RE.out.on hbel);have hsz6:=hbel.size;have q3_4:wA.cell? ⟨w.heap.size,4,none⟩=some (.slice AU nU cU):=R3.out.cell 4;have q9_1:wA.cell? ⟨wE.heap.size,1,none⟩=some (.int .i64 E.ino):=RE.out.cell 1;have q4_1:wA.cell? ⟨w.heap.size+1,1,none⟩=some (.slice AV nV cV):=R4.out.cell 1;clear hbel)|(refine wpList_storeW rfl 38 (.tmp 11) (.tmp 26) rfl 13 nod_size (wA.heap.size) 38 rfl (nodC nod0 (.slice none 0 0) (.slice none 0 0)) (nodC N (.slice A1 n1 c1) (.slice C1 m1 d1)) rfl (RowL.new wA 38 (nodC nod0 (.slice none 0 0) (.slice none 0 0))) rfl rfl (nodC_one _ _ _ _ _ _ _) ?_;intro wS7 hr7 hg7 hs7;have hzb:=below_stored' hg7;clear q3_4 q9_1 q4_1;replace HB:=hide (HB.out.trans (hzb.mono HB.out.size));replace R3:=hide (R3.out.on hzb);replace R4:=hide (R4.out.on hzb);replace R7:=hide (R7.out.on hzb);replace R8:=hide (R8.out.on hzb);replace HU:=hide (HU.out.under hzb (by omega));replace HL:=hide (HL.out.under hzb (by omega));replace HV:=hide (HV.out.under hzb (by omega));replace RE:=hide (RE.out.on hzb);have hsz8:=hzb.size;have q3_4:wS7.cell? ⟨w.heap.size,4,none⟩=some (.slice AU nU cU):=R3.out.cell 4;have q9_1:wS7.cell? ⟨wE.heap.size,1,none⟩=some (.int .i64 E.ino):=RE.out.cell 1;have q4_1:wS7.cell? ⟨w.heap.size+1,1,none⟩=some (.slice AV nV cV):=R4.out.cell 1;have RN:=hide hr7;have hlt7:=hr7.lt;have q11_0:wS7.cell? ⟨wA.heap.size,0,none⟩=some (.int .i64 N.k):=RN.out.cell 0;clear hzb hr7;clear hg7 hs7))
     refine wp_region_planN (fun w'=>TwoS wS7 w.heap.size (w.heap.size+1+1) 47 2 (w.heap.size+1+1+1) 49 2 w') [(0,true),(1,true),(2,true),(3,true),(4,true),(5,true),(6,true),(7,false),(8,false)] (by kernel_rfl) (by kernel_rfl) (by kernel_rfl) (by kernel_rfl) rfl (fun _ _ _ _ _ h=>h) (TwoS.start (base:=w.heap.size) R7.out rfl R8.out rfl) (fun hHeld=>?_)
     simp only [planOps,List.filterMap_cons,List.filterMap_nil,List.getElem?_toArray,List.getElem?_cons_succ,List.getElem?_cons_zero,Option.map_some]
     refine wpPlan_take (v:=?_) (by kernel_rfl) (fun wS hSw=>?_) ?_
     rotate_left
     ·(try dsimp only at hSw);go_simp;(try with_reducible rfl)
     (try simp only [Act.put,pu1,pu2,pu3])
     refine wpPlan_take (v:=?_) (by kernel_rfl) (fun wS hSw=>?_) ?_
     rotate_left
     ·have qx:=((hSw.row RN.out (by omega) (by omega)).cell 0).trans (show (nodC N (.slice A1 n1 c1) (.slice C1 m1 d1))[0]?=some (.int .i64 N.k) from rfl);go_simp;(try with_reducible rfl)
     (try simp only [Act.put,pu1,pu2,pu3])
     iterate 2
      refine wpPlan_take (v:=?_) (by kernel_rfl) (fun wS hSw=>?_) ?_
      rotate_left
      ·(try dsimp only at hSw);go_simp;(try with_reducible rfl)
      (try simp only [Act.put,pu1,pu2,pu3])
     refine wpPlan_take (v:=?_) (by kernel_rfl) (fun wS hSw=>?_) ?_
     rotate_left
     ·have qx:=((hSw.row RE.out (by omega) (by omega)).cell 1).trans (show (cellsE E)[1]?=some (.int .i64 E.ino) from rfl);go_simp;(try with_reducible rfl)
     (try simp only [Act.put,pu1,pu2,pu3])
     iterate 2
      refine wpPlan_take (v:=?_) (by kernel_rfl) (fun wS hSw=>?_) ?_
      rotate_left
      ·(try dsimp only at hSw);go_simp;(try with_reducible rfl)
      (try simp only [Act.put,pu1,pu2,pu3])
     refine wpPlan_call (by kernel_rfl) (fun K hK=>?_)
     have hOld:=hide hHeld
     clear hHeld
     obtain ⟨pk,⟨cu5,p5,l5⟩,p6,pb⟩:=hOld.out
     refine wp_storeC 47 (.tmp 7) (.tmp 52) rfl 2 viw_size (w.heap.size+1+1) 0 47 rfl cu5 (viwC 0 (.slice none 0 0)) rfl p5 rfl (by omega) (viwC_one _ _ _ _) ?_
     intro w' hr' hg' hs'
     rw [splice_all _ _ (by rw [l5];rfl)] at hr'
     refine hK.out _ _ (hOld.out.st5 hg' hr' rfl (by omega) (by omega) (by omega)) (fun hHeld=>?_)
     clear hK K
     have hsO:=hOld.out.2.2.2.size
     have HR5:=hide hr'
     clear hr' hg' hs' pk p5 p6 pb hsO
     (try simp only [Act.put])
     refine wpPlan_call (by kernel_rfl) (fun K hK=>?_)
     have hOld:=hide hHeld
     clear hHeld
     obtain ⟨pk,p5,⟨cu6,p6,l6⟩,pb⟩:=hOld.out
     refine wp_storeC 49 (.tmp 8) (.tmp 55) rfl 2 plc_size (w.heap.size+1+1+1) 0 49 rfl cu6 (prC (0,E.ino)) rfl p6 rfl (by omega) (prC_one _) ?_
     intro w' hr' hg' hs'
     rw [splice_all _ _ (by rw [l6];rfl)] at hr'
     refine hK.out _ _ (hOld.out.st6 hg' hr' rfl (by omega) (by omega) (by omega)) (fun hHeld=>?_)
     clear hK K
     have hsO:=hOld.out.2.2.2.size
     have HR6:=hide hr'
     replace HR5:=hide (HR5.out.grown hg' (pu5 (by omega)))
     clear hr' hg' hs' pk p5 p6 pb hsO
     (try simp only [Act.put])
     refine wpPlan_end ?_
     have HSF:=hide hHeld
     clear hHeld
     go_wp2_with fail
     exact bodyPost_ret (res_tcc Tryz.results78 rfl rfl rfl viw_agg viw_size plc_agg plc_size HR5.out rfl HR6.out rfl) rfl ⟨none,0,rfl,RdE.none_ _ _ _ _,HB.out.trans HSF.out.2.2.2⟩
    ·have hk2:(N.k==2)=false:=by simpa using h2
     have hk3:(N.k==3)=true:=by simp;omega
     clear r0 r1 r2 r3 hb1 hW1 hu h hF hup hv hE ho hN huse hkr h1 h4 h2
     go_enter Tryz.func78,Tryz.ntmps78
     go_wp2_with (first|(refine wpList_loadW rfl 29 (.tmp 3) rfl 6 stk_agg stk_size (w.heap.size) 29 rfl (stkC g (.slice AU nU cU) (.slice AL nL cL)) R3.out rfl ?_)|(refine wpList_loadW rfl 47 (.tmp 4) rfl 2 viw_agg viw_size (w.heap.size+1) 47 rfl (viwC u (.slice AV nV cV)) R4.out rfl ?_)|(go_at_call 93;refine (REnt17_e HE.out HBO.out (B:=B) W1 HU.out (by omega) HFU.out).mono ?_;rintro e1 wE ⟨rfl,hbel⟩;clear q3_4 q4_1;replace HB:=hide (HB.out.trans (hbel.mono HB.out.size));replace R3:=hide (R3.out.on hbel);replace R4:=hide (R4.out.on hbel);replace R7:=hide (R7.out.on hbel);replace R8:=hide (R8.out.on hbel);replace HU:=hide (HU.out.under hbel (by omega));replace HL:=hide (HL.out.under hbel (by omega));replace HV:=hide (HV.out.under hbel (by omega));have hsz2:=hbel.size;have q3_4:wE.cell? ⟨w.heap.size,4,none⟩=some (.slice AU nU cU):=R3.out.cell 4;have q4_1:wE.cell? ⟨w.heap.size+1,1,none⟩=some (.slice AV nV cV):=R4.out.cell 1;clear hbel)|(refine wpList_storeW rfl 42 (.tmp 9) (.tmp 19) rfl 3 entw_size (wE.heap.size) 42 rfl [.int .i64 0,.int .i64 0,.string ⟨#[]⟩] (cellsE E) rfl (RowL.new wE 42 [.int .i64 0,.int .i64 0,.string ⟨#[]⟩]) rfl rfl (cellsE_one _) ?_;intro wS3 hr3 hg3 hs3;have hzb:=below_stored' hg3;clear q3_4 q4_1;replace HB:=hide (HB.out.trans (hzb.mono HB.out.size));replace R3:=hide (R3.out.on hzb);replace R4:=hide (R4.out.on hzb);replace R7:=hide (R7.out.on hzb);replace R8:=hide (R8.out.on hzb);replace HU:=hide (HU.out.under hzb (by omega));replace HL:=hide (HL.out.under hzb (by omega));replace HV:=hide (HV.out.under hzb (by omega));have hsz4:=hzb.size;have q3_4:wS3.cell? ⟨w.heap.size,4,none⟩=some (.slice AU nU cU):=R3.out.cell 4;have q4_1:wS3.cell? ⟨w.heap.size+1,1,none⟩=some (.slice AV nV cV):=R4.out.cell 1;have RE:=hide hr3;have hlt3:=hr3.lt;have q9_1:wS3.cell? ⟨wE.heap.size,1,none⟩=some (.int .i64 E.ino):=RE.out.cell 1;clear hzb hr3;clear hg3 hs3)|(go_at_call 101;refine (At_e HN.out wS3 HU.out (by omega) (by have:=HFU.out.1;omega)).mono ?_;rintro e5 wA ⟨A1,n1,c1,C1,m1,d1,rfl,-,-,-,-,hbel⟩;clear q3_4 q9_1 q4_1;replace HB:=hide (HB.out.trans (hbel.mono HB.out.size));replace R3:=hide (R3.out.on hbel);replace R4:=hide (R4.out.on hbel);replace R7:=hide (R7.out.on hbel);replace R8:=hide (R8.out.on hbel);replace HU:=hide (HU.out.under hbel (by omega));replace HL:=hide (HL.out.under hbel (by omega));replace HV:=hide (HV.out.under hbel (by omega));replace RE:=hide (RE.out.on hbel);have hsz6:=hbel.size;have q3_4:wA.cell? ⟨w.heap.size,4,none⟩=some (.slice AU nU cU):=R3.out.cell 4;have q9_1:wA.cell? ⟨wE.heap.size,1,none⟩=some (.int .i64 E.ino):=RE.out.cell 1;have q4_1:wA.cell? ⟨w.heap.size+1,1,none⟩=some (.slice AV nV cV):=R4.out.cell 1;clear hbel)|(refine wpList_storeW rfl 38 (.tmp 11) (.tmp 26) rfl 13 nod_size (wA.heap.size) 38 rfl (nodC nod0 (.slice none 0 0) (.slice none 0 0)) (nodC N (.slice A1 n1 c1) (.slice C1 m1 d1)) rfl (RowL.new wA 38 (nodC nod0 (.slice none 0 0) (.slice none 0 0))) rfl rfl (nodC_one _ _ _ _ _ _ _) ?_;intro wS7 hr7 hg7 hs7;have hzb:=below_stored' hg7;clear q3_4 q9_1 q4_1;replace HB:=hide (HB.out.trans (hzb.mono HB.out.size));replace R3:=hide (R3.out.on hzb);replace R4:=hide (R4.out.on hzb);replace R7:=hide (R7.out.on hzb);replace R8:=hide (R8.out.on hzb);replace HU:=hide (HU.out.under hzb (by omega));replace HL:=hide (HL.out.under hzb (by omega));replace HV:=hide (HV.out.under hzb (by omega));replace RE:=hide (RE.out.on hzb);have hsz8:=hzb.size;have q3_4:wS7.cell? ⟨w.heap.size,4,none⟩=some (.slice AU nU cU):=R3.out.cell 4;have q9_1:wS7.cell? ⟨wE.heap.size,1,none⟩=some (.int .i64 E.ino):=RE.out.cell 1;have q4_1:wS7.cell? ⟨w.heap.size+1,1,none⟩=some (.slice AV nV cV):=R4.out.cell 1;have RN:=hide hr7;have hlt7:=hr7.lt;have q11_0:wS7.cell? ⟨wA.heap.size,0,none⟩=some (.int .i64 N.k):=RN.out.cell 0;clear hzb hr7;clear hg7 hs7))
     refine wp_region_planN (fun w'=>TwoS wS7 w.heap.size (w.heap.size+1+1) 47 2 (w.heap.size+1+1+1) 49 2 w') [(0,true),(1,true),(2,true),(3,true),(4,true),(5,true),(6,true),(7,false),(8,false)] (by kernel_rfl) (by kernel_rfl) (by kernel_rfl) (by kernel_rfl) rfl (fun _ _ _ _ _ h=>h) (TwoS.start (base:=w.heap.size) R7.out rfl R8.out rfl) (fun hHeld=>?_)
     simp only [planOps,List.filterMap_cons,List.filterMap_nil,List.getElem?_toArray,List.getElem?_cons_succ,List.getElem?_cons_zero,Option.map_some]
     refine wpPlan_take (v:=?_) (by kernel_rfl) (fun wS hSw=>?_) ?_
     rotate_left
     ·(try dsimp only at hSw);go_simp;(try with_reducible rfl)
     (try simp only [Act.put,pu1,pu2,pu3])
     refine wpPlan_take (v:=?_) (by kernel_rfl) (fun wS hSw=>?_) ?_
     rotate_left
     ·have qx:=((hSw.row RN.out (by omega) (by omega)).cell 0).trans (show (nodC N (.slice A1 n1 c1) (.slice C1 m1 d1))[0]?=some (.int .i64 N.k) from rfl);go_simp;(try with_reducible rfl)
     (try simp only [Act.put,pu1,pu2,pu3])
     iterate 2
      refine wpPlan_take (v:=?_) (by kernel_rfl) (fun wS hSw=>?_) ?_
      rotate_left
      ·(try dsimp only at hSw);go_simp;(try with_reducible rfl)
      (try simp only [Act.put,pu1,pu2,pu3])
     refine wpPlan_take (v:=?_) (by kernel_rfl) (fun wS hSw=>?_) ?_
     rotate_left
     ·have qx:=((hSw.row RE.out (by omega) (by omega)).cell 1).trans (show (cellsE E)[1]?=some (.int .i64 E.ino) from rfl);go_simp;(try with_reducible rfl)
     (try simp only [Act.put,pu1,pu2,pu3])
     iterate 2
      refine wpPlan_take (v:=?_) (by kernel_rfl) (fun wS hSw=>?_) ?_
      rotate_left
      ·(try dsimp only at hSw);go_simp;(try with_reducible rfl)
      (try simp only [Act.put,pu1,pu2,pu3])
     refine wpPlan_call (by kernel_rfl) (fun K hK=>?_)
     have hOld:=hide hHeld
     clear hHeld
     obtain ⟨pk,⟨cu5,p5,l5⟩,p6,pb⟩:=hOld.out
     refine wp_storeC 47 (.tmp 7) (.tmp 52) rfl 2 viw_size (w.heap.size+1+1) 0 47 rfl cu5 (viwC 0 (.slice none 0 0)) rfl p5 rfl (by omega) (viwC_one _ _ _ _) ?_
     intro w' hr' hg' hs'
     rw [splice_all _ _ (by rw [l5];rfl)] at hr'
     refine hK.out _ _ (hOld.out.st5 hg' hr' rfl (by omega) (by omega) (by omega)) (fun hHeld=>?_)
     clear hK K
     have hsO:=hOld.out.2.2.2.size
     have HR5:=hide hr'
     clear hr' hg' hs' pk p5 p6 pb hsO
     (try simp only [Act.put])
     refine wpPlan_call (by kernel_rfl) (fun K hK=>?_)
     have hOld:=hide hHeld
     clear hHeld
     obtain ⟨pk,p5,⟨cu6,p6,l6⟩,pb⟩:=hOld.out
     refine wp_storeC 49 (.tmp 8) (.tmp 55) rfl 2 plc_size (w.heap.size+1+1+1) 0 49 rfl cu6 (prC (0,E.ino)) rfl p6 rfl (by omega) (prC_one _) ?_
     intro w' hr' hg' hs'
     rw [splice_all _ _ (by rw [l6];rfl)] at hr'
     refine hK.out _ _ (hOld.out.st6 hg' hr' rfl (by omega) (by omega) (by omega)) (fun hHeld=>?_)
     clear hK K
     have hsO:=hOld.out.2.2.2.size
     have HR6:=hide hr'
     replace HR5:=hide (HR5.out.grown hg' (pu5 (by omega)))
     clear hr' hg' hs' pk p5 p6 pb hsO
     (try simp only [Act.put])
     refine wpPlan_end ?_
     have HSF:=hide hHeld
     clear hHeld
     go_wp2_with fail
     exact bodyPost_ret (res_tcc Tryz.results78 rfl rfl rfl viw_agg viw_size plc_agg plc_size HR5.out rfl HR6.out rfl) rfl ⟨none,0,rfl,RdE.none_ _ _ _ _,HB.out.trans HSF.out.2.2.2⟩
theorem RVStep_e {g:GeoQ} {AU AL:Option Addr} {nU cU nL cL B:Nat} {up:List NodV} {ls:List (List NodV)} {u:Int} {AV:Option Addr} {nV cV BV:Nat} {vl:List (Int×Int)} {nm:List UInt8} {S:StepV} (hS:stepV up ls (u,vl) nm=S) (w:World) (hu:RdE nodEn w (Under B) AU nU up) (h:RdE layEn w (Under B) AL nL ls) (hB:B≤w.heap.size) (hF:FewL ls) (hup:FewU up) (hv:RdE prEn w (Under BV) AV nV vl) (hBV:BV≤w.heap.size) (hnV:nV≤1000):Calls Tryz.prog 78 #[.agg (stkC g (.slice AU nU cU) (.slice AL nL cL)).toArray,.agg (viwC u (.slice AV nV cV)).toArray,.string ⟨nm.toArray⟩] w (StepF w.heap.size w S):=by rw [←hS];exact RVStep_any w hu h hB hF hup hv hBV hnV
end Go.Proofs.YthdoimgbbabcaaaGreat

