import Derived.Test.YtpndfahgflgocaaGreatDoorLn21
import Derived.Test.YtpndfahgflgocaaGreatDoorLn22

namespace Go.Proofs.YtpndfahgflgocaaGreatDoor
open Go.RowKit Go.Shelf Plain

def StepF (lo:Nat) (w:World) (R:StepV) (e:Ending) (w':World):Prop:=∃A c,e=.returned (.tuple #[.int .i64 R.1,.agg (viwC R.2.1.1 (.slice A R.2.1.2.length c)).toArray,.agg (prC R.2.2).toArray])∧RdE prEn w' (fun b=>lo≤b∧b < w'.heap.size) A R.2.1.2.length R.2.1.2∧Below w.heap.size w w'
theorem First_m {A:Option Addr} {n c:Nat} {ns:List NodV} {i:Int} {nm:List UInt8} {B:Nat} {E:EntV} {N:NodV} (hE:entO (firstB ns i nm)=E) (hN:nodB ns (firstB ns i nm)=N) (w:World) (h:RdE nodEn w (Under B) A n ns) (hB:B≤w.heap.size) (hm:ns.length≤100000) (hel:(entB ns i).length≤17) :
  Calls Tryz.prog 127 #[.agg #[.slice A n c],.int .i64 i,.string ⟨nm.toArray⟩] w (fun e w'=>∃A n c C m d,e=.returned (.tuple #[.agg (cellsE E).toArray,.agg (nodC N (.slice A n c) (.slice C m d)).toArray])∧Below w.heap.size w w'):=by
 subst hE hN
 refine (First_any w h hB hm (by omega)).mono ?_
 rintro e w' ⟨A,n,c,C,m,d,rfl,-,-,-,-,hb⟩
 exact ⟨A,n,c,C,m,d,rfl,hb⟩
set_option maxRecDepth 100000 in
set_option maxHeartbeats 16000000 in
theorem VStepB_any {g:GeoQ} {AU AL:Option Addr} {nU cU nL cL B:Nat} {up:List NodV} {ls:List (List NodV)} {u:Int} {AV:Option Addr} {nV cV BV:Nat} {vl:List (Int×Int)} {nm:List UInt8} (w:World) (hu:RdE nodEn w (Under B) AU nU up) (h:RdE layEn w (Under B) AL nL ls) (hB:B≤w.heap.size) (hF:FewL ls) (hup:FewX up) (hv:RdE prEn w (Under BV) AV nV vl) (hBV:BV≤w.heap.size) (hnV:nV≤1000):Calls Tryz.prog 148 #[.agg (vwdC g (.slice AU nU cU) (.slice AL nL cL) u (.slice AV nV cV)).toArray,.string ⟨nm.toArray⟩] w (StepF w.heap.size w (lowStep ls vl nm)):=by
 obtain ⟨W1,hW1⟩:∃W1,(((w.alloc (.cells (vwdC g (.slice AU nU cU) (.slice AL nL cL) u (.slice AV nV cV)).toArray 187)).alloc (.cells (viwC 0 (.slice none 0 0)).toArray 120)).alloc (.cells (prC (0,0)).toArray 75))=W1:=⟨_,rfl⟩
 obtain ⟨r0,r1,r2,hb1,hs1⟩:=rowA3 w _ _ _ _ _ _ hW1
 have hW1':(((w.alloc (.cells #[.int .i64 g.a,.int .i64 g.b,.int .i64 g.c,.int .i64 g.d,.slice AU nU cU,.slice AL nL cL,.int .i64 u,.slice AV nV cV] 187)).alloc (.cells #[.int .i64 0,.slice none 0 0] 120)).alloc (.cells #[.int .i64 0,.int .i64 0] 75))=W1:=hW1
 have R2:=hide r0
 have R5:=hide r1
 have R6:=hide r2
 have HB:=hide hb1
 have hsz0:=hb1.size
 have HU:=hide (hu.under hb1 hB)
 have HL:=hide (h.under hb1 hB)
 have HF:=hide hF
 have HFU:=hide hup
 have HV:=hide (hv.under hb1 hBV)
 obtain ⟨R,hR⟩:∃R,findL ls nm vl []=R:=⟨_,rfl⟩
 have HR:=hide hR
 have hkd:=findL_kind hF nm vl []
 rw [hR] at hkd
 have q2_7:W1.cell? ⟨w.heap.size,7,none⟩=some (.slice AV nV cV):=R2.out.cell 7
 unfold lowStep
 rw [hR]
 unfold vwdC
 obtain ⟨K,L⟩:=R
 clear r0 r1 r2 hb1 hW1 hu h hF hup hv hR
 by_cases hk:K=0
 ·subst hk
  rw [if_pos rfl]
  have hL:L=[]:=by
   by_cases hh:L=[]
   ·exact hh
   ·exact absurd (hkd.1.2 hh) (by simp)
  subst hL
  clear hkd
  go_enter Tryz.func148,Tryz.ntmps148
  go_wp2_with (first|(refine wpList_loadC rfl 29 (.tmp 10) rfl 6 stk_agg stk_size (w.heap.size) 0 187 rfl (vwdC g (.slice AU nU cU) (.slice AL nL cL) u (.slice AV nV cV)) (stkC g (.slice AU nU cU) (.slice AL nL cL)) R2.out rfl rfl ?_)|(go_at_call 147;refine (Find_e HR.out W1 HL.out (und_up HV.out (by omega)) (by omega) HF.out hnV).mono ?_;rintro e1 wF ⟨A3,c3,rfl,-,h3,hbel⟩;clear q2_7;replace HB:=hide (HB.out.trans (hbel.mono HB.out.size));replace R2:=hide (R2.out.on hbel);replace R5:=hide (R5.out.on hbel);replace R6:=hide (R6.out.on hbel);replace HU:=hide (HU.out.under hbel (by omega));replace HL:=hide (HL.out.under hbel (by omega));replace HV:=hide (HV.out.under hbel (by omega));have hsz2:=hbel.size;have q2_7:wF.cell? ⟨w.heap.size,7,none⟩=some (.slice AV nV cV):=R2.out.cell 7;have H3:=hide h3;clear h3;clear hbel)|(refine wpList_storeW rfl 120 (.tmp 5) (.tmp 22) rfl 2 viw_size (w.heap.size+1) 120 rfl (viwC 0 (.slice none 0 0)) (viwC 0 (.slice none 0 0)) rfl R5.out rfl rfl (viwC_one _ _ _ _) ?_;intro wS3 hr3 hg3 hs3;clear q2_7;replace HB:=hide (HB.out.grown hg3 (by omega) (pu4 (by omega)));replace R2:=hide (R2.out.grown hg3 (pu5 (by omega)));replace R6:=hide (R6.out.grown hg3 (pu5 (by omega)));replace HU:=hide (und_grown HU.out hg3 (by omega) (by omega));replace HL:=hide (und_grown HL.out hg3 (by omega) (by omega));replace HV:=hide (und_grown HV.out hg3 (by omega) (by omega));replace H3:=hide (fr_grown H3.out hg3 (by omega));have hsz4:=hg3.size;replace R5:=hide hr3;have q2_7:wS3.cell? ⟨w.heap.size,7,none⟩=some (.slice AV nV cV):=R2.out.cell 7;clear hr3 hg3 hs3)|(refine wpList_storeW rfl 75 (.tmp 6) (.tmp 23) rfl 2 plc_size (w.heap.size+1+1) 75 rfl (prC (0,0)) (prC (0,0)) rfl R6.out rfl rfl (prC_one _) ?_;intro wS5 hr5 hg5 hs5;clear q2_7;replace HB:=hide (HB.out.grown hg5 (by omega) (pu4 (by omega)));replace R2:=hide (R2.out.grown hg5 (pu5 (by omega)));replace R5:=hide (R5.out.grown hg5 (pu5 (by omega)));replace HU:=hide (und_grown HU.out hg5 (by omega) (by omega));replace HL:=hide (und_grown HL.out hg5 (by omega) (by omega));replace HV:=hide (und_grown HV.out hg5 (by omega) (by omega));replace H3:=hide (fr_grown H3.out hg5 (by omega));have hsz6:=hg5.size;replace R6:=hide hr5;have q2_7:wS5.cell? ⟨w.heap.size,7,none⟩=some (.slice AV nV cV):=R2.out.cell 7;clear hr5 hg5 hs5))
  exact bodyPost_ret (res_tcc Tryz.results148 rfl rfl rfl viw_agg viw_size plc_agg plc_size R5.out rfl R6.out rfl) rfl ⟨none,0,rfl,RdE.none_ _ _ _ _,HB.out⟩
 ·rw [if_neg hk]
  have hLn:L≠[]:=hkd.1.1 hk
  have hLp:0 < L.length:=List.length_pos_iff.2 hLn
  obtain ⟨p,hp0⟩:∃p,L[0]?=some p:=⟨_,List.getElem?_eq_getElem hLp⟩
  have hhd:L.headD (0,0)=p:=by cases L with|nil=>simp at hLp|cons a r=>simpa using hp0
  have hk0:(K==0)=false:=by simpa using hk
  rw [hhd]
  by_cases hk1:K=1
  ·have hk2:(K==1)=true:=by simpa using hk1
   rw [if_pos hk1]
   clear hkd hLn hhd hk hk1
   go_enter Tryz.func148,Tryz.ntmps148
   go_wp2_with (first|(refine wpList_loadC rfl 29 (.tmp 10) rfl 6 stk_agg stk_size (w.heap.size) 0 187 rfl (vwdC g (.slice AU nU cU) (.slice AL nL cL) u (.slice AV nV cV)) (stkC g (.slice AU nU cU) (.slice AL nL cL)) R2.out rfl rfl ?_)|(go_at_call 147;refine (Find_e HR.out W1 HL.out (und_up HV.out (by omega)) (by omega) HF.out hnV).mono ?_;rintro e1 wF ⟨A3,c3,rfl,-,h3,hbel⟩;clear q2_7;replace HB:=hide (HB.out.trans (hbel.mono HB.out.size));replace R2:=hide (R2.out.on hbel);replace R5:=hide (R5.out.on hbel);replace R6:=hide (R6.out.on hbel);replace HU:=hide (HU.out.under hbel (by omega));replace HL:=hide (HL.out.under hbel (by omega));replace HV:=hide (HV.out.under hbel (by omega));have hsz2:=hbel.size;have q2_7:wF.cell? ⟨w.heap.size,7,none⟩=some (.slice AV nV cV):=R2.out.cell 7;have H3:=hide h3;clear h3;clear hbel))
   obtain ⟨bP,oP,hAP,hbP,hcP⟩:=pr_get H3.out hp0
   have hbP2:bP < wF.heap.size:=hbP.2
   have hbP1:W1.heap.size≤bP:=hbP.1
   have HCP:=hide (fun (j:Nat) (v:Value) (hv:(prC p)[j]?=some v)=>show wF.cell? ⟨bP,oP+j,none⟩=some v from by have:=hcP j v hv;simpa using this)
   subst hAP
   clear hcP
   refine wp_region_planN (fun w'=>TwoS wF w.heap.size (w.heap.size+1) 120 2 (w.heap.size+1+1) 75 2 w') [(0,true),(1,true),(2,true),(3,true),(4,true),(5,true),(6,false),(7,false)] (by kernel_rfl) (by kernel_rfl) (by kernel_rfl) (by kernel_rfl) rfl (fun _ _ _ _ _ h=>h) (TwoS.start (base:=w.heap.size) R5.out rfl R6.out rfl) (fun hHeld=>?_)
   simp only [planOps,List.filterMap_cons,List.filterMap_nil,List.getElem?_toArray,List.getElem?_cons_succ,List.getElem?_cons_zero,Option.map_some]
   iterate 4
    refine wpPlan_take (v:=?_) (by kernel_rfl) (fun wS hSw=>?_) ?_
    rotate_left
    ·(try dsimp only at hSw);go_simp;(try with_reducible rfl)
    (try simp only [Act.put,pu1,pu2,pu3])
   refine wpPlan_take (v:=?_) (by kernel_rfl) (fun wS hSw=>?_) ?_
   rotate_left
   ·refine execOp_load (x:=.tmp 29) (k:=2) (g:=bP) (off:=oP) (cs:=prC p) ?_ plc_agg plc_size ?_ (fun j v hv=>(cell_same (hSw.1 bP hbP2 (by omega) (by omega))).trans (HCP.out j v hv)) rfl <;> rfl
   (try simp only [Act.put,pu1,pu2,pu3])
   refine wpPlan_take (v:=?_) (by kernel_rfl) (fun wS hSw=>?_) ?_
   rotate_left
   ·(try dsimp only at hSw);go_simp;(try with_reducible rfl)
   (try simp only [Act.put,pu1,pu2,pu3])
   refine wpPlan_call (by kernel_rfl) (fun K hK=>?_)
   have hOld:=hide hHeld
   clear hHeld
   obtain ⟨pk,⟨cu5,p5,l5⟩,p6,pb⟩:=hOld.out
   refine wp_storeC 120 (.tmp 5) (.tmp 27) rfl 2 viw_size (w.heap.size+1) 0 120 rfl cu5 (viwC 0 (.slice (some ⟨bP,oP,none⟩) L.length c3)) rfl p5 rfl (by omega) (viwC_one _ _ _ _) ?_
   intro w' hr' hg' hs'
   rw [splice_all _ _ (by rw [l5];rfl)] at hr'
   refine hK.out _ _ (hOld.out.st5 hg' hr' rfl (by omega) (by omega) (by omega)) (fun hHeld=>?_)
   clear hK K
   have hsO:=hOld.out.2.2.2.size
   have HR5:=hide hr'
   clear hr' hg' hs' pk p5 p6 pb hsO
   (try simp only [Act.put])
   refine wpPlan_call (by kernel_rfl) (fun K hK=>?_)
   have hOld:=hide hHeld
   clear hHeld
   obtain ⟨pk,p5,⟨cu6,p6,l6⟩,pb⟩:=hOld.out
   refine wp_storeC 75 (.tmp 6) (.tmp 30) rfl 2 plc_size (w.heap.size+1+1) 0 75 rfl cu6 (prC p) rfl p6 rfl (by omega) (prC_one _) ?_
   intro w' hr' hg' hs'
   rw [splice_all _ _ (by rw [l6];rfl)] at hr'
   refine hK.out _ _ (hOld.out.st6 hg' hr' rfl (by omega) (by omega) (by omega)) (fun hHeld=>?_)
   clear hK K
   have hsO:=hOld.out.2.2.2.size
   have HR6:=hide hr'
   replace HR5:=hide (HR5.out.grown hg' (pu5 (by omega)))
   clear hr' hg' hs' pk p5 p6 pb hsO
   (try simp only [Act.put])
   refine wpPlan_end ?_
   have HSF:=hide hHeld
   clear hHeld
   go_wp2_with fail
   exact bodyPost_ret (res_tcc Tryz.results148 rfl rfl rfl viw_agg viw_size plc_agg plc_size HR5.out rfl HR6.out rfl) rfl ⟨_,c3,rfl,fr_low (HSF.out.fr H3.out (by omega) (by omega)) (by omega),HB.out.trans HSF.out.2.2.2⟩
  ·have hk2:(K==1)=false:=by simpa using hk1
   rw [if_neg hk1]
   clear hkd hLn hhd hk hk1
   go_enter Tryz.func148,Tryz.ntmps148
   go_wp2_with (first|(refine wpList_loadC rfl 29 (.tmp 10) rfl 6 stk_agg stk_size (w.heap.size) 0 187 rfl (vwdC g (.slice AU nU cU) (.slice AL nL cL) u (.slice AV nV cV)) (stkC g (.slice AU nU cU) (.slice AL nL cL)) R2.out rfl rfl ?_)|(go_at_call 147;refine (Find_e HR.out W1 HL.out (und_up HV.out (by omega)) (by omega) HF.out hnV).mono ?_;rintro e1 wF ⟨A3,c3,rfl,-,h3,hbel⟩;clear q2_7;replace HB:=hide (HB.out.trans (hbel.mono HB.out.size));replace R2:=hide (R2.out.on hbel);replace R5:=hide (R5.out.on hbel);replace R6:=hide (R6.out.on hbel);replace HU:=hide (HU.out.under hbel (by omega));replace HL:=hide (HL.out.under hbel (by omega));replace HV:=hide (HV.out.under hbel (by omega));have hsz2:=hbel.size;have q2_7:wF.cell? ⟨w.heap.size,7,none⟩=some (.slice AV nV cV):=R2.out.cell 7;have H3:=hide h3;clear h3;clear hbel))
   obtain ⟨bP,oP,hAP,hbP,hcP⟩:=pr_get H3.out hp0
   have hbP2:bP < wF.heap.size:=hbP.2
   have hbP1:W1.heap.size≤bP:=hbP.1
   have HCP:=hide (fun (j:Nat) (v:Value) (hv:(prC p)[j]?=some v)=>show wF.cell? ⟨bP,oP+j,none⟩=some v from by have:=hcP j v hv;simpa using this)
   subst hAP
   clear hcP
   refine wp_region_planN (fun w'=>TwoS wF w.heap.size (w.heap.size+1) 120 2 (w.heap.size+1+1) 75 2 w') [(0,true),(1,true),(2,true),(3,true),(4,true),(5,true),(6,false),(7,false)] (by kernel_rfl) (by kernel_rfl) (by kernel_rfl) (by kernel_rfl) rfl (fun _ _ _ _ _ h=>h) (TwoS.start (base:=w.heap.size) R5.out rfl R6.out rfl) (fun hHeld=>?_)
   simp only [planOps,List.filterMap_cons,List.filterMap_nil,List.getElem?_toArray,List.getElem?_cons_succ,List.getElem?_cons_zero,Option.map_some]
   iterate 4
    refine wpPlan_take (v:=?_) (by kernel_rfl) (fun wS hSw=>?_) ?_
    rotate_left
    ·(try dsimp only at hSw);go_simp;(try with_reducible rfl)
    (try simp only [Act.put,pu1,pu2,pu3])
   refine wpPlan_take (v:=?_) (by kernel_rfl) (fun wS hSw=>?_) ?_
   rotate_left
   ·refine execOp_load (x:=.tmp 34) (k:=2) (g:=bP) (off:=oP) (cs:=prC p) ?_ plc_agg plc_size ?_ (fun j v hv=>(cell_same (hSw.1 bP hbP2 (by omega) (by omega))).trans (HCP.out j v hv)) rfl <;> rfl
   (try simp only [Act.put,pu1,pu2,pu3])
   refine wpPlan_take (v:=?_) (by kernel_rfl) (fun wS hSw=>?_) ?_
   rotate_left
   ·(try dsimp only at hSw);go_simp;(try with_reducible rfl)
   (try simp only [Act.put,pu1,pu2,pu3])
   refine wpPlan_call (by kernel_rfl) (fun K hK=>?_)
   have hOld:=hide hHeld
   clear hHeld
   obtain ⟨pk,⟨cu5,p5,l5⟩,p6,pb⟩:=hOld.out
   refine wp_storeC 120 (.tmp 5) (.tmp 32) rfl 2 viw_size (w.heap.size+1) 0 120 rfl cu5 (viwC 0 (.slice none 0 0)) rfl p5 rfl (by omega) (viwC_one _ _ _ _) ?_
   intro w' hr' hg' hs'
   rw [splice_all _ _ (by rw [l5];rfl)] at hr'
   refine hK.out _ _ (hOld.out.st5 hg' hr' rfl (by omega) (by omega) (by omega)) (fun hHeld=>?_)
   clear hK K
   have hsO:=hOld.out.2.2.2.size
   have HR5:=hide hr'
   clear hr' hg' hs' pk p5 p6 pb hsO
   (try simp only [Act.put])
   refine wpPlan_call (by kernel_rfl) (fun K hK=>?_)
   have hOld:=hide hHeld
   clear hHeld
   obtain ⟨pk,p5,⟨cu6,p6,l6⟩,pb⟩:=hOld.out
   refine wp_storeC 75 (.tmp 6) (.tmp 35) rfl 2 plc_size (w.heap.size+1+1) 0 75 rfl cu6 (prC p) rfl p6 rfl (by omega) (prC_one _) ?_
   intro w' hr' hg' hs'
   rw [splice_all _ _ (by rw [l6];rfl)] at hr'
   refine hK.out _ _ (hOld.out.st6 hg' hr' rfl (by omega) (by omega) (by omega)) (fun hHeld=>?_)
   clear hK K
   have hsO:=hOld.out.2.2.2.size
   have HR6:=hide hr'
   replace HR5:=hide (HR5.out.grown hg' (pu5 (by omega)))
   clear hr' hg' hs' pk p5 p6 pb hsO
   (try simp only [Act.put])
   refine wpPlan_end ?_
   have HSF:=hide hHeld
   clear hHeld
   go_wp2_with fail
   exact bodyPost_ret (res_tcc Tryz.results148 rfl rfl rfl viw_agg viw_size plc_agg plc_size HR5.out rfl HR6.out rfl) rfl ⟨none,0,rfl,RdE.none_ _ _ _ _,HB.out.trans HSF.out.2.2.2⟩
theorem VStepB_e {g:GeoQ} {AU AL:Option Addr} {nU cU nL cL B:Nat} {up:List NodV} {ls:List (List NodV)} {u:Int} {AV:Option Addr} {nV cV BV:Nat} {vl:List (Int×Int)} {nm:List UInt8} {S:StepV} (hS:lowStep ls vl nm=S) (w:World) (hu:RdE nodEn w (Under B) AU nU up) (h:RdE layEn w (Under B) AL nL ls) (hB:B≤w.heap.size) (hF:FewL ls) (hup:FewX up) (hv:RdE prEn w (Under BV) AV nV vl) (hBV:BV≤w.heap.size) (hnV:nV≤1000):Calls Tryz.prog 148 #[.agg (vwdC g (.slice AU nU cU) (.slice AL nL cL) u (.slice AV nV cV)).toArray,.string ⟨nm.toArray⟩] w (StepF w.heap.size w S):=by rw [←hS];exact VStepB_any w hu h hB hF hup hv hBV hnV
set_option maxRecDepth 100000 in
set_option maxHeartbeats 16000000 in
theorem VStepI_any {g:GeoQ} {AU AL:Option Addr} {nU cU nL cL B:Nat} {up:List NodV} {ls:List (List NodV)} {u:Int} {AV:Option Addr} {nV cV BV:Nat} {vl:List (Int×Int)} {nm:List UInt8} (w:World) (hu:RdE nodEn w (Under B) AU nU up) (h:RdE layEn w (Under B) AL nL ls) (hB:B≤w.heap.size) (hF:FewL ls) (hup:FewX up) (hv:RdE prEn w (Under BV) AV nV vl) (hBV:BV≤w.heap.size) (hnV:nV≤1000):Calls Tryz.prog 124 #[.agg (vwdC g (.slice AU nU cU) (.slice AL nL cL) u (.slice AV nV cV)).toArray,.string ⟨nm.toArray⟩] w (StepF w.heap.size w (stepV up ls (u,vl) nm)):=by
 obtain ⟨W1,hW1⟩:∃W1,(((w.alloc (.cells (vwdC g (.slice AU nU cU) (.slice AL nL cL) u (.slice AV nV cV)).toArray 187)).alloc (.cells (viwC 0 (.slice none 0 0)).toArray 120)).alloc (.cells (prC (0,0)).toArray 75))=W1:=⟨_,rfl⟩
 obtain ⟨r0,r1,r2,hb1,hs1⟩:=rowA3 w _ _ _ _ _ _ hW1
 have hW1':(((w.alloc (.cells #[.int .i64 g.a,.int .i64 g.b,.int .i64 g.c,.int .i64 g.d,.slice AU nU cU,.slice AL nL cL,.int .i64 u,.slice AV nV cV] 187)).alloc (.cells #[.int .i64 0,.slice none 0 0] 120)).alloc (.cells #[.int .i64 0,.int .i64 0] 75))=W1:=hW1
 have R2:=hide r0
 have R5:=hide r1
 have R6:=hide r2
 have HB:=hide hb1
 have hsz0:=hb1.size
 have HU:=hide (hu.under hb1 hB)
 have HL:=hide (h.under hb1 hB)
 have HF:=hide hF
 have HFU:=hide hup
 have HV:=hide (hv.under hb1 hBV)
 obtain ⟨E,hE⟩:∃E,entO (firstB up u nm)=E:=⟨_,rfl⟩
 obtain ⟨N,hN⟩:∃N,nodB up (firstB up u nm)=N:=⟨_,rfl⟩
 have HE:=hide hE
 have HN:=hide hN
 have q2_4:W1.cell? ⟨w.heap.size,4,none⟩=some (.slice AU nU cU):=R2.out.cell 4
 have q2_6:W1.cell? ⟨w.heap.size,6,none⟩=some (.int .i64 u):=R2.out.cell 6
 unfold stepV
 dsimp only
 unfold vwdC
 cases ho:firstB up u nm with
 | none =>
  rw [ho] at hE hN
  have hk0:(N.k==0)=true:=by rw [←hN];rfl
  obtain ⟨S,hS⟩:∃S,lowStep ls vl nm=S:=⟨_,rfl⟩
  have HS:=hide hS
  dsimp only
  rw [hS]
  clear r0 r1 r2 hb1 hW1 hu h hF hup hv hE hN ho hS
  go_enter Tryz.func124,Tryz.ntmps124
  go_wp2_with (first|(go_at_call 127;refine (First_m HE.out HN.out (B:=B) W1 HU.out (by omega) (by have:=HFU.out.1;omega) (entB_lenX HFU.out.2 u)).mono ?_;rintro e1 wF ⟨A1,n1,c1,C1,m1,d1,rfl,hbel⟩;clear q2_4 q2_6;replace HB:=hide (HB.out.trans (hbel.mono HB.out.size));replace R2:=hide (R2.out.on hbel);replace R5:=hide (R5.out.on hbel);replace R6:=hide (R6.out.on hbel);replace HU:=hide (HU.out.under hbel (by omega));replace HL:=hide (HL.out.under hbel (by omega));replace HV:=hide (HV.out.under hbel (by omega));have hsz2:=hbel.size;have q2_4:wF.cell? ⟨w.heap.size,4,none⟩=some (.slice AU nU cU):=R2.out.cell 4;have q2_6:wF.cell? ⟨w.heap.size,6,none⟩=some (.int .i64 u):=R2.out.cell 6;clear hbel)|(obtain ⟨hz7,hz8,hzb,hzs⟩:=rows2 wF [.int .i64 0,.int .i64 0,.string ⟨#[]⟩] (nodC nod0 (.slice none 0 0) (.slice none 0 0)) 31 51;refine wpList_storeW rfl 31 (.tmp 7) (.tmp 18) rfl 3 entw_size (wF.heap.size) 31 rfl [.int .i64 0,.int .i64 0,.string ⟨#[]⟩] (cellsE E) rfl hz7 rfl rfl (cellsE_one _) ?_;intro wS3 hr3 hg3 hs3;replace hzb:=hzb.grown hg3 hzb.size (pu4 (by omega));replace hz8:=hz8.grown hg3 (pu5 (by omega));have hz7:=hr3;clear hg3 hs3 hr3)|(refine wpList_storeW rfl 51 (.tmp 8) (.tmp 19) rfl 13 nod_size (wF.heap.size+1) 51 rfl (nodC nod0 (.slice none 0 0) (.slice none 0 0)) (nodC N (.slice A1 n1 c1) (.slice C1 m1 d1)) rfl hz8 rfl rfl (nodC_one _ _ _ _ _ _ _) ?_;intro wS4 hr4 hg4 hs4;replace hzb:=hzb.grown hg4 hzb.size (pu4 (by omega));replace hz7:=hz7.grown hg4 (pu5 (by omega));have hz8:=hr4;clear q2_4 q2_6;replace HB:=hide (HB.out.trans (hzb.mono HB.out.size));replace R2:=hide (R2.out.on hzb);replace R5:=hide (R5.out.on hzb);replace R6:=hide (R6.out.on hzb);replace HU:=hide (HU.out.under hzb (by omega));replace HL:=hide (HL.out.under hzb (by omega));replace HV:=hide (HV.out.under hzb (by omega));have hsz5:=hzb.size;have q2_4:wS4.cell? ⟨w.heap.size,4,none⟩=some (.slice AU nU cU):=R2.out.cell 4;have q2_6:wS4.cell? ⟨w.heap.size,6,none⟩=some (.int .i64 u):=R2.out.cell 6;have RE:=hide hz7;have hlt3:=hz7.lt;have RN:=hide hz8;have hlt4:=hz8.lt;have q8_0:wS4.cell? ⟨wF.heap.size+1,0,none⟩=some (.int .i64 N.k):=RN.out.cell 0;have q7_1:wS4.cell? ⟨wF.heap.size,1,none⟩=some (.int .i64 E.ino):=RE.out.cell 1;clear hzb hzs hz7 hz8;clear hg4 hs4)|(refine wpList_loadW rfl 187 (.tmp 2) rfl 8 vwd_agg vwd_size (w.heap.size) 187 rfl (vwdC g (.slice AU nU cU) (.slice AL nL cL) u (.slice AV nV cV)) R2.out rfl ?_)|(go_at_call 148;refine (VStepB_e HS.out wS4 HU.out HL.out (by omega) HF.out HFU.out HV.out (by omega) hnV).mono ?_;rintro e6 wB ⟨A3,c3,rfl,h3,hbel⟩;clear q2_4 q2_6 q8_0 q7_1;replace HB:=hide (HB.out.trans (hbel.mono HB.out.size));replace R2:=hide (R2.out.on hbel);replace R5:=hide (R5.out.on hbel);replace R6:=hide (R6.out.on hbel);replace HU:=hide (HU.out.under hbel (by omega));replace HL:=hide (HL.out.under hbel (by omega));replace HV:=hide (HV.out.under hbel (by omega));replace RE:=hide (RE.out.on hbel);replace RN:=hide (RN.out.on hbel);have hsz7:=hbel.size;have q2_4:wB.cell? ⟨w.heap.size,4,none⟩=some (.slice AU nU cU):=R2.out.cell 4;have q2_6:wB.cell? ⟨w.heap.size,6,none⟩=some (.int .i64 u):=R2.out.cell 6;have q8_0:wB.cell? ⟨wF.heap.size+1,0,none⟩=some (.int .i64 N.k):=RN.out.cell 0;have q7_1:wB.cell? ⟨wF.heap.size,1,none⟩=some (.int .i64 E.ino):=RE.out.cell 1;have H3:=hide h3;clear h3;clear hbel)|(refine wpList_storeW rfl 120 (.tmp 5) (.tmp 28) rfl 2 viw_size (w.heap.size+1) 120 rfl (viwC 0 (.slice none 0 0)) (viwC S.2.1.1 (.slice A3 S.2.1.2.length c3)) rfl R5.out rfl rfl (viwC_one _ _ _ _) ?_;intro wS8 hr8 hg8 hs8;clear q2_4 q2_6 q8_0 q7_1;replace HB:=hide (HB.out.grown hg8 (by omega) (pu4 (by omega)));replace R2:=hide (R2.out.grown hg8 (pu5 (by omega)));replace R6:=hide (R6.out.grown hg8 (pu5 (by omega)));replace HU:=hide (und_grown HU.out hg8 (by omega) (by omega));replace HL:=hide (und_grown HL.out hg8 (by omega) (by omega));replace HV:=hide (und_grown HV.out hg8 (by omega) (by omega));replace RE:=hide (RE.out.grown hg8 (pu5 (by omega)));replace RN:=hide (RN.out.grown hg8 (pu5 (by omega)));replace H3:=hide (fr_grown H3.out hg8 (by omega));have hsz9:=hg8.size;replace R5:=hide hr8;have q2_4:wS8.cell? ⟨w.heap.size,4,none⟩=some (.slice AU nU cU):=R2.out.cell 4;have q2_6:wS8.cell? ⟨w.heap.size,6,none⟩=some (.int .i64 u):=R2.out.cell 6;have q8_0:wS8.cell? ⟨wF.heap.size+1,0,none⟩=some (.int .i64 N.k):=RN.out.cell 0;have q7_1:wS8.cell? ⟨wF.heap.size,1,none⟩=some (.int .i64 E.ino):=RE.out.cell 1;clear hr8 hg8 hs8)|(refine wpList_storeW rfl 75 (.tmp 6) (.tmp 29) rfl 2 plc_size (w.heap.size+1+1) 75 rfl (prC (0,0)) (prC S.2.2) rfl R6.out rfl rfl (prC_one _) ?_;intro wS10 hr10 hg10 hs10;clear q2_4 q2_6 q8_0 q7_1;replace HB:=hide (HB.out.grown hg10 (by omega) (pu4 (by omega)));replace R2:=hide (R2.out.grown hg10 (pu5 (by omega)));replace R5:=hide (R5.out.grown hg10 (pu5 (by omega)));replace HU:=hide (und_grown HU.out hg10 (by omega) (by omega));replace HL:=hide (und_grown HL.out hg10 (by omega) (by omega));replace HV:=hide (und_grown HV.out hg10 (by omega) (by omega));replace RE:=hide (RE.out.grown hg10 (pu5 (by omega)));replace RN:=hide (RN.out.grown hg10 (pu5 (by omega)));replace H3:=hide (fr_grown H3.out hg10 (by omega));have hsz11:=hg10.size;replace R6:=hide hr10;have q2_4:wS10.cell? ⟨w.heap.size,4,none⟩=some (.slice AU nU cU):=R2.out.cell 4;have q2_6:wS10.cell? ⟨w.heap.size,6,none⟩=some (.int .i64 u):=R2.out.cell 6;have q8_0:wS10.cell? ⟨wF.heap.size+1,0,none⟩=some (.int .i64 N.k):=RN.out.cell 0;have q7_1:wS10.cell? ⟨wF.heap.size,1,none⟩=some (.int .i64 E.ino):=RE.out.cell 1;clear hr10 hg10 hs10))
  exact bodyPost_ret (res_tcc Tryz.results124 rfl rfl rfl viw_agg viw_size plc_agg plc_size R5.out rfl R6.out rfl) rfl ⟨A3,c3,rfl,fr_low H3.out (by omega),HB.out⟩
 | some e =>
  rw [ho] at hE hN
  have huse:=(firstB_use ho).1
  have hEe:e=E:=hE
  subst hEe
  have hNe:nodAt up e.ino=N:=hN
  rw [hNe] at huse
  have hkr:=(show PlainX N from by rw [←hNe];exact nodAt_plainX hup.2 _).2.1
  have hk0:(N.k==0)=false:=by simpa using huse
  dsimp only
  unfold upStep
  rw [hNe]
  by_cases h1:N.k=1
  ·rw [if_pos h1]
   have hk1:(N.k==1)=true:=by simpa using h1
   have hk2:(N.k==2)=false:=by simp [h1]
   have hk3:(N.k==3)=false:=by simp [h1]
   obtain ⟨P,hP⟩:∃P,partV up ls vl e.ino nm=P:=⟨_,rfl⟩
   have HP:=hide hP
   rw [hP]
   clear r0 r1 r2 hb1 hW1 hu h hF hup hv hE hN ho hNe huse hkr h1 hP
   go_enter Tryz.func124,Tryz.ntmps124
   go_wp2_with (first|(go_at_call 127;refine (First_m HE.out HN.out (B:=B) W1 HU.out (by omega) (by have:=HFU.out.1;omega) (entB_lenX HFU.out.2 u)).mono ?_;rintro e1 wF ⟨A1,n1,c1,C1,m1,d1,rfl,hbel⟩;clear q2_4 q2_6;replace HB:=hide (HB.out.trans (hbel.mono HB.out.size));replace R2:=hide (R2.out.on hbel);replace R5:=hide (R5.out.on hbel);replace R6:=hide (R6.out.on hbel);replace HU:=hide (HU.out.under hbel (by omega));replace HL:=hide (HL.out.under hbel (by omega));replace HV:=hide (HV.out.under hbel (by omega));have hsz2:=hbel.size;have q2_4:wF.cell? ⟨w.heap.size,4,none⟩=some (.slice AU nU cU):=R2.out.cell 4;have q2_6:wF.cell? ⟨w.heap.size,6,none⟩=some (.int .i64 u):=R2.out.cell 6;clear hbel)|(obtain ⟨hz7,hz8,hzb,hzs⟩:=rows2 wF [.int .i64 0,.int .i64 0,.string ⟨#[]⟩] (nodC nod0 (.slice none 0 0) (.slice none 0 0)) 31 51;refine wpList_storeW rfl 31 (.tmp 7) (.tmp 18) rfl 3 entw_size (wF.heap.size) 31 rfl [.int .i64 0,.int .i64 0,.string ⟨#[]⟩] (cellsE e) rfl hz7 rfl rfl (cellsE_one _) ?_;intro wS3 hr3 hg3 hs3;replace hzb:=hzb.grown hg3 hzb.size (pu4 (by omega));replace hz8:=hz8.grown hg3 (pu5 (by omega));have hz7:=hr3;clear hg3 hs3 hr3)|(refine wpList_storeW rfl 51 (.tmp 8) (.tmp 19) rfl 13 nod_size (wF.heap.size+1) 51 rfl (nodC nod0 (.slice none 0 0) (.slice none 0 0)) (nodC N (.slice A1 n1 c1) (.slice C1 m1 d1)) rfl hz8 rfl rfl (nodC_one _ _ _ _ _ _ _) ?_;intro wS4 hr4 hg4 hs4;replace hzb:=hzb.grown hg4 hzb.size (pu4 (by omega));replace hz7:=hz7.grown hg4 (pu5 (by omega));have hz8:=hr4;clear q2_4 q2_6;replace HB:=hide (HB.out.trans (hzb.mono HB.out.size));replace R2:=hide (R2.out.on hzb);replace R5:=hide (R5.out.on hzb);replace R6:=hide (R6.out.on hzb);replace HU:=hide (HU.out.under hzb (by omega));replace HL:=hide (HL.out.under hzb (by omega));replace HV:=hide (HV.out.under hzb (by omega));have hsz5:=hzb.size;have q2_4:wS4.cell? ⟨w.heap.size,4,none⟩=some (.slice AU nU cU):=R2.out.cell 4;have q2_6:wS4.cell? ⟨w.heap.size,6,none⟩=some (.int .i64 u):=R2.out.cell 6;have RE:=hide hz7;have hlt3:=hz7.lt;have RN:=hide hz8;have hlt4:=hz8.lt;have q8_0:wS4.cell? ⟨wF.heap.size+1,0,none⟩=some (.int .i64 N.k):=RN.out.cell 0;have q7_1:wS4.cell? ⟨wF.heap.size,1,none⟩=some (.int .i64 e.ino):=RE.out.cell 1;clear hzb hzs hz7 hz8;clear hg4 hs4))
   refine wp_region_planN (fun w'=>TwoS wS4 w.heap.size (w.heap.size+1) 120 2 (w.heap.size+1+1) 75 2 w') [(0,true),(1,true),(2,true),(3,true),(5,true),(6,true),(7,true),(4,false),(8,true),(9,false),(10,false)] (by kernel_rfl) (by kernel_rfl) (by kernel_rfl) (by kernel_rfl) rfl (fun _ _ _ _ _ h=>h) (TwoS.start (base:=w.heap.size) R5.out rfl R6.out rfl) (fun hHeld=>?_)
   simp only [planOps,List.filterMap_cons,List.filterMap_nil,List.getElem?_toArray,List.getElem?_cons_succ,List.getElem?_cons_zero,Option.map_some]
   refine wpPlan_take (v:=?_) (by kernel_rfl) (fun wS hSw=>?_) ?_
   rotate_left
   ·refine execOp_load (x:=.tmp 2) (k:=8) (g:=w.heap.size) (off:=0) (cs:=(vwdC g (.slice AU nU cU) (.slice AL nL cL) u (.slice AV nV cV))) ?_ vwd_agg vwd_size ?_ (fun j v hv=>by rw [Nat.zero_add];exact ((hSw.row R2.out (by omega) (by omega)).cell j).trans hv) rfl <;> rfl
   (try simp only [Act.put,pu1,pu2,pu3])
   refine wpPlan_take (v:=?_) (by kernel_rfl) (fun wS hSw=>?_) ?_
   rotate_left
   ·(try dsimp only at hSw);go_simp;(try with_reducible rfl)
   (try simp only [Act.put,pu1,pu2,pu3])
   refine wpPlan_take (v:=?_) (by kernel_rfl) (fun wS hSw=>?_) ?_
   rotate_left
   ·have qx:=((hSw.row RE.out (by omega) (by omega)).cell 1).trans (show (cellsE e)[1]?=some (.int .i64 e.ino) from rfl);go_simp;(try with_reducible rfl)
   (try simp only [Act.put,pu1,pu2,pu3])
   iterate 2
    refine wpPlan_take (v:=?_) (by kernel_rfl) (fun wS hSw=>?_) ?_
    rotate_left
    ·(try dsimp only at hSw);go_simp;(try with_reducible rfl)
    (try simp only [Act.put,pu1,pu2,pu3])
   refine wpPlan_take (v:=?_) (by kernel_rfl) (fun wS hSw=>?_) ?_
   rotate_left
   ·have qx:=((hSw.row RE.out (by omega) (by omega)).cell 1).trans (show (cellsE e)[1]?=some (.int .i64 e.ino) from rfl);go_simp;(try with_reducible rfl)
   (try simp only [Act.put,pu1,pu2,pu3])
   refine wpPlan_take (v:=?_) (by kernel_rfl) (fun wS hSw=>?_) ?_
   rotate_left
   ·(try dsimp only at hSw);go_simp;(try with_reducible rfl)
   (try simp only [Act.put,pu1,pu2,pu3])
   refine wpPlan_call (by kernel_rfl) (fun K hK=>?_)
   have hOld:=hide hHeld
   clear hHeld
   go_simp
   go_at_call 149
   refine (VAbove_any HP.out _ (hOld.out.und HU.out (by omega) (by omega) (by omega)) (hOld.out.und HL.out (by omega) (by omega) (by omega)) (by have:=hOld.out.2.2.2.size;omega) HF.out HFU.out (hOld.out.und HV.out (by omega) (by omega) (by omega)) (by have:=hOld.out.2.2.2.size;omega) hnV).mono ?_
   rintro e w' ⟨A3,c3,rfl,h3,hbel⟩
   have H3:=hide (fr_low h3 (lo':=W1.heap.size) (by have:=hOld.out.2.2.2.size;omega))
   clear h3
   refine hK.out _ _ (hOld.out.on hbel (by omega)) (fun hHeld=>?_)
   clear hK K
   (try dsimp only)
   refine wpPlan_take (v:=?_) (by kernel_rfl) (fun wS hSw=>?_) ?_
   rotate_left
   ·(try dsimp only at hSw);go_simp;(try with_reducible rfl)
   (try simp only [Act.put,pu1,pu2,pu3])
   refine wpPlan_call (by kernel_rfl) (fun K hK=>?_)
   have hOld:=hide hHeld
   clear hHeld
   obtain ⟨pk,⟨cu5,p5,l5⟩,p6,pb⟩:=hOld.out
   refine wp_storeC 120 (.tmp 5) (.tmp 45) rfl 2 viw_size (w.heap.size+1) 0 120 rfl cu5 (viwC e.ino (.slice A3 P.length c3)) rfl p5 rfl (by omega) (viwC_one _ _ _ _) ?_
   intro w' hr' hg' hs'
   rw [splice_all _ _ (by rw [l5];rfl)] at hr'
   refine hK.out _ _ (hOld.out.st5 hg' hr' rfl (by omega) (by omega) (by omega)) (fun hHeld=>?_)
   clear hK K
   have hsO:=hOld.out.2.2.2.size
   replace H3:=hide (fr_grown H3.out hg' (by omega))
   have HR5:=hide hr'
   clear hr' hg' hs' pk p5 p6 pb hsO
   (try simp only [Act.put])
   refine wpPlan_call (by kernel_rfl) (fun K hK=>?_)
   have hOld:=hide hHeld
   clear hHeld
   obtain ⟨pk,p5,⟨cu6,p6,l6⟩,pb⟩:=hOld.out
   refine wp_storeC 75 (.tmp 6) (.tmp 48) rfl 2 plc_size (w.heap.size+1+1) 0 75 rfl cu6 (prC (0,e.ino)) rfl p6 rfl (by omega) (prC_one _) ?_
   intro w' hr' hg' hs'
   rw [splice_all _ _ (by rw [l6];rfl)] at hr'
   refine hK.out _ _ (hOld.out.st6 hg' hr' rfl (by omega) (by omega) (by omega)) (fun hHeld=>?_)
   clear hK K
   have hsO:=hOld.out.2.2.2.size
   replace H3:=hide (fr_grown H3.out hg' (by omega))
   have HR6:=hide hr'
   replace HR5:=hide (HR5.out.grown hg' (pu5 (by omega)))
   clear hr' hg' hs' pk p5 p6 pb hsO
   (try simp only [Act.put])
   refine wpPlan_end ?_
   have HSF:=hide hHeld
   clear hHeld
   go_wp2_with fail
   exact bodyPost_ret (res_tcc Tryz.results124 rfl rfl rfl viw_agg viw_size plc_agg plc_size HR5.out rfl HR6.out rfl) rfl ⟨A3,c3,rfl,fr_low H3.out (by omega),HB.out.trans HSF.out.2.2.2⟩
  ·rw [if_neg h1]
   have hk1:(N.k==1)=false:=by simpa using h1
   by_cases h4:N.k=4
   ·rw [if_pos h4]
    have hk2:(N.k==2)=false:=by simp [h4]
    have hk3:(N.k==3)=false:=by simp [h4]
    unfold noStep
    clear r0 r1 r2 hb1 hW1 hu h hF hup hv hE hN ho hNe huse hkr h1 h4
    go_enter Tryz.func124,Tryz.ntmps124
    go_wp2_with (first|(go_at_call 127;refine (First_m HE.out HN.out (B:=B) W1 HU.out (by omega) (by have:=HFU.out.1;omega) (entB_lenX HFU.out.2 u)).mono ?_;rintro e1 wF ⟨A1,n1,c1,C1,m1,d1,rfl,hbel⟩;clear q2_4 q2_6;replace HB:=hide (HB.out.trans (hbel.mono HB.out.size));replace R2:=hide (R2.out.on hbel);replace R5:=hide (R5.out.on hbel);replace R6:=hide (R6.out.on hbel);replace HU:=hide (HU.out.under hbel (by omega));replace HL:=hide (HL.out.under hbel (by omega));replace HV:=hide (HV.out.under hbel (by omega));have hsz2:=hbel.size;have q2_4:wF.cell? ⟨w.heap.size,4,none⟩=some (.slice AU nU cU):=R2.out.cell 4;have q2_6:wF.cell? ⟨w.heap.size,6,none⟩=some (.int .i64 u):=R2.out.cell 6;clear hbel)|(obtain ⟨hz7,hz8,hzb,hzs⟩:=rows2 wF [.int .i64 0,.int .i64 0,.string ⟨#[]⟩] (nodC nod0 (.slice none 0 0) (.slice none 0 0)) 31 51;refine wpList_storeW rfl 31 (.tmp 7) (.tmp 18) rfl 3 entw_size (wF.heap.size) 31 rfl [.int .i64 0,.int .i64 0,.string ⟨#[]⟩] (cellsE e) rfl hz7 rfl rfl (cellsE_one _) ?_;intro wS3 hr3 hg3 hs3;replace hzb:=hzb.grown hg3 hzb.size (pu4 (by omega));replace hz8:=hz8.grown hg3 (pu5 (by omega));have hz7:=hr3;clear hg3 hs3 hr3)|(refine wpList_storeW rfl 51 (.tmp 8) (.tmp 19) rfl 13 nod_size (wF.heap.size+1) 51 rfl (nodC nod0 (.slice none 0 0) (.slice none 0 0)) (nodC N (.slice A1 n1 c1) (.slice C1 m1 d1)) rfl hz8 rfl rfl (nodC_one _ _ _ _ _ _ _) ?_;intro wS4 hr4 hg4 hs4;replace hzb:=hzb.grown hg4 hzb.size (pu4 (by omega));replace hz7:=hz7.grown hg4 (pu5 (by omega));have hz8:=hr4;clear q2_4 q2_6;replace HB:=hide (HB.out.trans (hzb.mono HB.out.size));replace R2:=hide (R2.out.on hzb);replace R5:=hide (R5.out.on hzb);replace R6:=hide (R6.out.on hzb);replace HU:=hide (HU.out.under hzb (by omega));replace HL:=hide (HL.out.under hzb (by omega));replace HV:=hide (HV.out.under hzb (by omega));have hsz5:=hzb.size;have q2_4:wS4.cell? ⟨w.heap.size,4,none⟩=some (.slice AU nU cU):=R2.out.cell 4;have q2_6:wS4.cell? ⟨w.heap.size,6,none⟩=some (.int .i64 u):=R2.out.cell 6;have RE:=hide hz7;have hlt3:=hz7.lt;have RN:=hide hz8;have hlt4:=hz8.lt;have q8_0:wS4.cell? ⟨wF.heap.size+1,0,none⟩=some (.int .i64 N.k):=RN.out.cell 0;have q7_1:wS4.cell? ⟨wF.heap.size,1,none⟩=some (.int .i64 e.ino):=RE.out.cell 1;clear hzb hzs hz7 hz8;clear hg4 hs4)|(refine wpList_storeW rfl 120 (.tmp 5) (.tmp 49) rfl 2 viw_size (w.heap.size+1) 120 rfl (viwC 0 (.slice none 0 0)) (viwC 0 (.slice none 0 0)) rfl R5.out rfl rfl (viwC_one _ _ _ _) ?_;intro wS6 hr6 hg6 hs6;clear q2_4 q2_6 q8_0 q7_1;replace HB:=hide (HB.out.grown hg6 (by omega) (pu4 (by omega)));replace R2:=hide (R2.out.grown hg6 (pu5 (by omega)));replace R6:=hide (R6.out.grown hg6 (pu5 (by omega)));replace HU:=hide (und_grown HU.out hg6 (by omega) (by omega));replace HL:=hide (und_grown HL.out hg6 (by omega) (by omega));replace HV:=hide (und_grown HV.out hg6 (by omega) (by omega));replace RE:=hide (RE.out.grown hg6 (pu5 (by omega)));replace RN:=hide (RN.out.grown hg6 (pu5 (by omega)));have hsz7:=hg6.size;replace R5:=hide hr6;have q2_4:wS6.cell? ⟨w.heap.size,4,none⟩=some (.slice AU nU cU):=R2.out.cell 4;have q2_6:wS6.cell? ⟨w.heap.size,6,none⟩=some (.int .i64 u):=R2.out.cell 6;have q8_0:wS6.cell? ⟨wF.heap.size+1,0,none⟩=some (.int .i64 N.k):=RN.out.cell 0;have q7_1:wS6.cell? ⟨wF.heap.size,1,none⟩=some (.int .i64 e.ino):=RE.out.cell 1;clear hr6 hg6 hs6)|(refine wpList_storeW rfl 75 (.tmp 6) (.tmp 50) rfl 2 plc_size (w.heap.size+1+1) 75 rfl (prC (0,0)) (prC (0,0)) rfl R6.out rfl rfl (prC_one _) ?_;intro wS8 hr8 hg8 hs8;clear q2_4 q2_6 q8_0 q7_1;replace HB:=hide (HB.out.grown hg8 (by omega) (pu4 (by omega)));replace R2:=hide (R2.out.grown hg8 (pu5 (by omega)));replace R5:=hide (R5.out.grown hg8 (pu5 (by omega)));replace HU:=hide (und_grown HU.out hg8 (by omega) (by omega));replace HL:=hide (und_grown HL.out hg8 (by omega) (by omega));replace HV:=hide (und_grown HV.out hg8 (by omega) (by omega));replace RE:=hide (RE.out.grown hg8 (pu5 (by omega)));replace RN:=hide (RN.out.grown hg8 (pu5 (by omega)));have hsz9:=hg8.size;replace R6:=hide hr8;have q2_4:wS8.cell? ⟨w.heap.size,4,none⟩=some (.slice AU nU cU):=R2.out.cell 4;have q2_6:wS8.cell? ⟨w.heap.size,6,none⟩=some (.int .i64 u):=R2.out.cell 6;have q8_0:wS8.cell? ⟨wF.heap.size+1,0,none⟩=some (.int .i64 N.k):=RN.out.cell 0;have q7_1:wS8.cell? ⟨wF.heap.size,1,none⟩=some (.int .i64 e.ino):=RE.out.cell 1;clear hr8 hg8 hs8))
    exact bodyPost_ret (res_tcc Tryz.results124 rfl rfl rfl viw_agg viw_size plc_agg plc_size R5.out rfl R6.out rfl) rfl ⟨none,0,rfl,RdE.none_ _ _ _ _,HB.out⟩
   ·rw [if_neg h4]
    by_cases h2:N.k=2
    ·have hk2:(N.k==2)=true:=by simpa using h2
     clear r0 r1 r2 hb1 hW1 hu h hF hup hv hE hN ho hNe huse hkr h1 h4 h2
     go_enter Tryz.func124,Tryz.ntmps124
     go_wp2_with (first|(go_at_call 127;refine (First_m HE.out HN.out (B:=B) W1 HU.out (by omega) (by have:=HFU.out.1;omega) (entB_lenX HFU.out.2 u)).mono ?_;rintro e1 wF ⟨A1,n1,c1,C1,m1,d1,rfl,hbel⟩;clear q2_4 q2_6;replace HB:=hide (HB.out.trans (hbel.mono HB.out.size));replace R2:=hide (R2.out.on hbel);replace R5:=hide (R5.out.on hbel);replace R6:=hide (R6.out.on hbel);replace HU:=hide (HU.out.under hbel (by omega));replace HL:=hide (HL.out.under hbel (by omega));replace HV:=hide (HV.out.under hbel (by omega));have hsz2:=hbel.size;have q2_4:wF.cell? ⟨w.heap.size,4,none⟩=some (.slice AU nU cU):=R2.out.cell 4;have q2_6:wF.cell? ⟨w.heap.size,6,none⟩=some (.int .i64 u):=R2.out.cell 6;clear hbel)|(obtain ⟨hz7,hz8,hzb,hzs⟩:=rows2 wF [.int .i64 0,.int .i64 0,.string ⟨#[]⟩] (nodC nod0 (.slice none 0 0) (.slice none 0 0)) 31 51;refine wpList_storeW rfl 31 (.tmp 7) (.tmp 18) rfl 3 entw_size (wF.heap.size) 31 rfl [.int .i64 0,.int .i64 0,.string ⟨#[]⟩] (cellsE e) rfl hz7 rfl rfl (cellsE_one _) ?_;intro wS3 hr3 hg3 hs3;replace hzb:=hzb.grown hg3 hzb.size (pu4 (by omega));replace hz8:=hz8.grown hg3 (pu5 (by omega));have hz7:=hr3;clear hg3 hs3 hr3)|(refine wpList_storeW rfl 51 (.tmp 8) (.tmp 19) rfl 13 nod_size (wF.heap.size+1) 51 rfl (nodC nod0 (.slice none 0 0) (.slice none 0 0)) (nodC N (.slice A1 n1 c1) (.slice C1 m1 d1)) rfl hz8 rfl rfl (nodC_one _ _ _ _ _ _ _) ?_;intro wS4 hr4 hg4 hs4;replace hzb:=hzb.grown hg4 hzb.size (pu4 (by omega));replace hz7:=hz7.grown hg4 (pu5 (by omega));have hz8:=hr4;clear q2_4 q2_6;replace HB:=hide (HB.out.trans (hzb.mono HB.out.size));replace R2:=hide (R2.out.on hzb);replace R5:=hide (R5.out.on hzb);replace R6:=hide (R6.out.on hzb);replace HU:=hide (HU.out.under hzb (by omega));replace HL:=hide (HL.out.under hzb (by omega));replace HV:=hide (HV.out.under hzb (by omega));have hsz5:=hzb.size;have q2_4:wS4.cell? ⟨w.heap.size,4,none⟩=some (.slice AU nU cU):=R2.out.cell 4;have q2_6:wS4.cell? ⟨w.heap.size,6,none⟩=some (.int .i64 u):=R2.out.cell 6;have RE:=hide hz7;have hlt3:=hz7.lt;have RN:=hide hz8;have hlt4:=hz8.lt;have q8_0:wS4.cell? ⟨wF.heap.size+1,0,none⟩=some (.int .i64 N.k):=RN.out.cell 0;have q7_1:wS4.cell? ⟨wF.heap.size,1,none⟩=some (.int .i64 e.ino):=RE.out.cell 1;clear hzb hzs hz7 hz8;clear hg4 hs4))
     refine wp_region_planN (fun w'=>TwoS wS4 w.heap.size (w.heap.size+1) 120 2 (w.heap.size+1+1) 75 2 w') [(0,true),(1,true),(2,true),(3,true),(4,true),(5,true),(6,true),(7,false),(8,false)] (by kernel_rfl) (by kernel_rfl) (by kernel_rfl) (by kernel_rfl) rfl (fun _ _ _ _ _ h=>h) (TwoS.start (base:=w.heap.size) R5.out rfl R6.out rfl) (fun hHeld=>?_)
     simp only [planOps,List.filterMap_cons,List.filterMap_nil,List.getElem?_toArray,List.getElem?_cons_succ,List.getElem?_cons_zero,Option.map_some]
     refine wpPlan_take (v:=?_) (by kernel_rfl) (fun wS hSw=>?_) ?_
     rotate_left
     ·(try dsimp only at hSw);go_simp;(try with_reducible rfl)
     (try simp only [Act.put,pu1,pu2,pu3])
     refine wpPlan_take (v:=?_) (by kernel_rfl) (fun wS hSw=>?_) ?_
     rotate_left
     ·have qx:=((hSw.row RN.out (by omega) (by omega)).cell 0).trans (show (nodC N (.slice A1 n1 c1) (.slice C1 m1 d1))[0]?=some (.int .i64 N.k) from rfl);go_simp;(try with_reducible rfl)
     (try simp only [Act.put,pu1,pu2,pu3])
     iterate 2
      refine wpPlan_take (v:=?_) (by kernel_rfl) (fun wS hSw=>?_) ?_
      rotate_left
      ·(try dsimp only at hSw);go_simp;(try with_reducible rfl)
      (try simp only [Act.put,pu1,pu2,pu3])
     refine wpPlan_take (v:=?_) (by kernel_rfl) (fun wS hSw=>?_) ?_
     rotate_left
     ·have qx:=((hSw.row RE.out (by omega) (by omega)).cell 1).trans (show (cellsE e)[1]?=some (.int .i64 e.ino) from rfl);go_simp;(try with_reducible rfl)
     (try simp only [Act.put,pu1,pu2,pu3])
     iterate 2
      refine wpPlan_take (v:=?_) (by kernel_rfl) (fun wS hSw=>?_) ?_
      rotate_left
      ·(try dsimp only at hSw);go_simp;(try with_reducible rfl)
      (try simp only [Act.put,pu1,pu2,pu3])
     refine wpPlan_call (by kernel_rfl) (fun K hK=>?_)
     have hOld:=hide hHeld
     clear hHeld
     obtain ⟨pk,⟨cu5,p5,l5⟩,p6,pb⟩:=hOld.out
     refine wp_storeC 120 (.tmp 5) (.tmp 35) rfl 2 viw_size (w.heap.size+1) 0 120 rfl cu5 (viwC 0 (.slice none 0 0)) rfl p5 rfl (by omega) (viwC_one _ _ _ _) ?_
     intro w' hr' hg' hs'
     rw [splice_all _ _ (by rw [l5];rfl)] at hr'
     refine hK.out _ _ (hOld.out.st5 hg' hr' rfl (by omega) (by omega) (by omega)) (fun hHeld=>?_)
     clear hK K
     have hsO:=hOld.out.2.2.2.size
     have HR5:=hide hr'
     clear hr' hg' hs' pk p5 p6 pb hsO
     (try simp only [Act.put])
     refine wpPlan_call (by kernel_rfl) (fun K hK=>?_)
     have hOld:=hide hHeld
     clear hHeld
     obtain ⟨pk,p5,⟨cu6,p6,l6⟩,pb⟩:=hOld.out
     refine wp_storeC 75 (.tmp 6) (.tmp 38) rfl 2 plc_size (w.heap.size+1+1) 0 75 rfl cu6 (prC (0,e.ino)) rfl p6 rfl (by omega) (prC_one _) ?_
     intro w' hr' hg' hs'
     rw [splice_all _ _ (by rw [l6];rfl)] at hr'
     refine hK.out _ _ (hOld.out.st6 hg' hr' rfl (by omega) (by omega) (by omega)) (fun hHeld=>?_)
     clear hK K
     have hsO:=hOld.out.2.2.2.size
     have HR6:=hide hr'
     replace HR5:=hide (HR5.out.grown hg' (pu5 (by omega)))
     clear hr' hg' hs' pk p5 p6 pb hsO
     (try simp only [Act.put])
     refine wpPlan_end ?_
     have HSF:=hide hHeld
     clear hHeld
     go_wp2_with fail
     exact bodyPost_ret (res_tcc Tryz.results124 rfl rfl rfl viw_agg viw_size plc_agg plc_size HR5.out rfl HR6.out rfl) rfl ⟨none,0,rfl,RdE.none_ _ _ _ _,HB.out.trans HSF.out.2.2.2⟩
    ·have hk2:(N.k==2)=false:=by simpa using h2
     have hk3:(N.k==3)=true:=by simp;omega
     clear r0 r1 r2 hb1 hW1 hu h hF hup hv hE hN ho hNe huse hkr h1 h4 h2
     go_enter Tryz.func124,Tryz.ntmps124
     go_wp2_with (first|(go_at_call 127;refine (First_m HE.out HN.out (B:=B) W1 HU.out (by omega) (by have:=HFU.out.1;omega) (entB_lenX HFU.out.2 u)).mono ?_;rintro e1 wF ⟨A1,n1,c1,C1,m1,d1,rfl,hbel⟩;clear q2_4 q2_6;replace HB:=hide (HB.out.trans (hbel.mono HB.out.size));replace R2:=hide (R2.out.on hbel);replace R5:=hide (R5.out.on hbel);replace R6:=hide (R6.out.on hbel);replace HU:=hide (HU.out.under hbel (by omega));replace HL:=hide (HL.out.under hbel (by omega));replace HV:=hide (HV.out.under hbel (by omega));have hsz2:=hbel.size;have q2_4:wF.cell? ⟨w.heap.size,4,none⟩=some (.slice AU nU cU):=R2.out.cell 4;have q2_6:wF.cell? ⟨w.heap.size,6,none⟩=some (.int .i64 u):=R2.out.cell 6;clear hbel)|(obtain ⟨hz7,hz8,hzb,hzs⟩:=rows2 wF [.int .i64 0,.int .i64 0,.string ⟨#[]⟩] (nodC nod0 (.slice none 0 0) (.slice none 0 0)) 31 51;refine wpList_storeW rfl 31 (.tmp 7) (.tmp 18) rfl 3 entw_size (wF.heap.size) 31 rfl [.int .i64 0,.int .i64 0,.string ⟨#[]⟩] (cellsE e) rfl hz7 rfl rfl (cellsE_one _) ?_;intro wS3 hr3 hg3 hs3;replace hzb:=hzb.grown hg3 hzb.size (pu4 (by omega));replace hz8:=hz8.grown hg3 (pu5 (by omega));have hz7:=hr3;clear hg3 hs3 hr3)|(refine wpList_storeW rfl 51 (.tmp 8) (.tmp 19) rfl 13 nod_size (wF.heap.size+1) 51 rfl (nodC nod0 (.slice none 0 0) (.slice none 0 0)) (nodC N (.slice A1 n1 c1) (.slice C1 m1 d1)) rfl hz8 rfl rfl (nodC_one _ _ _ _ _ _ _) ?_;intro wS4 hr4 hg4 hs4;replace hzb:=hzb.grown hg4 hzb.size (pu4 (by omega));replace hz7:=hz7.grown hg4 (pu5 (by omega));have hz8:=hr4;clear q2_4 q2_6;replace HB:=hide (HB.out.trans (hzb.mono HB.out.size));replace R2:=hide (R2.out.on hzb);replace R5:=hide (R5.out.on hzb);replace R6:=hide (R6.out.on hzb);replace HU:=hide (HU.out.under hzb (by omega));replace HL:=hide (HL.out.under hzb (by omega));replace HV:=hide (HV.out.under hzb (by omega));have hsz5:=hzb.size;have q2_4:wS4.cell? ⟨w.heap.size,4,none⟩=some (.slice AU nU cU):=R2.out.cell 4;have q2_6:wS4.cell? ⟨w.heap.size,6,none⟩=some (.int .i64 u):=R2.out.cell 6;have RE:=hide hz7;have hlt3:=hz7.lt;have RN:=hide hz8;have hlt4:=hz8.lt;have q8_0:wS4.cell? ⟨wF.heap.size+1,0,none⟩=some (.int .i64 N.k):=RN.out.cell 0;have q7_1:wS4.cell? ⟨wF.heap.size,1,none⟩=some (.int .i64 e.ino):=RE.out.cell 1;clear hzb hzs hz7 hz8;clear hg4 hs4))
     refine wp_region_planN (fun w'=>TwoS wS4 w.heap.size (w.heap.size+1) 120 2 (w.heap.size+1+1) 75 2 w') [(0,true),(1,true),(2,true),(3,true),(4,true),(5,true),(6,true),(7,false),(8,false)] (by kernel_rfl) (by kernel_rfl) (by kernel_rfl) (by kernel_rfl) rfl (fun _ _ _ _ _ h=>h) (TwoS.start (base:=w.heap.size) R5.out rfl R6.out rfl) (fun hHeld=>?_)
     simp only [planOps,List.filterMap_cons,List.filterMap_nil,List.getElem?_toArray,List.getElem?_cons_succ,List.getElem?_cons_zero,Option.map_some]
     refine wpPlan_take (v:=?_) (by kernel_rfl) (fun wS hSw=>?_) ?_
     rotate_left
     ·(try dsimp only at hSw);go_simp;(try with_reducible rfl)
     (try simp only [Act.put,pu1,pu2,pu3])
     refine wpPlan_take (v:=?_) (by kernel_rfl) (fun wS hSw=>?_) ?_
     rotate_left
     ·have qx:=((hSw.row RN.out (by omega) (by omega)).cell 0).trans (show (nodC N (.slice A1 n1 c1) (.slice C1 m1 d1))[0]?=some (.int .i64 N.k) from rfl);go_simp;(try with_reducible rfl)
     (try simp only [Act.put,pu1,pu2,pu3])
     iterate 2
      refine wpPlan_take (v:=?_) (by kernel_rfl) (fun wS hSw=>?_) ?_
      rotate_left
      ·(try dsimp only at hSw);go_simp;(try with_reducible rfl)
      (try simp only [Act.put,pu1,pu2,pu3])
     refine wpPlan_take (v:=?_) (by kernel_rfl) (fun wS hSw=>?_) ?_
     rotate_left
     ·have qx:=((hSw.row RE.out (by omega) (by omega)).cell 1).trans (show (cellsE e)[1]?=some (.int .i64 e.ino) from rfl);go_simp;(try with_reducible rfl)
     (try simp only [Act.put,pu1,pu2,pu3])
     iterate 2
      refine wpPlan_take (v:=?_) (by kernel_rfl) (fun wS hSw=>?_) ?_
      rotate_left
      ·(try dsimp only at hSw);go_simp;(try with_reducible rfl)
      (try simp only [Act.put,pu1,pu2,pu3])
     refine wpPlan_call (by kernel_rfl) (fun K hK=>?_)
     have hOld:=hide hHeld
     clear hHeld
     obtain ⟨pk,⟨cu5,p5,l5⟩,p6,pb⟩:=hOld.out
     refine wp_storeC 120 (.tmp 5) (.tmp 35) rfl 2 viw_size (w.heap.size+1) 0 120 rfl cu5 (viwC 0 (.slice none 0 0)) rfl p5 rfl (by omega) (viwC_one _ _ _ _) ?_
     intro w' hr' hg' hs'
     rw [splice_all _ _ (by rw [l5];rfl)] at hr'
     refine hK.out _ _ (hOld.out.st5 hg' hr' rfl (by omega) (by omega) (by omega)) (fun hHeld=>?_)
     clear hK K
     have hsO:=hOld.out.2.2.2.size
     have HR5:=hide hr'
     clear hr' hg' hs' pk p5 p6 pb hsO
     (try simp only [Act.put])
     refine wpPlan_call (by kernel_rfl) (fun K hK=>?_)
     have hOld:=hide hHeld
     clear hHeld
     obtain ⟨pk,p5,⟨cu6,p6,l6⟩,pb⟩:=hOld.out
     refine wp_storeC 75 (.tmp 6) (.tmp 38) rfl 2 plc_size (w.heap.size+1+1) 0 75 rfl cu6 (prC (0,e.ino)) rfl p6 rfl (by omega) (prC_one _) ?_
     intro w' hr' hg' hs'
     rw [splice_all _ _ (by rw [l6];rfl)] at hr'
     refine hK.out _ _ (hOld.out.st6 hg' hr' rfl (by omega) (by omega) (by omega)) (fun hHeld=>?_)
     clear hK K
     have hsO:=hOld.out.2.2.2.size
     have HR6:=hide hr'
     replace HR5:=hide (HR5.out.grown hg' (pu5 (by omega)))
     clear hr' hg' hs' pk p5 p6 pb hsO
     (try simp only [Act.put])
     refine wpPlan_end ?_
     have HSF:=hide hHeld
     clear hHeld
     go_wp2_with fail
     exact bodyPost_ret (res_tcc Tryz.results124 rfl rfl rfl viw_agg viw_size plc_agg plc_size HR5.out rfl HR6.out rfl) rfl ⟨none,0,rfl,RdE.none_ _ _ _ _,HB.out.trans HSF.out.2.2.2⟩
theorem VStepI_e {g:GeoQ} {AU AL:Option Addr} {nU cU nL cL B:Nat} {up:List NodV} {ls:List (List NodV)} {u:Int} {AV:Option Addr} {nV cV BV:Nat} {vl:List (Int×Int)} {nm:List UInt8} {S:StepV} (hS:stepV up ls (u,vl) nm=S) (w:World) (hu:RdE nodEn w (Under B) AU nU up) (h:RdE layEn w (Under B) AL nL ls) (hB:B≤w.heap.size) (hF:FewL ls) (hup:FewX up) (hv:RdE prEn w (Under BV) AV nV vl) (hBV:BV≤w.heap.size) (hnV:nV≤1000):Calls Tryz.prog 124 #[.agg (vwdC g (.slice AU nU cU) (.slice AL nL cL) u (.slice AV nV cV)).toArray,.string ⟨nm.toArray⟩] w (StepF w.heap.size w S):=by rw [←hS];exact VStepI_any w hu h hB hF hup hv hBV hnV
set_option maxRecDepth 100000 in
set_option maxHeartbeats 4000000 in
theorem VStep_any {g:GeoQ} {AU AL:Option Addr} {nU cU nL cL B:Nat} {up:List NodV} {ls:List (List NodV)} {u:Int} {AV:Option Addr} {nV cV BV:Nat} {vl:List (Int×Int)} {nm:List UInt8} {S:StepV} (hS:stepV up ls (u,vl) nm=S) (w:World) (hu:RdE nodEn w (Under B) AU nU up) (h:RdE layEn w (Under B) AL nL ls) (hB:B≤w.heap.size) (hF:FewL ls) (hup:FewX up) (hv:RdE prEn w (Under BV) AV nV vl) (hBV:BV≤w.heap.size) (hnV:nV≤1000):Calls Tryz.prog 102 #[.agg (stkC g (.slice AU nU cU) (.slice AL nL cL)).toArray,.agg (viwC u (.slice AV nV cV)).toArray,.string ⟨nm.toArray⟩] w (StepF w.heap.size w S):=by
 obtain ⟨W1,hW1⟩:∃W1,((((w.alloc (.cells (stkC g (.slice AU nU cU) (.slice AL nL cL)).toArray 29)).alloc (.cells (viwC u (.slice AV nV cV)).toArray 120)).alloc (.cells (viwC 0 (.slice none 0 0)).toArray 120)).alloc (.cells (prC (0,0)).toArray 75))=W1:=⟨_,rfl⟩
 obtain ⟨r0,r1,r2,r3,hb1,hs1⟩:=rowA4 w _ _ _ _ _ _ _ _ hW1
 have hW1':((((w.alloc (.cells #[.int .i64 g.a,.int .i64 g.b,.int .i64 g.c,.int .i64 g.d,.slice AU nU cU,.slice AL nL cL] 29)).alloc (.cells #[.int .i64 u,.slice AV nV cV] 120)).alloc (.cells #[.int .i64 0,.slice none 0 0] 120)).alloc (.cells #[.int .i64 0,.int .i64 0] 75))=W1:=hW1
 have R3:=hide r0
 have R4:=hide r1
 have R7:=hide r2
 have R8:=hide r3
 have HB:=hide hb1
 have hsz0:=hb1.size
 have HU:=hide (hu.under hb1 hB)
 have HL:=hide (h.under hb1 hB)
 have HF:=hide hF
 have HFU:=hide hup
 have HV:=hide (hv.under hb1 hBV)
 have HS:=hide hS
 unfold stkC viwC
 clear r0 r1 r2 r3 hb1 hW1 hu h hF hup hv hS
 go_enter Tryz.func102,Tryz.ntmps102
 go_wp2_with (first|(refine wpList_loadW rfl 29 (.tmp 3) rfl 6 stk_agg stk_size (w.heap.size) 29 rfl [.int .i64 g.a,.int .i64 g.b,.int .i64 g.c,.int .i64 g.d,.slice AU nU cU,.slice AL nL cL] R3.out rfl ?_)|(refine wpList_loadW rfl 120 (.tmp 4) rfl 2 viw_agg viw_size (w.heap.size+1) 120 rfl [.int .i64 u,.slice AV nV cV] R4.out rfl ?_)|(go_at_call 124;refine (VStepI_e (u:=u) (cV:=cV) HS.out W1 HU.out HL.out (by omega) HF.out HFU.out HV.out (by omega) hnV).mono ?_;rintro e1 wB ⟨A3,c3,rfl,h3,hbel⟩;replace HB:=hide (HB.out.trans (hbel.mono HB.out.size));replace R3:=hide (R3.out.on hbel);replace R4:=hide (R4.out.on hbel);replace R7:=hide (R7.out.on hbel);replace R8:=hide (R8.out.on hbel);replace HU:=hide (HU.out.under hbel (by omega));replace HL:=hide (HL.out.under hbel (by omega));replace HV:=hide (HV.out.under hbel (by omega));have hsz2:=hbel.size;have H3:=hide h3;clear h3;clear hbel)|(refine wpList_storeW rfl 120 (.tmp 7) (.tmp 15) rfl 2 viw_size (w.heap.size+1+1) 120 rfl (viwC 0 (.slice none 0 0)) (viwC S.2.1.1 (.slice A3 S.2.1.2.length c3)) rfl R7.out rfl rfl (viwC_one _ _ _ _) ?_;intro wS3 hr3 hg3 hs3;replace HB:=hide (HB.out.grown hg3 (by omega) (pu4 (by omega)));replace R3:=hide (R3.out.grown hg3 (pu5 (by omega)));replace R4:=hide (R4.out.grown hg3 (pu5 (by omega)));replace R8:=hide (R8.out.grown hg3 (pu5 (by omega)));replace HU:=hide (und_grown HU.out hg3 (by omega) (by omega));replace HL:=hide (und_grown HL.out hg3 (by omega) (by omega));replace HV:=hide (und_grown HV.out hg3 (by omega) (by omega));replace H3:=hide (fr_grown H3.out hg3 (by omega));have hsz4:=hg3.size;replace R7:=hide hr3;clear hr3 hg3 hs3)|(refine wpList_storeW rfl 75 (.tmp 8) (.tmp 16) rfl 2 plc_size (w.heap.size+1+1+1) 75 rfl (prC (0,0)) (prC S.2.2) rfl R8.out rfl rfl (prC_one _) ?_;intro wS5 hr5 hg5 hs5;replace HB:=hide (HB.out.grown hg5 (by omega) (pu4 (by omega)));replace R3:=hide (R3.out.grown hg5 (pu5 (by omega)));replace R4:=hide (R4.out.grown hg5 (pu5 (by omega)));replace R7:=hide (R7.out.grown hg5 (pu5 (by omega)));replace HU:=hide (und_grown HU.out hg5 (by omega) (by omega));replace HL:=hide (und_grown HL.out hg5 (by omega) (by omega));replace HV:=hide (und_grown HV.out hg5 (by omega) (by omega));replace H3:=hide (fr_grown H3.out hg5 (by omega));have hsz6:=hg5.size;replace R8:=hide hr5;clear hr5 hg5 hs5))
 exact bodyPost_ret (res_tcc Tryz.results102 rfl rfl rfl viw_agg viw_size plc_agg plc_size R7.out rfl R8.out rfl) rfl ⟨A3,c3,rfl,fr_low H3.out (by omega),HB.out⟩
end Go.Proofs.YtpndfahgflgocaaGreatDoor

