import Derived.Test.YtnhegahpfacdgaaGreatRt13
import Derived.Test.YtnhegahpfacdgaaGreatRt5

namespace Go.Proofs.YtnhegahpfacdgaaGreat
open Go.RowKit Go.Shelf Plain

def PlcRet (w:World) (o:Option (Int×Int)) (e:Ending) (w':World):Prop:=e=.returned (.tuple #[.agg (prC (plcO o)).toArray,.bool o.isSome])∧Below w.heap.size w w'
set_option maxRecDepth 100000 in
set_option maxHeartbeats 8000000 in
theorem REntry_any {g:GeoQ} {AU AL:Option Addr} {nU cU nL cL:Nat} {ls:List (List NodV)} {p:Int×Int} {nm:List UInt8} {B:Nat} (w:World) (h:RdE layEn w (Under B) AL nL ls) (hB:B≤w.heap.size) (hm:ls.length≤100) (hm2:∀ns∈ls,ns.length≤1000) (hF:FewL ls) :
  Calls Tryz.prog 96 #[.agg (stkC g (.slice AU nU cU) (.slice AL nL cL)).toArray,.agg (prC p).toArray,.string ⟨nm.toArray⟩] w (PlcRet w (firstL ls p nm)):=by
 obtain ⟨r0,r1,r2,hb3,hs3⟩:=rows3 w (stkC g (.slice AU nU cU) (.slice AL nL cL)) (prC p) (prC (0,0)) 29 41 41
 obtain ⟨W3,hW3⟩:∃W3,((w.alloc (.cells (stkC g (.slice AU nU cU) (.slice AL nL cL)).toArray 29)).alloc (.cells (prC p).toArray 41)).alloc (.cells (prC (0,0)).toArray 41)=W3:=⟨_,rfl⟩
 rw [hW3] at r0 r1 r2 hb3 hs3
 have hW3':((w.alloc (.cells #[.int .i64 g.a,.int .i64 g.b,.int .i64 g.c,.int .i64 g.d,.slice AU nU cU,.slice AL nL cL] 29)).alloc (.cells #[.int .i64 p.1,.int .i64 p.2] 41)).alloc (.cells #[.int .i64 0,.int .i64 0] 41)=W3:=hW3
 have R0:=hide r0
 have R1:=hide r1
 have R2:=hide r2
 have HB3:=hide hb3
 have HL:=hide (h.under hb3 hB)
 have hs3l:w.heap.size+3≤W3.heap.size:=by omega
 have hel:=entL_len hF p
 have HFE:=hide hF
 obtain ⟨n0,hn0⟩:∃n0,lowAt ls p.1 p.2=n0:=⟨_,rfl⟩
 obtain ⟨FO,hFO⟩:∃FO,firstL ls p nm=FO:=⟨_,rfl⟩
 obtain ⟨bk,hbk⟩:∃bk,(n0.k != 1)=bk:=⟨_,rfl⟩
 rw [hFO]
 have HEL:=hide (show entL ls p=if bk=true then [] else n0.ents from by
  unfold entL
  rw [hn0,←hbk]
  by_cases hk:n0.k=1 <;> simp [hk])
 have HN0:=hide hn0
 have HFO:=hide hFO
 have hel0:(if bk=true then [] else n0.ents).length≤16:=by rw [←HEL.out];exact hel
 unfold stkC prC
 clear r0 r1 r2 hb3 hW3 h hs3 hFO hF hn0 hel
 go_enter Tryz.func96,Tryz.ntmps96
 cases bk
 rotate_left
 ·clear hel0
  go_wp2_with (first|(refine wpList_loadW rfl 29 (.tmp 3) rfl 6 stk_agg stk_size w.heap.size 29 rfl (stkC g (.slice AU nU cU) (.slice AL nL cL)) R0.out rfl ?_)|(refine wpList_loadW rfl 41 (.tmp 4) rfl 2 plc_agg plc_size (w.heap.size+1) 41 rfl (prC p) R1.out rfl ?_)|(go_at_call 94;refine (RLower_e HN0.out W3 HL.out (by omega) hm hm2).mono ?_;rintro ez w4 ⟨A1,n1,c1,C1,m1,d1,rfl,-,-,e4,e5,hb4⟩;have E5:=hide e5;have HB4:=hide hb4;have hs4:=hb4.size;have HZN:=hide (RowL.new w4 65 (nodC nod0 (.slice none 0 0) (.slice none 0 0)));clear e5 hb4)|(refine wpList_storeW rfl 65 (.tmp 8) (.tmp 13) rfl 13 nod_size w4.heap.size 65 rfl (nodC nod0 (.slice none 0 0) (.slice none 0 0)) (nodC n0 (.slice A1 n1 c1) (.slice C1 m1 d1)) rfl HZN.out rfl rfl (nodC_one _ _ _ _ _ _ _) ?_;intro w5 hr5 hg5 hs5;have hb5:=below_stored' hg5;have q0:w5.cell? ⟨w4.heap.size,0,none⟩=some (.int .i64 n0.k):=hr5.cell 0;have q5:w5.cell? ⟨w4.heap.size,5,none⟩=some (.slice C1 m1 d1):=hr5.cell 5;have R5:=hide hr5;have HB35:=hide (HB4.out.trans (hb5.mono hs4));have HB5:=hide (HB3.out.trans (HB35.out.mono (by omega)));have E6:=hide (E5.out.under hb5 (by omega));clear hr5 hg5 hs5 hb5)|(refine wpList_storeW rfl 41 (.tmp 6) (.tmp 17) rfl 2 plc_size (w.heap.size+1+1) 41 rfl (prC (0,0)) (prC (0,0)) rfl (R2.out.on HB35.out) rfl rfl (prC_one _) ?_;intro w6 hr6 hg6 hs6;have R6:=hide hr6;have HB6:=hide (HB5.out.grown hg6 (by have:=HB5.out.size;omega) (pu4 (by omega)));clear hr6 hg6))
  have eFO:FO=none:=by
   rw [←HFO.out]
   unfold firstL
   rw [HEL.out]
   rfl
  subst eFO
  exact bodyPost_ret (res_cell2 Tryz.results96 rfl rfl plc_agg plc_size R6.out rfl) rfl ⟨rfl,HB6.out⟩
 go_wp2_with (first|(refine wpList_loadW rfl 29 (.tmp 3) rfl 6 stk_agg stk_size w.heap.size 29 rfl (stkC g (.slice AU nU cU) (.slice AL nL cL)) R0.out rfl ?_)|(refine wpList_loadW rfl 41 (.tmp 4) rfl 2 plc_agg plc_size (w.heap.size+1) 41 rfl (prC p) R1.out rfl ?_)|(go_at_call 94;refine (RLower_e HN0.out W3 HL.out (by omega) hm hm2).mono ?_;rintro ez w4 ⟨A1,n1,c1,C1,m1,d1,rfl,-,-,e4,e5,hb4⟩;have E5:=hide e5;have HB4:=hide hb4;have hs4:=hb4.size;have HZN:=hide (RowL.new w4 65 (nodC nod0 (.slice none 0 0) (.slice none 0 0)));clear e5 hb4)|(refine wpList_storeW rfl 65 (.tmp 8) (.tmp 13) rfl 13 nod_size w4.heap.size 65 rfl (nodC nod0 (.slice none 0 0) (.slice none 0 0)) (nodC n0 (.slice A1 n1 c1) (.slice C1 m1 d1)) rfl HZN.out rfl rfl (nodC_one _ _ _ _ _ _ _) ?_;intro w5 hr5 hg5 hs5;have hb5:=below_stored' hg5;have q0:w5.cell? ⟨w4.heap.size,0,none⟩=some (.int .i64 n0.k):=hr5.cell 0;have q5:w5.cell? ⟨w4.heap.size,5,none⟩=some (.slice C1 m1 d1):=hr5.cell 5;have R5:=hide hr5;have HB35:=hide (HB4.out.trans (hb5.mono hs4));have HB5:=hide (HB3.out.trans (HB35.out.mono (by omega)));have E6:=hide (E5.out.under hb5 (by omega));clear hr5 hg5 hs5 hb5))
 clear hbk
 have HEm:=hide (show n0.ents.length≤16 from by simpa using hel0)
 have HEL:=hide (show entL ls p=n0.ents from by rw [HEL.out];simp)
 obtain ⟨EL,hEE⟩:∃EL,n0.ents=EL:=⟨_,rfl⟩
 rw [hEE] at HEm HEL E6
 have hm16:m1≤16:=by rw [←E6.out.1];exact HEm.out
 have HEM:=hide E6.out.1
 have hs5:=HB5.out.size
 clear hel0 hEE hW3' q0
 have R05:=hide (R0.out.on HB35.out)
 have R15:=hide (R1.out.on HB35.out)
 have R25:=hide (R2.out.on HB35.out)
 have HL5:=hide (HL.out.under HB35.out (by omega))
 go_loopw [9] (fun v9 wr=>∃j:Nat,j≤m1∧v9=.int .i64 j∧Below w5.heap.size w5 wr∧(EL.take j).find? (useE ls p.1 nm)=none) (fun v9 _=>m1 - (intOf v9).toNat)
 case atStart=>exact ⟨0,by omega,rfl,below_self _,by simp⟩
 case round =>
  obtain ⟨j,hj,rfl,hbr,hnone⟩:=hrel
  have HN:=hide hnone
  have HBR:=hide hbr
  have hbsz:=hbr.size
  have qs:wr.cell? ⟨w4.heap.size,5,none⟩=some (.slice C1 m1 d1):=(R5.out.on hbr).cell 5
  have hB5:B≤w5.heap.size:=by omega
  clear hnone hbr q5
  by_cases hlt:j < m1
  ·obtain ⟨e,he⟩:∃e,EL[j]?=some e:=⟨_,List.getElem?_eq_getElem (by have:=HEM.out;omega)⟩
   obtain ⟨bE,oE,rfl,hbE,hcE⟩:=ent_get (E6.out.under HBR.out hB5) he
   have hbE':bE < wr.heap.size:=by have:bE < B:=hbE;omega
   have HCE:=hide hcE
   have HEJ:=hide he
   obtain ⟨x,hx⟩:∃x,lowAt ls p.1 e.ino=x:=⟨_,rfl⟩
   have HX:=hide hx
   obtain ⟨b2,hb2⟩:∃b2,(x.k != 0)=b2:=⟨_,rfl⟩
   have HU2:=hide (fun (hnm:e.name=nm)=>show useE ls p.1 nm e=b2 from by
    rw [←hb2,←hx]
    unfold useE
    by_cases hk:(lowAt ls p.1 e.ino).k=0 <;> simp [hk,hnm])
   have HB2:=hide hb2
   have hjm:(j:Int) < (m1:Int):=by omega
   have HQP:=hide (fun W (hb:Below wr.heap.size wr W)=>show W.cell? ⟨w.heap.size+1,0,none⟩=some (.int .i64 p.1) from ((R15.out.on HBR.out).on hb).cell 0)
   have HQN:=hide (fun W (hb:Below wr.heap.size wr W)=>show W.cell? ⟨w4.heap.size,5,none⟩=some (.slice (some ⟨bE,oE,none⟩) m1 d1) from ((R5.out.on HBR.out).on hb).cell 5)
   have HQI:=hide (fun W (hb:Below wr.heap.size wr W)=>show W.cell? ⟨bE,oE+j*3+1,none⟩=some (.int .i64 e.ino) from (hb.cell (p:=⟨bE,oE+j*3+1,none⟩) hbE').trans (HCE.out 1 _ rfl))
   clear he hcE hx hb2
   go_wp2_with fail
   clear qs
   refine wp_region_planP (fun w'=>Below wr.heap.size wr w') [(0,true),(1,true),(2,true),(3,true),(4,true),(5,true),(6,true),(7,true),(8,true),(9,false)] 10 (by kernel_rfl) (by kernel_rfl) (by kernel_rfl) (by kernel_rfl) (by kernel_rfl) rfl (fun _ _ _ _ _ h=>h) (below_drew (below_self wr)) (fun hHeld=>?_)
   simp only [planOps,List.filterMap_cons,List.filterMap_nil,List.getElem?_toArray,List.getElem?_cons_succ,List.getElem?_cons_zero,Option.map_some]
   refine wpPlan_take (v:=?_) (by kernel_rfl) (fun wS hSw=>?_) ?_
   rotate_left
   ·(try dsimp only at hSw);go_simp;(try with_reducible rfl)
   (try simp only [Act.put,pu1,pu2,pu3])
   refine wpPlan_take (v:=?_) (by kernel_rfl) (fun wS hSw=>?_) ?_
   rotate_left
   ·have qx:=HQP.out wS hSw;go_simp;(try with_reducible rfl)
   (try simp only [Act.put,pu1,pu2,pu3])
   refine wpPlan_take (v:=?_) (by kernel_rfl) (fun wS hSw=>?_) ?_
   rotate_left
   ·(try dsimp only at hSw);go_simp;(try with_reducible rfl)
   (try simp only [Act.put,pu1,pu2,pu3])
   refine wpPlan_take (v:=?_) (by kernel_rfl) (fun wS hSw=>?_) ?_
   rotate_left
   ·have qx:=HQN.out wS hSw;go_simp;(try with_reducible rfl)
   (try simp only [Act.put,pu1,pu2,pu3])
   iterate 3
    refine wpPlan_take (v:=?_) (by kernel_rfl) (fun wS hSw=>?_) ?_
    rotate_left
    ·(try dsimp only at hSw);go_simp;(try with_reducible rfl)
    (try simp only [Act.put,pu1,pu2,pu3])
   refine wpPlan_take (v:=?_) (by kernel_rfl) (fun wS hSw=>?_) ?_
   rotate_left
   ·have qx:=HQI.out wS hSw;go_simp;(try with_reducible rfl)
   (try simp only [Act.put,pu1,pu2,pu3])
   refine wpPlan_take (v:=?_) (by kernel_rfl) (fun wS hSw=>?_) ?_
   rotate_left
   ·(try dsimp only at hSw);go_simp;(try with_reducible rfl)
   (try simp only [Act.put,pu1,pu2,pu3])
   refine wpPlan_call (by kernel_rfl) (fun K hK=>?_)
   have hOld:=hide hHeld
   clear hHeld
   unfold Oper.wp execOp
   go_simp
   refine hK.out _ _ (hOld.out.alloc hOld.out.size _) (fun hHeld=>?_)
   clear hK K
   (try simp only [Act.put,pu1,pu2,pu3])
   refine wpPlan_end ?_
   refine postL_go rfl (by kernel_rfl) ?_
   have hbA:=below_new (below_self wr) (.cells (prC (0,0)).toArray 41)
   refine wp_storeC 41 (.tmp 10) (.tmp 33) rfl 2 plc_size wr.heap.size 0 41 rfl (prC (0,0)) (prC (p.1,e.ino)) rfl (RowL.new wr 41 (prC (0,0))) rfl (by exact Nat.le_refl _) (prC_one _) ?_
   intro w7 hr7 hg7 hs7
   rw [splice_all (prC (0,0)) (prC (p.1,e.ino)) rfl] at hr7
   have hb7:Below wr.heap.size wr w7:=⟨hg7.os.trans hbA.os,hg7.tape.trans hbA.tape,hg7.output.trans hbA.output,Nat.le_trans hbA.size hg7.size,fun k hk=>(hg7.block k (Nat.lt_of_lt_of_le hk hbA.size) (pu5 (by omega))).trans (hbA.block k hk)⟩
   have R7:=hide hr7
   have HB7:=hide hb7
   have qn7:w7.cell? ⟨bE,oE+j*3+2,none⟩=some (.string ⟨e.name.toArray⟩):=(hb7.cell (p:=⟨bE,oE+j*3+2,none⟩) hbE').trans (HCE.out 2 _ rfl)
   have qs7:w7.cell? ⟨w4.heap.size,5,none⟩=some (.slice (some ⟨bE,oE,none⟩) m1 d1):=HQN.out w7 hb7
   have R07:=hide ((R05.out.on HBR.out).on hb7)
   clear hHeld hr7 hg7 hs7 hb7 hbA
   (try simp only [Act.put])
   by_cases hnm:e.name=nm
   rotate_left
   ·have HU:=hide (show useE ls p.1 nm e=false from by unfold useE;simp [hnm])
    go_wp2_with fail
    go_roundw
    case rel=>exact ⟨j+1,by omega,by go_num,HBR.out.trans (HB7.out.mono hbsz),find_take_none HN.out HEJ.out HU.out⟩
    case measure=>simp [intOf];omega
   have HU:=hide (HU2.out hnm)
   subst hnm
   have s0:w7.cell? ⟨w.heap.size,0,none⟩=some (.int .i64 g.a):=R07.out.cell 0
   have s1:w7.cell? ⟨w.heap.size,1,none⟩=some (.int .i64 g.b):=R07.out.cell 1
   have s2:w7.cell? ⟨w.heap.size,2,none⟩=some (.int .i64 g.c):=R07.out.cell 2
   have s3:w7.cell? ⟨w.heap.size,3,none⟩=some (.int .i64 g.d):=R07.out.cell 3
   have s4:w7.cell? ⟨w.heap.size,4,none⟩=some (.slice AU nU cU):=R07.out.cell 4
   have s5:w7.cell? ⟨w.heap.size,5,none⟩=some (.slice AL nL cL):=R07.out.cell 5
   have t0:w7.cell? ⟨wr.heap.size,0,none⟩=some (.int .i64 p.1):=R7.out.cell 0
   have t1:w7.cell? ⟨wr.heap.size,1,none⟩=some (.int .i64 e.ino):=R7.out.cell 1
   go_wp2_with fail
   clear s0 s1 s2 s3 s4 s5 t0 t1
   refine (RLower_e HX.out w7 (HL5.out.under (HBR.out.trans (HB7.out.mono hbsz)) hB5) (by have:=HB7.out.size;omega) hm hm2).mono ?_
   rintro ez w8 ⟨A1',n1',c1',C1',m1',d1',rfl,-,-,-,-,hb8⟩
   have hf0:=nod_f0 x (.slice A1' n1' c1') (.slice C1' m1' d1')
   have hbk2:=HB2.out
   have R8:=hide (R7.out.on hb8)
   have HB8:=hide (HB7.out.trans (hb8.mono HB7.out.size))
   clear hb8
   cases b2
   ·go_wp2_with fail
    go_roundw
    case rel=>exact ⟨j+1,by omega,by go_num,HBR.out.trans (HB8.out.mono hbsz),find_take_none HN.out HEJ.out HU.out⟩
    case measure=>simp [intOf];omega
   ·have R28:=hide ((R25.out.on HBR.out).on HB8.out)
    have HBF:=hide (HB5.out.trans ((HBR.out.trans (HB8.out.mono hbsz)).mono (by omega)))
    go_wp2_with (first|(refine wpList_loadW rfl 41 (.tmp 10) rfl 2 plc_agg plc_size wr.heap.size 41 rfl (prC (p.1,e.ino)) R8.out rfl ?_)|(refine wpList_storeW rfl 41 (.tmp 6) (.tmp 49) rfl 2 plc_size (w.heap.size+1+1) 41 rfl (prC (0,0)) (prC (p.1,e.ino)) rfl R28.out rfl rfl (prC_one _) ?_;intro w9 hr9 hg9 hs9;have R9:=hide hr9;have HB9:=hide (HBF.out.grown hg9 (by have:=HBF.out.size;omega) (pu4 (by omega)));clear hr9 hg9))
    have eFO:FO=some (p.1,e.ino):=by
     rw [←HFO.out]
     unfold firstL
     rw [HEL.out,find_take_some HN.out HEJ.out HU.out]
     rfl
    subst eFO
    exact bodyPost_ret (res_cell2 Tryz.results96 rfl rfl plc_agg plc_size R9.out rfl) rfl ⟨rfl,HB9.out⟩
  ·obtain rfl:j=m1:=by omega
   have R2r:=hide (R25.out.on HBR.out)
   have HBF:=hide (HB5.out.trans (HBR.out.mono (by omega)))
   go_wp2_with (refine wpList_storeW rfl 41 (.tmp 6) (.tmp 50) rfl 2 plc_size (w.heap.size+1+1) 41 rfl (prC (0,0)) (prC (0,0)) rfl R2r.out rfl rfl (prC_one _) ?_;intro w9 hr9 hg9 hs9;have R9:=hide hr9;have HB9:=hide (HBF.out.grown hg9 (by have:=HBF.out.size;omega) (pu4 (by omega)));clear hr9 hg9)
   have eFO:FO=none:=by
    rw [←HFO.out]
    unfold firstL
    have h1:=HN.out
    rw [List.take_of_length_le (by have:=HEM.out;omega)] at h1
    rw [HEL.out,h1]
    rfl
   subst eFO
   exact bodyPost_ret (res_cell2 Tryz.results96 rfl rfl plc_agg plc_size R9.out rfl) rfl ⟨rfl,HB9.out⟩
end Go.Proofs.YtnhegahpfacdgaaGreat

