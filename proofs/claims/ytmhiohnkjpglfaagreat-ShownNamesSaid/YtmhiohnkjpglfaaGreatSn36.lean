import Derived.Test.YtmhiohnkjpglfaaGreatSn35
import Derived.Test.YtmhiohnkjpglfaaGreatSn29
import Derived.Test.YtmhiohnkjpglfaaGreatSn9
import Derived.Test.YtmhiohnkjpglfaaGreatSn30
import Derived.Test.YtmhiohnkjpglfaaGreatSn8

namespace Go.Proofs.YtmhiohnkjpglfaaGreat
open Go.RowKit Go.Shelf Plain

set_option maxRecDepth 100000 in
set_option maxHeartbeats 8000000 in
theorem law_ShownNames {g:GeoQ} {AU AL:Option Addr} {nU cU nL cL:Nat} {up:List NodV} {ls:List (List NodV)} (w:World) (hu:RdE nodEn w (Under w.heap.size) AU nU up) (h:RdE layEn w (Under w.heap.size) AL nL ls) (hfu:FineN up) (hfl:∀ns∈ls,FineN ns):Calls Tryz.prog 5 #[.agg (stkC g (.slice AU nU cU) (.slice AL nL cL)).toArray] w (LawOk w):=by
 obtain ⟨W1,hW1⟩:∃W1,(w.alloc (.cells (stkC g (.slice AU nU cU) (.slice AL nL cL)).toArray 29))=W1:=⟨_,rfl⟩;obtain ⟨r0,hb1,hs1⟩:=rowA1 w _ _ hW1;have hW1':(w.alloc (.cells #[.int .i64 g.a,.int .i64 g.b,.int .i64 g.c,.int .i64 g.d,.slice AU nU cU,.slice AL nL cL] 29))=W1:=hW1;have R1:=hide r0;have HB:=hide hb1;have hsz0:=hb1.size;have HU:=hide (hu.under hb1 (Nat.le_refl _));have HL:=hide (h.under hb1 (Nat.le_refl _));have HFN:=hide hfu;have HFL:=hide hfl
 have hs1':w.heap.size+1≤W1.heap.size:=by omega
 unfold stkC;clear r0 hb1 hW1 hu h hfu hfl hs1
 go_enter Tryz.func5,Tryz.ntmps5
 go_wp2_with (first|(refine qo rfl 29 (.tmp 1) rfl 6 stk_agg stk_size (w.heap.size) 29 rfl (stkC g (.slice AU nU cU) (.slice AL nL cL)) R1.out rfl ?_))
 clear hW1';refine (PStackM_any (by omega) W1 (und_up HU.out (by omega)) (und_up HL.out (by omega)) HFN.out HFL.out).mono ?_
 rintro e w2 ⟨p,rfl,hb2,hq⟩
 have HQ:=hide hq;have HB2:=hide (HB.out.trans (hb2.mono HB.out.size));have R12:=hide (R1.out.on hb2);have HU2:=hide (HU.out.under hb2 (by omega));have HL2:=hide (HL.out.under hb2 (by omega));have hz2:=hb2.size;clear hq hb2 R1 HB HU HL
 cases p with
 | false =>
  go_wp2_with fail
  refine (awake19_any _).mono ?_
  rintro e98 wz ⟨rfl,hbz⟩
  have HBZ:=hide (HB2.out.trans (hbz.mono (by have:=(HB2.out).size;omega)));clear hbz
  go_wp2_with fail
  go_ret
  exact LawOk.of HBZ.out
 | true =>
  obtain ⟨hF,hB10⟩:=HQ.out (by first|rfl|trivial);have hup:FewU up:=⟨by have h1:=hB10.1;omega,hB10.2⟩;have HF:=hide hF;have HFU:=hide hup;clear hF hB10 hup HQ
  have q1_0:w2.cell? ⟨w.heap.size,0,none⟩=some (.int .i64 g.a):=R12.out.cell 0
  have q1_1:w2.cell? ⟨w.heap.size,1,none⟩=some (.int .i64 g.b):=R12.out.cell 1
  have q1_2:w2.cell? ⟨w.heap.size,2,none⟩=some (.int .i64 g.c):=R12.out.cell 2
  have q1_3:w2.cell? ⟨w.heap.size,3,none⟩=some (.int .i64 g.d):=R12.out.cell 3
  have q1_4:w2.cell? ⟨w.heap.size,4,none⟩=some (.slice AU nU cU):=R12.out.cell 4
  have q1_5:w2.cell? ⟨w.heap.size,5,none⟩=some (.slice AL nL cL):=R12.out.cell 5
  go_wp2_with fail
  clear q1_0 q1_1 q1_2 q1_3 q1_4 q1_5;obtain ⟨tb,htb⟩:∃tb,ls.any tangB=tb:=⟨_,rfl⟩;refine (RTrees_any w2 HU2.out HL2.out (by omega) HF.out HFU.out).mono ?_;rw [htb]
  rintro e w2b ⟨rfl,hb2b⟩
  have HTB:=hide htb;replace HB2:=hide (HB2.out.trans (hb2b.mono HB2.out.size));replace R12:=hide (R12.out.on hb2b);replace HU2:=hide (HU2.out.under hb2b (by omega));replace HL2:=hide (HL2.out.under hb2b (by omega));have hz2b:=hb2b.size;clear hb2b htb
  cases tb with
  | true =>
   go_wp2_with fail
   refine (awake19_any _).mono ?_
   rintro e98 wz ⟨rfl,hbz⟩
   have HBZ:=hide (HB2.out.trans (hbz.mono (by have:=(HB2.out).size;omega)));clear hbz
   go_wp2_with fail
   go_ret
   exact LawOk.of HBZ.out
  | false =>
   have q1_0:w2b.cell? ⟨w.heap.size,0,none⟩=some (.int .i64 g.a):=R12.out.cell 0
   have q1_1:w2b.cell? ⟨w.heap.size,1,none⟩=some (.int .i64 g.b):=R12.out.cell 1
   have q1_2:w2b.cell? ⟨w.heap.size,2,none⟩=some (.int .i64 g.c):=R12.out.cell 2
   have q1_3:w2b.cell? ⟨w.heap.size,3,none⟩=some (.int .i64 g.d):=R12.out.cell 3
   have q1_4:w2b.cell? ⟨w.heap.size,4,none⟩=some (.slice AU nU cU):=R12.out.cell 4
   have q1_5:w2b.cell? ⟨w.heap.size,5,none⟩=some (.slice AL nL cL):=R12.out.cell 5
   go_wp2_with fail
   clear q1_0 q1_1 q1_2 q1_3 q1_4 q1_5;refine (Twice_any _ (und_up (HU2.out.under (qq (qj w2b) (.cells #[.int .i64 1] 3)) (by omega)) (by simp;omega)) (int_oneS w2b) (plain_many HFU.out.1 HFU.out.2).1 (by omega)).mono ?_
   rintro e14 w2c ⟨AT,nT,cT,rfl,-,hrt,hbel0⟩
   have hbc:Below w2b.heap.size w2b w2c:=(qq (qj w2b) (.cells #[.int .i64 1] 3)).trans (hbel0.mono (by simp));have HRT0:=hide hrt.1;replace HB2:=hide (HB2.out.trans (hbc.mono HB2.out.size));replace R12:=hide (R12.out.on hbc);replace HU2:=hide (HU2.out.under hbc (by omega));replace HL2:=hide (HL2.out.under hbc (by omega));have hz2c:=hbc.size;clear hbel0 hbc hrt
   rcases Nat.eq_zero_or_pos nT with hz|hz
   rotate_left
   ·have hz1:(0:Int) < (nT:Int):=by omega
    go_wp2_with fail
    refine (awake19_any _).mono ?_
    rintro e98 wz ⟨rfl,hbz⟩
    have HBZ:=hide (HB2.out.trans (hbz.mono (by have:=(HB2.out).size;omega)));clear hbz
    go_wp2_with fail
    go_ret
    exact LawOk.of HBZ.out
   ·subst hz
    have HTW:=hide (List.eq_nil_of_length_eq_zero HRT0.out:twiceS up (walkW up [1])=[])
    go_wp2_with (first|(refine qo rfl 29 (.tmp 1) rfl 6 stk_agg stk_size (w.heap.size) 29 rfl (stkC g (.slice AU nU cU) (.slice AL nL cL)) R12.out rfl ?_))
    refine (All_any w2c HU2.out HL2.out (by omega) HF.out HFU.out).mono ?_
    rintro e w3 ⟨A9,n9,c9,rfl,hnc,hrd,hb3⟩
    have hal:=all_len HF.out HFU.out;have HCA:=hide (cntK_all HF.out HFU.out HTB.out HTW.out);have HCF:=hide (fun j=>cntK_few (up:=up) (ls:=ls) HF.out HFU.out (allS up ls) j);obtain ⟨l,hl⟩:∃l,allS up ls=l:=⟨_,rfl⟩;rw [hl] at hrd hal HCA HCF;have HLL:=hide hl;have H:=hide hrd;have hln:l.length=n9:=hrd.1;have HB3:=hide (HB2.out.trans (hb3.mono (by omega)));have R13:=hide (R12.out.on hb3);have HU3:=hide (HU2.out.under hb3 (by omega));have HL3:=hide (HL2.out.under hb3 (by omega));have hz3:=hb3.size;have hls3:ls.length≤3:=HF.out.1;obtain ⟨rt,hrt⟩:∃rt,rootV up ls=rt:=⟨_,rfl⟩
    have hrt3:rt.2.length≤1000:=by rw [←hrt];have:=rootV_len up ls;omega
    obtain ⟨LR,hlr⟩:∃LR,namesV up ls (rt.1,rt.2)=LR:=⟨_,rfl⟩;have HRT:=hide hrt;have HRN:=hide hlr;have HC0:=hide (show cntK up ls l 0=LR.length from by unfold cntK;rw [←hlr,←hrt];simp);clear hrd hb3 R12 HB2 HU2 HL2 hl hrt hlr
    go_wp2_with fail
    refine wp_region_planN (fun w'=>Below w3.heap.size w3 w') [(0,true),(1,true),(2,false),(3,false),(4,true),(5,true)] (by kernel_rfl) (by kernel_rfl) (by kernel_rfl) (by kernel_rfl) rfl (fun _ _ _ _ _ h=>h) (below_drew (qj w3)) (fun qc=>?_);simp only [planOps,List.filterMap_cons,List.filterMap_nil,List.getElem?_toArray,List.getElem?_cons_succ,List.getElem?_cons_zero,Option.map_some];refine qh (v:=?_) (by kernel_rfl) (fun wS hSw=>?_) ?_;rotate_left
    ·refine execOp_load (x:=.tmp 1) (k:=6) (g:=w.heap.size) (off:=0) (cs:=[.int .i64 g.a,.int .i64 g.b,.int .i64 g.c,.int .i64 g.d,.slice AU nU cU,.slice AL nL cL]) ?_ stk_agg stk_size ?_ (fun j v hv=>by rw [Nat.zero_add];exact ((R13.out.on hSw).cell j).trans hv) rfl <;> rfl
    (try simp only [Act.put,pu1,pu2,pu3]);refine qh (v:=?_) (by kernel_rfl) (fun wS hSw=>?_) ?_;rotate_left
    ·refine execOp_load (x:=.tmp 1) (k:=6) (g:=w.heap.size) (off:=0) (cs:=[.int .i64 g.a,.int .i64 g.b,.int .i64 g.c,.int .i64 g.d,.slice AU nU cU,.slice AL nL cL]) ?_ stk_agg stk_size ?_ (fun j v hv=>by rw [Nat.zero_add];exact ((R13.out.on hSw).cell j).trans hv) rfl <;> rfl
    (try simp only [Act.put,pu1,pu2,pu3]);refine wpPlan_call (by kernel_rfl) (fun K hK=>?_);have qd:=hide qc;clear qc
    go_simp
    go_at_call 28
    refine (RVRoot_e HRT.out _ (HU3.out.under qd.out (by omega)) (HL3.out.under qd.out (by omega)) (by have:=qd.out.size;omega) HF.out HFU.out).mono ?_
    rintro e w' ⟨A5,c5,rfl,h5,qg⟩
    have H5:=hide (fr_under h5);clear h5;refine hK.out _ _ (qd.out.trans (qg.mono qd.out.size)) (fun qc=>?_);clear hK K;(try simp only [Act.put,pu1,pu2,pu3]);refine wpPlan_call (by kernel_rfl) (fun K hK=>?_);have qd:=hide qc;clear qc
    go_simp
    go_at_call 27
    refine (RVNames_e (u:=rt.1) (vl:=rt.2) HRN.out _ (HU3.out.under qd.out (by omega)) (HL3.out.under qd.out (by omega)) (by have:=qd.out.size;omega) HF.out HFU.out H5.out (Nat.le_refl _) hrt3).mono ?_
    rintro e w' ⟨A6,n6,c6,rfl,h6,qg⟩
    have HL6:=hide h6.len;clear h6 H5;refine hK.out _ _ (qd.out.trans (qg.mono qd.out.size)) (fun qc=>?_);clear hK K;(try simp only [Act.put,pu1,pu2,pu3])
    iterate 2
     refine qh (v:=?_) (by kernel_rfl) (fun wS hSw=>?_) ?_;rotate_left
     ·(try dsimp only at hSw);go_simp;(try with_reducible rfl)
     (try simp only [Act.put,pu1,pu2,pu3])
    refine wpPlan_end ?_
    rename World=>w4
    have H4:=hide qc;have hz4:=qc.size;obtain ⟨m0,hm0⟩:∃m0,cntK up ls l 0=m0:=⟨_,rfl⟩
    have hm6:m0=n6:=by rw [←hm0,HC0.out];exact HL6.out
    subst hm6;have HM0:=hide hm0;clear qc hm0
    go_wp2_with fail
    go_loopw [4,38] (fun v4 v38 wr=>∃j k:Nat,j≤n9∧v38=.int .i64 j∧v4=.int .i64 k∧cntK up ls l j=k∧Below w3.heap.size w3 wr) (fun _ v38 _=>n9 - (intOf v38).toNat)
    case atStart=>exact ⟨0,m0,by omega,rfl,rfl,HM0.out,H4.out⟩
    case round =>
     obtain ⟨j,k,hj,rfl,rfl,hk,hbr⟩:=hrel;have hbs:=hbr.size;have HBQ:=hide hbr;have HK:=hide hk
     have hkf:k≤100000*(j+1):=by rw [←hk];exact HCF.out j
     by_cases hlt:j < n9
     ·have R1r:=hide (R13.out.on hbr)
      have HUr:=hide (HU3.out.under hbr (by omega));have HLr:=hide (HL3.out.under hbr (by omega));have Hr:=hide (H.out.under hbr (Nat.le_refl _));obtain ⟨x,hx⟩:∃x,l[j]?=some x:=⟨_,List.getElem?_eq_getElem (by omega)⟩;obtain ⟨nm,ht⟩:=all_at HF.out HFU.out (by rw [HLL.out];exact hx);rw [HLL.out] at ht;have HT:=hide ht;have HKS:=hide (cntK_succ (up:=up) (ls:=ls) hx);obtain ⟨v,hv⟩:∃v,(atM up ls nm).2.1=v:=⟨_,rfl⟩
      have hv3:v.2.length≤1000:=by rw [←hv];have:=atM_few (up:=up) (ls:=ls) nm;omega
      have HAT:=hide (show atM up ls nm=(x.2.1,v,x.2.2) from by rw [ht.is,←hv];rfl);obtain ⟨LN,hln2⟩:∃LN,namesV up ls (v.1,v.2)=LN:=⟨_,rfl⟩;have HNM:=hide hln2;obtain ⟨kd,hkd⟩:∃kd,(x.2.1==1)=kd:=⟨_,rfl⟩;have HCN:=hide (show cntN up ls (splitS x.1)=if kd=true then LN.length else 0 from by rw [ht.split.2];unfold cntN;rw [HAT.out,←hkd,←hln2];by_cases e:x.2.1=1 <;> simp [e]);obtain ⟨b9,o9,rfl,-,hcx⟩:=shn_get Hr.out hx;have HCX:=hide hcx
      have hjn:(j:Int) < (n9:Int):=by omega
      clear hbr hx ht hcx hv hk hln2
      go_upto_region 11 with (first|(refine wpList_loadX rfl 37 (.tmp 40) rfl 4 shn_agg shn_size b9 (o9+j*4) rfl (shnC x) HCX.out rfl ?_)|(refine ql rfl 37 (.tmp 6) (.tmp 41) rfl 4 shn_size (wr.heap.size) 37 rfl [.string ⟨#[]⟩,.int .i64 0,.int .i64 0,.int .i64 0] (shnC x) rfl (RowL.new wr 37 [.string ⟨#[]⟩,.int .i64 0,.int .i64 0,.int .i64 0]) rfl rfl (shnC_one _) ?_;intro wS121 hr121 hg121 hs121;have hzb:=below_stored' hg121;replace HBQ:=hide (HBQ.out.trans (hzb.mono (by omega)));replace R1r:=hide (R1r.out.on hzb);replace HUr:=hide (HUr.out.under hzb (by omega));replace HLr:=hide (HLr.out.under hzb (by omega));replace Hr:=hide (Hr.out.under hzb (by omega));have hsz122:=hzb.size;have R6:=hide hr121;have hlt121:=hr121.lt;have q6_0:wS121.cell? ⟨wr.heap.size,0,none⟩=some (.string ⟨x.1.toArray⟩):=R6.out.cell 0;clear hzb hr121;clear hg121 hs121)|(go_at_call 19;refine (PSplit_e (s:=x.1) (HT.out.split.1) (HT.out.split.2) wS121 (by have:=HT.out.short;omega)).mono ?_;rintro e123 wP ⟨AN,nN,cN,rfl,hon,qg⟩;clear q6_0;replace HBQ:=hide (HBQ.out.trans (qg.mono (by omega)));replace R1r:=hide (R1r.out.on qg);replace HUr:=hide (HUr.out.under qg (by omega));replace HLr:=hide (HLr.out.under qg (by omega));replace Hr:=hide (Hr.out.under qg (by omega));replace R6:=hide (R6.out.on qg);have hsz124:=qg.size;have q6_0:wP.cell? ⟨wr.heap.size,0,none⟩=some (.string ⟨x.1.toArray⟩):=R6.out.cell 0;have HON:=hide hon;clear hon;clear qg))
      have hnf:nN≤30000:=by have h0:=HON.out.len;have h1:=HT.out.few;have h2:=totL_ge nm;omega
      go_upto_region 12 with (first|(refine qo rfl 29 (.tmp 1) rfl 6 stk_agg stk_size (w.heap.size) 29 rfl (stkC g (.slice AU nU cU) (.slice AL nL cL)) R1r.out rfl ?_)|(go_at_call 24;refine (MAt_any (R:=(x.2.1,v,x.2.2)) HAT.out wP HUr.out HLr.out (by omega) HF.out HFU.out HON.out.rd (by omega) (by omega)).mono ?_;rintro e125 wM ⟨AV,cV,rfl,hrv,qg⟩;have hrw:RdE prEn wM (Under wM.heap.size) AV v.2.length v.2:=fr_under hrv;clear hrv;clear q6_0;replace HBQ:=hide (HBQ.out.trans (qg.mono (by omega)));replace R1r:=hide (R1r.out.on qg);replace HUr:=hide (HUr.out.under qg (by omega));replace HLr:=hide (HLr.out.under qg (by omega));replace Hr:=hide (Hr.out.under qg (by omega));replace R6:=hide (R6.out.on qg);replace HON:=hide (HON.out.below qg);have hsz126:=qg.size;have q6_0:wM.cell? ⟨wr.heap.size,0,none⟩=some (.string ⟨x.1.toArray⟩):=R6.out.cell 0;have HV:=hide hrw;clear hrw;clear qg)|(obtain ⟨hz10,hz11,hzb,hzs⟩:=rows2 wM (viwC 0 (.slice none 0 0)) (prC (0,0)) 51 31;refine ql rfl 51 (.tmp 10) (.tmp 56) rfl 2 viw_size (wM.heap.size) 51 rfl (viwC 0 (.slice none 0 0)) (viwC v.1 (.slice AV v.2.length cV)) rfl hz10 rfl rfl (viwC_one _ _ _ _) ?_;intro wS127 hr127 hg127 hs127;replace hzb:=hzb.grown hg127 hzb.size (pu4 (by omega));replace hz11:=hz11.grown hg127 (pu5 (by omega));have hz10:=hr127;clear hg127 hs127 hr127)|(refine ql rfl 31 (.tmp 11) (.tmp 57) rfl 2 plc_size (wM.heap.size+1) 31 rfl (prC (0,0)) (prC x.2.2) rfl hz11 rfl rfl (prC_one _) ?_;intro wS128 hr128 hg128 hs128;replace hzb:=hzb.grown hg128 hzb.size (pu4 (by omega));replace hz10:=hz10.grown hg128 (pu5 (by omega));have hz11:=hr128;clear q6_0;replace HBQ:=hide (HBQ.out.trans (hzb.mono (by omega)));replace R1r:=hide (R1r.out.on hzb);replace HUr:=hide (HUr.out.under hzb (by omega));replace HLr:=hide (HLr.out.under hzb (by omega));replace Hr:=hide (Hr.out.under hzb (by omega));replace R6:=hide (R6.out.on hzb);replace HON:=hide (HON.out.below hzb);replace HV:=hide (HV.out.under hzb (by omega));have hsz129:=hzb.size;have q6_0:wS128.cell? ⟨wr.heap.size,0,none⟩=some (.string ⟨x.1.toArray⟩):=R6.out.cell 0;have R10:=hide hz10;have hlt127:=hz10.lt;have R11:=hide hz11;have hlt128:=hz11.lt;clear hzb hzs hz10 hz11;clear hg128 hs128))
      cases kd with
      | false =>
       go_wp2_with fail
       go_roundw
       case rel=>exact ⟨j+1,k,by omega,by go_num,rfl,by rw [HKS.out,HCN.out,HK.out];rfl,HBQ.out⟩
       case measure=>simp [intOf];omega
      | true =>
       go_wp2_with (first|(refine qo rfl 29 (.tmp 1) rfl 6 stk_agg stk_size (w.heap.size) 29 rfl (stkC g (.slice AU nU cU) (.slice AL nL cL)) R1r.out rfl ?_)|(refine qo rfl 51 (.tmp 10) rfl 2 viw_agg viw_size (wM.heap.size) 51 rfl (viwC v.1 (.slice AV v.2.length cV)) R10.out rfl ?_))
       go_at_call 27
       refine (RVNames_e (B:=w.heap.size) (u:=v.1) (vl:=v.2) HNM.out wS128 HUr.out HLr.out (by omega) HF.out HFU.out HV.out (by omega) hv3).mono ?_
       rintro e130 wN ⟨A12,n12,c12,rfl,h12,qg⟩
       have HL12:=hide h12.len;clear h12 q6_0;replace HBQ:=hide (HBQ.out.trans (qg.mono (by omega)));replace R1r:=hide (R1r.out.on qg);replace HUr:=hide (HUr.out.under qg (by omega));replace HLr:=hide (HLr.out.under qg (by omega));replace Hr:=hide (Hr.out.under qg (by omega));replace R6:=hide (R6.out.on qg);replace HON:=hide (HON.out.below qg);replace HV:=hide (HV.out.under qg (by omega));replace R10:=hide (R10.out.on qg);replace R11:=hide (R11.out.on qg);have hsz131:=qg.size
       have q6_0:wN.cell? ⟨wr.heap.size,0,none⟩=some (.string ⟨x.1.toArray⟩):=R6.out.cell 0
       clear qg;have hn12:n12=LN.length:=HL12.out.symm
       have hlf:n12≤100000:=by rw [hn12,←HNM.out];exact names_fewS HF.out HFU.out hv3
       have hw13:IntKind.i64.wrap ((k:Int)+(n12:Int))=((k+n12:Nat):Int):=by rw [show (k:Int)+(n12:Int)=((k+n12:Nat):Int) from by omega];exact IntWalk.i64_in _ (by omega)
       have HN12:=hide hn12;clear hn12
       go_wp2_with fail
       go_roundw
       case rel=>exact ⟨j+1,k+n12,by omega,by go_num,rfl,by rw [HKS.out,HCN.out,HK.out,HN12.out];simp,HBQ.out⟩
       case measure=>simp [intOf];omega
     ·obtain rfl:j=n9:=by omega
      have hjn:¬((j:Int) < (j:Int)):=by omega
      have hkn:k=j:=by have h1:=HCA.out;rw [hln] at h1;omega
      subst hkn;clear hbr
      go_wp2_with fail
      refine (awake19_any _).mono ?_
      rintro e98 wz ⟨rfl,hbz⟩
      have HBZ:=hide ((HB3.out.trans (HBQ.out.mono (by omega))).trans (hbz.mono (by have:=((HB3.out.trans (HBQ.out.mono (by omega)))).size;omega)));clear hbz
      go_wp2_with fail
      go_ret
      exact LawOk.of HBZ.out
end Go.Proofs.YtmhiohnkjpglfaaGreat

namespace Go.Proofs.YtmhiohnkjpglfaaGreat
open Go.RowKit Go.Shelf Plain Go.WideShapes Go.ChangeShapes

section
variable {H : Type} {enc : TypeId × Value → H} {w : World} {spare : Nat → Bool} {held : Bool}
theorem six_ {l:List Value} (h:l.length=6):∃a b c d e f,l=[a,b,c,d,e,f]:=by
 match l,h with
 | [a,b,c,d,e,f],_=>exact ⟨a,b,c,d,e,f,rfl⟩
set_option maxRecDepth 100000 in
theorem trod_lay {fuel:Nat} {cs:List Value} {y:DataW H×List MemPlace} (hl:cs.length=1) (h:DataW.trod enc Tryz.prog w 0 spare held fuel 26 cs=some y):∃x:List NodV,layEn.R w (Under w.heap.size) cs x∧∀d∈x,d.ents.length≤maxLen:=by
 obtain ⟨c0,rfl⟩:=one_cell hl;obtain ⟨xs,n,-,-,-,hlen,hp⟩:=DataW.trod_struct Tryz.underlying26 h
 match xs,hlen,hp with
 | [x0],_,hp =>
  obtain ⟨A,n,c,ns,e1,hn,-,r,hfine⟩:=open_rdeF (e:=67) (cs:=[c0]) nodEn (fun x=>x.ents.length≤maxLen) Tryz.underlying24 (by kernel_rfl) (by decide) (fun _ cs _ hl hy=>trod_node hl hy) (hp 0 _ rfl)
  cases e1
  exact ⟨ns,⟨A,n,c,rfl,hn,r⟩,hfine⟩
set_option maxRecDepth 100000 in
theorem open_stack {r:Reach} {b0:Nat} {v:Value} {d:DataW H} {p:List MemPlace} (hv:Value.okWide Tryz.prog w r b0 29 v) (h:DataW.Trod enc Tryz.prog w 0 spare held 29 v d p) :
  ∃(g:GeoQ) (AU AL:Option Addr) (nU cU nL cL:Nat) (up:List NodV) (ls:List (List NodV)),v=.agg (stkC g (.slice AU nU cU) (.slice AL nL cL)).toArray∧nU≤cU∧nL≤cL∧RdE nodEn w (Under w.heap.size) AU nU up∧RdE layEn w (Under w.heap.size) AL nL ls∧(∀x∈up,x.ents.length≤maxLen)∧∀ns∈ls,∀x∈ns,x.ents.length≤maxLen:=by
 obtain ⟨cs,rfl,hsz⟩:=okWide_struct Tryz.underlying29 hv
 have hC:Tryz.prog.cellsOf 29=6:=by kernel_rfl
 obtain ⟨l⟩:=cs;obtain ⟨c0,c1,c2,c3,c4,c5,rfl⟩:=six_ (l:=l) (hsz.trans hC);obtain ⟨fuel,hf⟩:=h;obtain ⟨xs,n,-,-,-,hlen,hp⟩:=DataW.trod_struct Tryz.underlying29 hf
 match xs,hlen,hp with
 | [x0,x1,x2],_,hp =>
  have p0:=hp 0 _ rfl
  have p1:=hp 1 _ rfl
  obtain ⟨ys,m,-,-,-,hyl,hq⟩:=DataW.trod_struct Tryz.underlying23 (cs:=[c0,c1,c2,c3]) p0
  match ys,hyl,hq with
  | [y0,y1,y2,y3],_,hq =>
   obtain ⟨a0,rfl⟩:=cell_i64 (c:=c0) (hq 0 _ rfl);obtain ⟨a1,rfl⟩:=cell_i64 (c:=c1) (hq 1 _ rfl);obtain ⟨a2,rfl⟩:=cell_i64 (c:=c2) (hq 2 _ rfl);obtain ⟨a3,rfl⟩:=cell_i64 (c:=c3) (hq 3 _ rfl);obtain ⟨up,⟨AU,nU,cU,eU,hU,rU⟩,fU⟩:=trod_lay (cs:=[c4]) rfl p1;obtain ⟨AL,nL,cL,ls,eL,hL,-,rL,fL⟩:=open_rdeF (e:=26) (cs:=[c5]) layEn (fun ns=>∀x∈ns,x.ents.length≤maxLen) Tryz.underlying27 (by kernel_rfl) (by decide) (fun _ cs _ hl hy=>trod_lay hl hy) (hp 2 _ rfl)
   cases eU
   cases eL
   exact ⟨⟨a0,a1,a2,a3⟩,AU,AL,nU,cU,nL,cL,up,ls,rfl,hU,hL,rU,rL,fU,fL⟩
end
end Go.Proofs.YtmhiohnkjpglfaaGreat

