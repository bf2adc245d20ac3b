import Derived.Test.YtmhiohnkjpglfaaGreatSo34
import Derived.Test.YtmhiohnkjpglfaaGreatSo35
import Derived.Test.YtmhiohnkjpglfaaGreatSo19
import Derived.Test.YtmhiohnkjpglfaaGreatSo36
import Derived.Test.YtmhiohnkjpglfaaGreatSo12
import Derived.Test.YtmhiohnkjpglfaaGreatSo29
import Derived.Test.YtmhiohnkjpglfaaGreatSo10

namespace Go.Proofs.YtmhiohnkjpglfaaGreat
open Go.RowKit Go.Shelf Plain

set_option maxRecDepth 100000 in
theorem strs_size:∀w,(Go.sizeOf 41).run Tryz.prog w=.ok 1 w:=fun w=>by kernel_rfl
theorem rde_takeN {α:Type} {E:Enc α} {w:World} {D:Nat→Prop} {A:Option Addr} {n k:Nat} {l:List α} (h:RdE E w D A n l) (hk:k≤n):RdE E w D A k (l.take k):=by
 refine ⟨by rw [List.length_take,h.1];omega,fun h0=>?_⟩
 obtain ⟨b,o,e,hD,hc⟩:=h.2 (by omega)
 exact ⟨b,o,e,hD,fun i x hx=>hc i x (by rw [List.getElem?_take] at hx;split at hx;exact hx;cases hx)⟩
theorem rd_takeN {α:Type} {f:α→Value} {w:World} {B:Nat} {A:Option Addr} {n k:Nat} {l:List α} (h:Rd f w B A n l) (hk:k≤n):Rd f w B A k (l.take k):=by
 refine ⟨by rw [List.length_take,h.1];omega,fun h0=>?_⟩
 obtain ⟨b,o,e,hD,hc⟩:=h.2 (by omega)
 exact ⟨b,o,e,hD,fun i x hx=>hc i x (by rw [List.getElem?_take] at hx;split at hx;exact hx;cases hx)⟩
theorem PSplit_e {s:List UInt8} {L:List (List UInt8)} {b:Bool} (h1:splitB s=b) (h2:splitS s=L) (w:World) (hs:s.length≤1100000):Calls Tryz.prog 19 #[.string ⟨s.toArray⟩] w (LRet w 9 L b):=by
 rw [←h1,←h2]
 exact PSplit_any w hs
set_option maxRecDepth 100000 in
theorem neq_plcS (a b:Int) (W:World):(binOp .neq 31 (.agg #[.int .i64 a,.int .i64 b]) (.agg #[.int .i64 a,.int .i64 b])).run Tryz.prog W=.ok (.bool false) W:=by
 simp [go_sem]
set_option maxRecDepth 100000 in
set_option maxHeartbeats 8000000 in
theorem law_ShownOnce {g:GeoQ} {AU AL:Option Addr} {nU cU nL cL:Nat} {up:List NodV} {ls:List (List NodV)} (w:World) (hu:RdE nodEn w (Under w.heap.size) AU nU up) (h:RdE layEn w (Under w.heap.size) AL nL ls) (hfu:FineN up) (hfl:∀ns∈ls,FineN ns):Calls Tryz.prog 4 #[.agg (stkC g (.slice AU nU cU) (.slice AL nL cL)).toArray] w (LawOk w):=by
 obtain ⟨W1,hW1⟩:∃W1,(w.alloc (.cells (stkC g (.slice AU nU cU) (.slice AL nL cL)).toArray 29))=W1:=⟨_,rfl⟩
 obtain ⟨r0,hb1,hs1⟩:=rowA1 w _ _ hW1
 have hW1':(w.alloc (.cells #[.int .i64 g.a,.int .i64 g.b,.int .i64 g.c,.int .i64 g.d,.slice AU nU cU,.slice AL nL cL] 29))=W1:=hW1
 have R1:=hide r0
 have HB:=hide hb1
 have hsz0:=hb1.size
 have HU:=hide (hu.under hb1 (Nat.le_refl _))
 have HL:=hide (h.under hb1 (Nat.le_refl _))
 have HFN:=hide hfu
 have HFL:=hide hfl
 have hs1':w.heap.size+1≤W1.heap.size:=by omega
 unfold stkC
 clear r0 hb1 hW1 hu h hfu hfl hs1
 go_enter Tryz.func4,Tryz.ntmps4
 go_wp2_with (first|(refine wpList_loadW rfl 29 (.tmp 1) rfl 6 stk_agg stk_size (w.heap.size) 29 rfl (stkC g (.slice AU nU cU) (.slice AL nL cL)) R1.out rfl ?_))
 clear hW1'
 refine (PStackM_any (by omega) W1 (und_up HU.out (by omega)) (und_up HL.out (by omega)) HFN.out HFL.out).mono ?_
 rintro e w2 ⟨p,rfl,hb2,hq⟩
 have HQ:=hide hq
 have HB2:=hide (HB.out.trans (hb2.mono HB.out.size))
 have R12:=hide (R1.out.on hb2)
 have HU2:=hide (HU.out.under hb2 (by omega))
 have HL2:=hide (HL.out.under hb2 (by omega))
 have hz2:=hb2.size
 clear hq hb2 R1 HB HU HL
 cases p with
 | false =>
  go_wp2_with fail
  refine (awake19_any w2).mono ?_
  rintro e98 wz ⟨rfl,hbz⟩
  have HBZ:=hide (HB2.out.trans (hbz.mono HB2.out.size))
  clear hbz
  go_wp2_with fail
  go_ret
  exact LawOk.of HBZ.out
 | true =>
  obtain ⟨hF,hB10⟩:=HQ.out (by first|rfl|trivial)
  have hup:FewU up:=⟨by have h1:=hB10.1;omega,hB10.2⟩
  have HF:=hide hF
  have HFU:=hide hup
  clear hF hB10 hup HQ
  go_wp2_with (first|(refine wpList_loadW rfl 29 (.tmp 1) rfl 6 stk_agg stk_size (w.heap.size) 29 rfl (stkC g (.slice AU nU cU) (.slice AL nL cL)) R12.out rfl ?_))
  refine (All_any w2 HU2.out HL2.out (by omega) HF.out HFU.out).mono ?_
  rintro e w3 ⟨A9,n9,c9,rfl,hnc,hrd,hb3⟩
  have hal:=all_len HF.out HFU.out
  obtain ⟨l,hl⟩:∃l,allS up ls=l:=⟨_,rfl⟩
  rw [hl] at hrd hal
  have HLL:=hide hl
  have H:=hide hrd
  have hln:l.length=n9:=hrd.1
  have HB3:=hide (HB2.out.trans (hb3.mono (by omega)))
  have R13:=hide (R12.out.on hb3)
  have HU3:=hide (HU2.out.under hb3 (by omega))
  have HL3:=hide (HL2.out.under hb3 (by omega))
  have hz3:=hb3.size
  clear hrd hb3 R12 HB2 HU2 HL2 hl
  go_wp2_with fail
  go_loopw [19] (fun v19 wr=>∃j:Nat,j≤n9∧v19=.int .i64 j∧Below w3.heap.size w3 wr) (fun v19 _=>n9 - (intOf v19).toNat)
  case atStart=>exact ⟨0,by omega,rfl,below_self _⟩
  case round =>
   obtain ⟨j,hj,rfl,hbr⟩:=hrel
   have HBR:=hide hbr
   have hbs:=hbr.size
   by_cases hlt:j < n9
   ·have HBQ:=hide hbr
    have R1r:=hide (R13.out.on hbr)
    have HUr:=hide (HU3.out.under hbr (by omega))
    have HLr:=hide (HL3.out.under hbr (by omega))
    have Hr:=hide (H.out.under hbr (Nat.le_refl _))
    obtain ⟨x,hx⟩:∃x,l[j]?=some x:=⟨_,List.getElem?_eq_getElem (by omega)⟩
    obtain ⟨nm,ht⟩:=all_at HF.out HFU.out (by rw [HLL.out];exact hx)
    rw [HLL.out] at ht
    have HT:=hide ht
    obtain ⟨v,hv⟩:∃v,(atM up ls nm).2.1=v:=⟨_,rfl⟩
    have HAT:=hide (show atM up ls nm=(x.2.1,v,x.2.2) from by rw [ht.is,←hv];rfl)
    have hn0:=ht.ne
    obtain ⟨b9,o9,rfl,-,hcx⟩:=shn_get Hr.out hx
    have HCX:=hide hcx
    have hjn:(j:Int) < (n9:Int):=by omega
    have hjc:(0:Int)≤(j:Int)∧(j:Int)≤(c9:Int):=by omega
    clear hbr hx ht hcx hv
    go_wp2_with (first|(refine wpList_loadX rfl 37 (.tmp 22) rfl 4 shn_agg shn_size b9 (o9+j*4) rfl (shnC x) HCX.out rfl ?_)|(refine wpList_storeW rfl 37 (.tmp 5) (.tmp 23) rfl 4 shn_size (wr.heap.size) 37 rfl [.string ⟨#[]⟩,.int .i64 0,.int .i64 0,.int .i64 0] (shnC x) rfl (RowL.new wr 37 [.string ⟨#[]⟩,.int .i64 0,.int .i64 0,.int .i64 0]) rfl rfl (shnC_one _) ?_;intro wS121 hr121 hg121 hs121;have hzb:=below_stored' hg121;replace HBQ:=hide (HBQ.out.trans (hzb.mono (by omega)));replace R1r:=hide (R1r.out.on hzb);replace HUr:=hide (HUr.out.under hzb (by omega));replace HLr:=hide (HLr.out.under hzb (by omega));replace Hr:=hide (Hr.out.under hzb (by omega));have hsz122:=hzb.size;have R5:=hide hr121;have hlt121:=hr121.lt;have q5_0:wS121.cell? ⟨wr.heap.size,0,none⟩=some (.string ⟨x.1.toArray⟩):=R5.out.cell 0;have q5_1:wS121.cell? ⟨wr.heap.size,1,none⟩=some (.int .i64 x.2.1):=R5.out.cell 1;have q5_2:wS121.cell? ⟨wr.heap.size,2,none⟩=some (.int .i64 x.2.2.1):=R5.out.cell 2;have q5_3:wS121.cell? ⟨wr.heap.size,3,none⟩=some (.int .i64 x.2.2.2):=R5.out.cell 3;clear hzb hr121;clear hg121 hs121)|(go_at_call 19;refine (PSplit_e (s:=x.1) (HT.out.split.1) (HT.out.split.2) wS121 (by have:=HT.out.short;omega)).mono ?_;rintro e123 wP ⟨AN,nN,cN,rfl,hon,hbel⟩;clear q5_0 q5_1 q5_2 q5_3;replace HBQ:=hide (HBQ.out.trans (hbel.mono (by omega)));replace R1r:=hide (R1r.out.on hbel);replace HUr:=hide (HUr.out.under hbel (by omega));replace HLr:=hide (HLr.out.under hbel (by omega));replace Hr:=hide (Hr.out.under hbel (by omega));replace R5:=hide (R5.out.on hbel);have hsz124:=hbel.size;have q5_0:wP.cell? ⟨wr.heap.size,0,none⟩=some (.string ⟨x.1.toArray⟩):=R5.out.cell 0;have q5_1:wP.cell? ⟨wr.heap.size,1,none⟩=some (.int .i64 x.2.1):=R5.out.cell 1;have q5_2:wP.cell? ⟨wr.heap.size,2,none⟩=some (.int .i64 x.2.2.1):=R5.out.cell 2;have q5_3:wP.cell? ⟨wr.heap.size,3,none⟩=some (.int .i64 x.2.2.2):=R5.out.cell 3;have HON:=hide hon;clear hon;clear hbel)|(refine wpList_storeV rfl 41 (.tmp 6) (.tmp 28) rfl strs_size (wP.heap.size) 0 41 rfl (.slice AN nN cN) rfl rfl rfl [.slice none 0 0] (RowL.new wP 41 [.slice none 0 0]) (by show 0 < 1;omega) ?_;intro wQ hrq hgq hsq;replace hrq:RowL wQ wP.heap.size 41 [.slice AN nN cN]:=hrq;have hzb:=below_stored' hgq;clear q5_0 q5_1 q5_2 q5_3;replace HBQ:=hide (HBQ.out.trans (hzb.mono (by omega)));replace R1r:=hide (R1r.out.on hzb);replace HUr:=hide (HUr.out.under hzb (by omega));replace HLr:=hide (HLr.out.under hzb (by omega));replace Hr:=hide (Hr.out.under hzb (by omega));replace R5:=hide (R5.out.on hzb);replace HON:=hide (HON.out.below hzb);have hsz125:=hzb.size;have q5_0:wQ.cell? ⟨wr.heap.size,0,none⟩=some (.string ⟨x.1.toArray⟩):=R5.out.cell 0;have q5_1:wQ.cell? ⟨wr.heap.size,1,none⟩=some (.int .i64 x.2.1):=R5.out.cell 1;have q5_2:wQ.cell? ⟨wr.heap.size,2,none⟩=some (.int .i64 x.2.2.1):=R5.out.cell 2;have q5_3:wQ.cell? ⟨wr.heap.size,3,none⟩=some (.int .i64 x.2.2.2):=R5.out.cell 3;have R6:=hide hrq;have hlt6:=hrq.lt;clear hrq hgq hsq hzb))
    have hnl:=HON.out.len
    have HNL:=hide hnl
    have hn1:nN≠0:=fun e=>hn0 (List.eq_nil_of_length_eq_zero (by omega))
    have hnf:nN≤30000:=by have h1:=HT.out.few;have h2:=totL_ge nm;omega
    refine (show Calls Tryz.prog 20 #[.slice (some ⟨b9,o9,none⟩) j c9,.func (.func 21) #[] #[.pointer (some ⟨wr.heap.size,0,none⟩)]] wQ (BoolB wQ false) from by rw [←HT.out.once];exact SoHas1_any wQ (und_up (rde_takeN Hr.out (by omega)) (by omega)) (by omega) (fun W y _ hb=>SO1_any y W ((R5.out.on hb).cell 0) (by have:=hb.size;omega))).mono ?_
    rintro e8 wA ⟨rfl,hbA⟩
    clear q5_0 q5_1 q5_2 q5_3
    replace HBQ:=hide (HBQ.out.trans (hbA.mono (by omega)))
    replace R1r:=hide (R1r.out.on hbA)
    replace HUr:=hide (HUr.out.under hbA (by omega))
    replace HLr:=hide (HLr.out.under hbA (by omega))
    replace Hr:=hide (Hr.out.under hbA (by omega))
    replace R5:=hide (R5.out.on hbA)
    replace HON:=hide (HON.out.below hbA)
    replace R6:=hide (R6.out.on hbA)
    have hsz126:=hbA.size
    have q5_0:wA.cell? ⟨wr.heap.size,0,none⟩=some (.string ⟨x.1.toArray⟩):=R5.out.cell 0
    have q5_1:wA.cell? ⟨wr.heap.size,1,none⟩=some (.int .i64 x.2.1):=R5.out.cell 1
    have q5_2:wA.cell? ⟨wr.heap.size,2,none⟩=some (.int .i64 x.2.2.1):=R5.out.cell 2
    have q5_3:wA.cell? ⟨wr.heap.size,3,none⟩=some (.int .i64 x.2.2.2):=R5.out.cell 3
    clear hbA
    have q6:wA.cell? ⟨wP.heap.size,0,none⟩=some (.slice AN nN cN):=R6.out.cell 0
    have h11:((nN:Int)==0)=false:=by simp;omega
    have h12:¬((nN:Int)=0):=by omega
    by_cases h1:nN≤1
    ·have h13:¬(1 < (nN:Int)):=by omega
     clear hn0 hn1 hnl h12 q6
     have q6:wA.cell? ⟨wP.heap.size,0,none⟩=some (.slice AN nN cN):=R6.out.cell 0
     go_upto_region 13 with fail
     go_wp2_with (first|(refine wpList_loadW rfl 29 (.tmp 1) rfl 6 stk_agg stk_size (w.heap.size) 29 rfl (stkC g (.slice AU nU cU) (.slice AL nL cL)) R1r.out rfl ?_))
     go_at_call 24
     refine (MAt_any (R:=(x.2.1,v,x.2.2)) HAT.out wA HUr.out HLr.out (by omega) HF.out HFU.out HON.out.rd (by have:=HON.out.len;omega) (by omega)).mono ?_
     rintro e127 wMa ⟨AV,cV,rfl,hrv,hbel⟩
     clear hrv
     clear q5_0 q5_1 q5_2 q5_3
     replace HBQ:=hide (HBQ.out.trans (hbel.mono (by omega)))
     replace R1r:=hide (R1r.out.on hbel)
     replace HUr:=hide (HUr.out.under hbel (by omega))
     replace HLr:=hide (HLr.out.under hbel (by omega))
     replace Hr:=hide (Hr.out.under hbel (by omega))
     replace R5:=hide (R5.out.on hbel)
     replace HON:=hide (HON.out.below hbel)
     replace R6:=hide (R6.out.on hbel)
     have hsz128:=hbel.size
     have q5_0:wMa.cell? ⟨wr.heap.size,0,none⟩=some (.string ⟨x.1.toArray⟩):=R5.out.cell 0
     have q5_1:wMa.cell? ⟨wr.heap.size,1,none⟩=some (.int .i64 x.2.1):=R5.out.cell 1
     have q5_2:wMa.cell? ⟨wr.heap.size,2,none⟩=some (.int .i64 x.2.2.1):=R5.out.cell 2
     have q5_3:wMa.cell? ⟨wr.heap.size,3,none⟩=some (.int .i64 x.2.2.2):=R5.out.cell 3
     clear hbel
     go_wp2_with (first|(obtain ⟨hz9,hz10,hzb,hzs⟩:=rows2 wMa (viwC 0 (.slice none 0 0)) (prC (0,0)) 51 31;refine wpList_storeW rfl 51 (.tmp 9) (.tmp 58) rfl 2 viw_size (wMa.heap.size) 51 rfl (viwC 0 (.slice none 0 0)) (viwC v.1 (.slice AV v.2.length cV)) rfl hz9 rfl rfl (viwC_one _ _ _ _) ?_;intro wS129 hr129 hg129 hs129;replace hzb:=hzb.grown hg129 hzb.size (pu4 (by omega));replace hz10:=hz10.grown hg129 (pu5 (by omega));have hz9:=hr129;clear hg129 hs129 hr129)|(refine wpList_storeW rfl 31 (.tmp 10) (.tmp 59) rfl 2 plc_size (wMa.heap.size+1) 31 rfl (prC (0,0)) (prC x.2.2) rfl hz10 rfl rfl (prC_one _) ?_;intro wS130 hr130 hg130 hs130;replace hzb:=hzb.grown hg130 hzb.size (pu4 (by omega));replace hz9:=hz9.grown hg130 (pu5 (by omega));have hz10:=hr130;clear q5_0 q5_1 q5_2 q5_3;replace HBQ:=hide (HBQ.out.trans (hzb.mono (by omega)));replace R1r:=hide (R1r.out.on hzb);replace HUr:=hide (HUr.out.under hzb (by omega));replace HLr:=hide (HLr.out.under hzb (by omega));replace Hr:=hide (Hr.out.under hzb (by omega));replace R5:=hide (R5.out.on hzb);replace HON:=hide (HON.out.below hzb);replace R6:=hide (R6.out.on hzb);have hsz131:=hzb.size;have q5_0:wS130.cell? ⟨wr.heap.size,0,none⟩=some (.string ⟨x.1.toArray⟩):=R5.out.cell 0;have q5_1:wS130.cell? ⟨wr.heap.size,1,none⟩=some (.int .i64 x.2.1):=R5.out.cell 1;have q5_2:wS130.cell? ⟨wr.heap.size,2,none⟩=some (.int .i64 x.2.2.1):=R5.out.cell 2;have q5_3:wS130.cell? ⟨wr.heap.size,3,none⟩=some (.int .i64 x.2.2.2):=R5.out.cell 3;have R9:=hide hz9;have hlt129:=hz9.lt;have R10:=hide hz10;have hlt130:=hz10.lt;have q10_0:wS130.cell? ⟨wMa.heap.size+1,0,none⟩=some (.int .i64 x.2.2.1):=R10.out.cell 0;have q10_1:wS130.cell? ⟨wMa.heap.size+1,1,none⟩=some (.int .i64 x.2.2.2):=R10.out.cell 1;clear hzb hzs hz9 hz10;clear hg130 hs130)|(refine wpList_loadC rfl 26 (.tmp 60) rfl 1 lay_agg lay_size (w.heap.size) 4 29 rfl (stkC g (.slice AU nU cU) (.slice AL nL cL)) [.slice AU nU cU] R1r.out rfl rfl ?_))
     clear q6
     refine (Twice_any _ (und_up (HUr.out.under (below_new (below_self wS130) (.cells #[.int .i64 1] 3)) (by omega)) (by simp;omega)) (int_oneS wS130) (plain_many HFU.out.1 HFU.out.2).1 (by omega)).mono ?_
     rintro e14 wT ⟨AT,nT,cT,rfl,-,hrt,hbel0⟩
     have hbel:Below wS130.heap.size wS130 wT:=(below_new (below_self wS130) (.cells #[.int .i64 1] 3)).trans (hbel0.mono (by simp))
     clear hrt hbel0
     clear q5_0 q5_1 q10_0 q10_1 q5_2 q5_3
     replace HBQ:=hide (HBQ.out.trans (hbel.mono (by omega)))
     replace R1r:=hide (R1r.out.on hbel)
     replace HUr:=hide (HUr.out.under hbel (by omega))
     replace HLr:=hide (HLr.out.under hbel (by omega))
     replace Hr:=hide (Hr.out.under hbel (by omega))
     replace R5:=hide (R5.out.on hbel)
     replace HON:=hide (HON.out.below hbel)
     replace R6:=hide (R6.out.on hbel)
     replace R9:=hide (R9.out.on hbel)
     replace R10:=hide (R10.out.on hbel)
     have hsz132:=hbel.size
     have q5_0:wT.cell? ⟨wr.heap.size,0,none⟩=some (.string ⟨x.1.toArray⟩):=R5.out.cell 0
     have q5_1:wT.cell? ⟨wr.heap.size,1,none⟩=some (.int .i64 x.2.1):=R5.out.cell 1
     have q10_0:wT.cell? ⟨wMa.heap.size+1,0,none⟩=some (.int .i64 x.2.2.1):=R10.out.cell 0
     have q10_1:wT.cell? ⟨wMa.heap.size+1,1,none⟩=some (.int .i64 x.2.2.2):=R10.out.cell 1
     have q5_2:wT.cell? ⟨wr.heap.size,2,none⟩=some (.int .i64 x.2.2.1):=R5.out.cell 2
     have q5_3:wT.cell? ⟨wr.heap.size,3,none⟩=some (.int .i64 x.2.2.2):=R5.out.cell 3
     clear hbel
     have q51:wT.cell? ⟨wr.heap.size,1,none⟩=some (.int .i64 x.2.1):=R5.out.cell 1
     have q52:wT.cell? ⟨wr.heap.size,2,none⟩=some (.int .i64 x.2.2.1):=R5.out.cell 2
     have q53:wT.cell? ⟨wr.heap.size,3,none⟩=some (.int .i64 x.2.2.2):=R5.out.cell 3
     have q100:wT.cell? ⟨wMa.heap.size+1,0,none⟩=some (.int .i64 x.2.2.1):=R10.out.cell 0
     have q101:wT.cell? ⟨wMa.heap.size+1,1,none⟩=some (.int .i64 x.2.2.2):=R10.out.cell 1
     rcases Nat.eq_zero_or_pos nT with hz|hz
     ·subst hz
      have hneq:=fun W=>neq_plcS x.2.2.1 x.2.2.2 W
      go_wp2_with (first|(refine wpList_loadW rfl 31 (.tmp 10) rfl 2 plc_agg plc_size (wMa.heap.size+1) 31 rfl (prC x.2.2) R10.out rfl ?_)|(refine wpList_loadC rfl 31 (.tmp 73) rfl 2 plc_agg plc_size (wr.heap.size) 2 37 rfl (shnC x) (prC x.2.2) R5.out rfl rfl ?_))
      go_roundw
      case rel=>exact ⟨j+1,by omega,by go_num,HBQ.out⟩
      case measure=>simp [intOf];omega
     ·have hz1:((nT:Int)==0)=false:=by simp;omega
      have hz2:¬((nT:Int)=0):=by omega
      go_wp2_with fail
      go_roundw
      case rel=>exact ⟨j+1,by omega,by go_num,HBQ.out⟩
      case measure=>simp [intOf];omega
    ·have h13:1 < (nN:Int):=by omega
     obtain ⟨k,hk⟩:∃k,nN=k+1:=⟨nN - 1,by omega⟩
     have hk1:k+1≤nN:=by omega
     have hk2:nN≤k+1:=by omega
     have HK:=hide hk
     clear hk hn0 hn1 hnl h12
     go_wp2_with fail
     refine (show Calls Tryz.prog 20 #[.slice (some ⟨b9,o9,none⟩) j c9,.func (.func 22) #[] #[.pointer (some ⟨wP.heap.size,0,none⟩)]] wA (BoolB wA true) from by rw [←HT.out.behind (by have:=HNL.out;omega)];exact SoHas2_any wA (und_up (rde_takeN Hr.out (by omega)) (by omega)) (by omega) (fun W y _ hb=>by rw [show nm.length - 1=k from by have:=HNL.out;omega];exact SO2_any y (c:=cN) W (by have h1:=(R6.out.on hb).cell 0;rw [HK.out] at h1;exact h1) (by have:=hb.size;omega) (rd_takeN ((HON.out.rd).on hb) (by omega)) (by omega) (by have:=HON.out.cap;omega) (by have:=totL_take nm k;have:=HT.out.few;omega))).mono ?_
     rintro e11 wB ⟨rfl,hbB⟩
     clear q6
     clear q5_0 q5_1 q5_2 q5_3
     replace HBQ:=hide (HBQ.out.trans (hbB.mono (by omega)))
     replace R1r:=hide (R1r.out.on hbB)
     replace HUr:=hide (HUr.out.under hbB (by omega))
     replace HLr:=hide (HLr.out.under hbB (by omega))
     replace Hr:=hide (Hr.out.under hbB (by omega))
     replace R5:=hide (R5.out.on hbB)
     replace HON:=hide (HON.out.below hbB)
     replace R6:=hide (R6.out.on hbB)
     have hsz127:=hbB.size
     have q5_0:wB.cell? ⟨wr.heap.size,0,none⟩=some (.string ⟨x.1.toArray⟩):=R5.out.cell 0
     have q5_1:wB.cell? ⟨wr.heap.size,1,none⟩=some (.int .i64 x.2.1):=R5.out.cell 1
     have q5_2:wB.cell? ⟨wr.heap.size,2,none⟩=some (.int .i64 x.2.2.1):=R5.out.cell 2
     have q5_3:wB.cell? ⟨wr.heap.size,3,none⟩=some (.int .i64 x.2.2.2):=R5.out.cell 3
     clear hbB
     have q6:wB.cell? ⟨wP.heap.size,0,none⟩=some (.slice AN nN cN):=R6.out.cell 0
     go_upto_region 13 with fail
     go_wp2_with (first|(refine wpList_loadW rfl 29 (.tmp 1) rfl 6 stk_agg stk_size (w.heap.size) 29 rfl (stkC g (.slice AU nU cU) (.slice AL nL cL)) R1r.out rfl ?_))
     go_at_call 24
     refine (MAt_any (R:=(x.2.1,v,x.2.2)) HAT.out wB HUr.out HLr.out (by omega) HF.out HFU.out HON.out.rd (by have:=HON.out.len;omega) (by omega)).mono ?_
     rintro e128 wMb ⟨AV,cV,rfl,hrv,hbel⟩
     clear hrv
     clear q5_0 q5_1 q5_2 q5_3
     replace HBQ:=hide (HBQ.out.trans (hbel.mono (by omega)))
     replace R1r:=hide (R1r.out.on hbel)
     replace HUr:=hide (HUr.out.under hbel (by omega))
     replace HLr:=hide (HLr.out.under hbel (by omega))
     replace Hr:=hide (Hr.out.under hbel (by omega))
     replace R5:=hide (R5.out.on hbel)
     replace HON:=hide (HON.out.below hbel)
     replace R6:=hide (R6.out.on hbel)
     have hsz129:=hbel.size
     have q5_0:wMb.cell? ⟨wr.heap.size,0,none⟩=some (.string ⟨x.1.toArray⟩):=R5.out.cell 0
     have q5_1:wMb.cell? ⟨wr.heap.size,1,none⟩=some (.int .i64 x.2.1):=R5.out.cell 1
     have q5_2:wMb.cell? ⟨wr.heap.size,2,none⟩=some (.int .i64 x.2.2.1):=R5.out.cell 2
     have q5_3:wMb.cell? ⟨wr.heap.size,3,none⟩=some (.int .i64 x.2.2.2):=R5.out.cell 3
     clear hbel
     go_wp2_with (first|(obtain ⟨hz9,hz10,hzb,hzs⟩:=rows2 wMb (viwC 0 (.slice none 0 0)) (prC (0,0)) 51 31;refine wpList_storeW rfl 51 (.tmp 9) (.tmp 58) rfl 2 viw_size (wMb.heap.size) 51 rfl (viwC 0 (.slice none 0 0)) (viwC v.1 (.slice AV v.2.length cV)) rfl hz9 rfl rfl (viwC_one _ _ _ _) ?_;intro wS130 hr130 hg130 hs130;replace hzb:=hzb.grown hg130 hzb.size (pu4 (by omega));replace hz10:=hz10.grown hg130 (pu5 (by omega));have hz9:=hr130;clear hg130 hs130 hr130)|(refine wpList_storeW rfl 31 (.tmp 10) (.tmp 59) rfl 2 plc_size (wMb.heap.size+1) 31 rfl (prC (0,0)) (prC x.2.2) rfl hz10 rfl rfl (prC_one _) ?_;intro wS131 hr131 hg131 hs131;replace hzb:=hzb.grown hg131 hzb.size (pu4 (by omega));replace hz9:=hz9.grown hg131 (pu5 (by omega));have hz10:=hr131;clear q5_0 q5_1 q5_2 q5_3;replace HBQ:=hide (HBQ.out.trans (hzb.mono (by omega)));replace R1r:=hide (R1r.out.on hzb);replace HUr:=hide (HUr.out.under hzb (by omega));replace HLr:=hide (HLr.out.under hzb (by omega));replace Hr:=hide (Hr.out.under hzb (by omega));replace R5:=hide (R5.out.on hzb);replace HON:=hide (HON.out.below hzb);replace R6:=hide (R6.out.on hzb);have hsz132:=hzb.size;have q5_0:wS131.cell? ⟨wr.heap.size,0,none⟩=some (.string ⟨x.1.toArray⟩):=R5.out.cell 0;have q5_1:wS131.cell? ⟨wr.heap.size,1,none⟩=some (.int .i64 x.2.1):=R5.out.cell 1;have q5_2:wS131.cell? ⟨wr.heap.size,2,none⟩=some (.int .i64 x.2.2.1):=R5.out.cell 2;have q5_3:wS131.cell? ⟨wr.heap.size,3,none⟩=some (.int .i64 x.2.2.2):=R5.out.cell 3;have R9:=hide hz9;have hlt130:=hz9.lt;have R10:=hide hz10;have hlt131:=hz10.lt;have q10_0:wS131.cell? ⟨wMb.heap.size+1,0,none⟩=some (.int .i64 x.2.2.1):=R10.out.cell 0;have q10_1:wS131.cell? ⟨wMb.heap.size+1,1,none⟩=some (.int .i64 x.2.2.2):=R10.out.cell 1;clear hzb hzs hz9 hz10;clear hg131 hs131)|(refine wpList_loadC rfl 26 (.tmp 60) rfl 1 lay_agg lay_size (w.heap.size) 4 29 rfl (stkC g (.slice AU nU cU) (.slice AL nL cL)) [.slice AU nU cU] R1r.out rfl rfl ?_))
     clear q6
     refine (Twice_any _ (und_up (HUr.out.under (below_new (below_self wS131) (.cells #[.int .i64 1] 3)) (by omega)) (by simp;omega)) (int_oneS wS131) (plain_many HFU.out.1 HFU.out.2).1 (by omega)).mono ?_
     rintro e14 wT ⟨AT,nT,cT,rfl,-,hrt,hbel0⟩
     have hbel:Below wS131.heap.size wS131 wT:=(below_new (below_self wS131) (.cells #[.int .i64 1] 3)).trans (hbel0.mono (by simp))
     clear hrt hbel0
     clear q5_0 q5_1 q10_0 q10_1 q5_2 q5_3
     replace HBQ:=hide (HBQ.out.trans (hbel.mono (by omega)))
     replace R1r:=hide (R1r.out.on hbel)
     replace HUr:=hide (HUr.out.under hbel (by omega))
     replace HLr:=hide (HLr.out.under hbel (by omega))
     replace Hr:=hide (Hr.out.under hbel (by omega))
     replace R5:=hide (R5.out.on hbel)
     replace HON:=hide (HON.out.below hbel)
     replace R6:=hide (R6.out.on hbel)
     replace R9:=hide (R9.out.on hbel)
     replace R10:=hide (R10.out.on hbel)
     have hsz133:=hbel.size
     have q5_0:wT.cell? ⟨wr.heap.size,0,none⟩=some (.string ⟨x.1.toArray⟩):=R5.out.cell 0
     have q5_1:wT.cell? ⟨wr.heap.size,1,none⟩=some (.int .i64 x.2.1):=R5.out.cell 1
     have q10_0:wT.cell? ⟨wMb.heap.size+1,0,none⟩=some (.int .i64 x.2.2.1):=R10.out.cell 0
     have q10_1:wT.cell? ⟨wMb.heap.size+1,1,none⟩=some (.int .i64 x.2.2.2):=R10.out.cell 1
     have q5_2:wT.cell? ⟨wr.heap.size,2,none⟩=some (.int .i64 x.2.2.1):=R5.out.cell 2
     have q5_3:wT.cell? ⟨wr.heap.size,3,none⟩=some (.int .i64 x.2.2.2):=R5.out.cell 3
     clear hbel
     have q51:wT.cell? ⟨wr.heap.size,1,none⟩=some (.int .i64 x.2.1):=R5.out.cell 1
     have q52:wT.cell? ⟨wr.heap.size,2,none⟩=some (.int .i64 x.2.2.1):=R5.out.cell 2
     have q53:wT.cell? ⟨wr.heap.size,3,none⟩=some (.int .i64 x.2.2.2):=R5.out.cell 3
     have q100:wT.cell? ⟨wMb.heap.size+1,0,none⟩=some (.int .i64 x.2.2.1):=R10.out.cell 0
     have q101:wT.cell? ⟨wMb.heap.size+1,1,none⟩=some (.int .i64 x.2.2.2):=R10.out.cell 1
     rcases Nat.eq_zero_or_pos nT with hz|hz
     ·subst hz
      have hneq:=fun W=>neq_plcS x.2.2.1 x.2.2.2 W
      go_wp2_with (first|(refine wpList_loadW rfl 31 (.tmp 10) rfl 2 plc_agg plc_size (wMb.heap.size+1) 31 rfl (prC x.2.2) R10.out rfl ?_)|(refine wpList_loadC rfl 31 (.tmp 73) rfl 2 plc_agg plc_size (wr.heap.size) 2 37 rfl (shnC x) (prC x.2.2) R5.out rfl rfl ?_))
      go_roundw
      case rel=>exact ⟨j+1,by omega,by go_num,HBQ.out⟩
      case measure=>simp [intOf];omega
     ·have hz1:((nT:Int)==0)=false:=by simp;omega
      have hz2:¬((nT:Int)=0):=by omega
      go_wp2_with fail
      go_roundw
      case rel=>exact ⟨j+1,by omega,by go_num,HBQ.out⟩
      case measure=>simp [intOf];omega
   ·obtain rfl:j=n9:=by omega
    have hjn:¬((j:Int) < (j:Int)):=by omega
    clear hbr
    go_wp2_with fail
    refine (awake19_any wr).mono ?_
    rintro e98 wz ⟨rfl,hbz⟩
    have HBZ:=hide ((HB3.out.trans (HBR.out.mono (by omega))).trans (hbz.mono (by omega)))
    clear hbz
    go_wp2_with fail
    go_ret
    exact LawOk.of HBZ.out
end Go.Proofs.YtmhiohnkjpglfaaGreat

namespace Go.Proofs.YtmhiohnkjpglfaaGreat
open Go.RowKit Go.Shelf Plain Go.WideShapes Go.ChangeShapes

section
variable {H : Type} {enc : TypeId × Value → H} {w : World} {spare : Nat → Bool} {held : Bool}
theorem six_ {l:List Value} (h:l.length=6):∃a b c d e f,l=[a,b,c,d,e,f]:=by
 match l,h with
 | [a,b,c,d,e,f],_=>exact ⟨a,b,c,d,e,f,rfl⟩
set_option maxRecDepth 100000 in
theorem trod_lay {fuel:Nat} {cs:List Value} {y:DataW H×List MemPlace} (hl:cs.length=1) (h:DataW.trod enc Tryz.prog w 0 spare held fuel 26 cs=some y):∃x:List NodV,layEn.R w (Under w.heap.size) cs x∧∀d∈x,d.ents.length≤maxLen:=by
 obtain ⟨c0,rfl⟩:=one_cell hl
 obtain ⟨xs,n,-,-,-,hlen,hp⟩:=DataW.trod_struct Tryz.underlying26 h
 match xs,hlen,hp with
 | [x0],_,hp =>
  obtain ⟨A,n,c,ns,e1,hn,-,r,hfine⟩:=open_rdeF (e:=67) (cs:=[c0]) nodEn (fun x=>x.ents.length≤maxLen) Tryz.underlying24 (by kernel_rfl) (by decide) (fun _ cs _ hl hy=>trod_node hl hy) (hp 0 _ rfl)
  cases e1
  exact ⟨ns,⟨A,n,c,rfl,hn,r⟩,hfine⟩
set_option maxRecDepth 100000 in
theorem open_stack {r:Reach} {b0:Nat} {v:Value} {d:DataW H} {p:List MemPlace} (hv:Value.okWide Tryz.prog w r b0 29 v) (h:DataW.Trod enc Tryz.prog w 0 spare held 29 v d p) :
  ∃(g:GeoQ) (AU AL:Option Addr) (nU cU nL cL:Nat) (up:List NodV) (ls:List (List NodV)),v=.agg (stkC g (.slice AU nU cU) (.slice AL nL cL)).toArray∧nU≤cU∧nL≤cL∧RdE nodEn w (Under w.heap.size) AU nU up∧RdE layEn w (Under w.heap.size) AL nL ls∧(∀x∈up,x.ents.length≤maxLen)∧∀ns∈ls,∀x∈ns,x.ents.length≤maxLen:=by
 obtain ⟨cs,rfl,hsz⟩:=okWide_struct Tryz.underlying29 hv
 have hC:Tryz.prog.cellsOf 29=6:=by kernel_rfl
 obtain ⟨l⟩:=cs
 obtain ⟨c0,c1,c2,c3,c4,c5,rfl⟩:=six_ (l:=l) (hsz.trans hC)
 obtain ⟨fuel,hf⟩:=h
 obtain ⟨xs,n,-,-,-,hlen,hp⟩:=DataW.trod_struct Tryz.underlying29 hf
 match xs,hlen,hp with
 | [x0,x1,x2],_,hp =>
  have p0:=hp 0 _ rfl
  have p1:=hp 1 _ rfl
  obtain ⟨ys,m,-,-,-,hyl,hq⟩:=DataW.trod_struct Tryz.underlying23 (cs:=[c0,c1,c2,c3]) p0
  match ys,hyl,hq with
  | [y0,y1,y2,y3],_,hq =>
   obtain ⟨a0,rfl⟩:=cell_i64 (c:=c0) (hq 0 _ rfl)
   obtain ⟨a1,rfl⟩:=cell_i64 (c:=c1) (hq 1 _ rfl)
   obtain ⟨a2,rfl⟩:=cell_i64 (c:=c2) (hq 2 _ rfl)
   obtain ⟨a3,rfl⟩:=cell_i64 (c:=c3) (hq 3 _ rfl)
   obtain ⟨up,⟨AU,nU,cU,eU,hU,rU⟩,fU⟩:=trod_lay (cs:=[c4]) rfl p1
   obtain ⟨AL,nL,cL,ls,eL,hL,-,rL,fL⟩:=open_rdeF (e:=26) (cs:=[c5]) layEn (fun ns=>∀x∈ns,x.ents.length≤maxLen) Tryz.underlying27 (by kernel_rfl) (by decide) (fun _ cs _ hl hy=>trod_lay hl hy) (hp 2 _ rfl)
   cases eU
   cases eL
   exact ⟨⟨a0,a1,a2,a3⟩,AU,AL,nU,cU,nL,cL,up,ls,rfl,hU,hL,rU,rL,fU,fL⟩
end
end Go.Proofs.YtmhiohnkjpglfaaGreat

