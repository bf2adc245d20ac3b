import Derived.Test.YtmhiohnkjpglfaaGreatSn34
import Derived.Test.YtmhiohnkjpglfaaGreatSn29
import Derived.Test.YtmhiohnkjpglfaaGreatSn33
import Derived.Test.YtmhiohnkjpglfaaGreatSn19
import Derived.Test.YtmhiohnkjpglfaaGreatSn17

namespace Go.Proofs.YtmhiohnkjpglfaaGreat
open Go.RowKit Go.Shelf Plain

set_option maxRecDepth 100000 in
set_option maxHeartbeats 8000000 in
theorem MStep_any {g:GeoQ} {AU AL:Option Addr} {nU cU nL cL B:Nat} {up:List NodV} {ls:List (List NodV)} {u:Int} {AV:Option Addr} {nV cV BV:Nat} {vl:List (Int×Int)} {k:Int} {p:Int×Int} {nm:List UInt8} {S:StepV} (hS:goM up ls (k,(u,vl),p) nm=S) (w:World) (hu:RdE nodEn w (Under B) AU nU up) (h:RdE layEn w (Under B) AL nL ls) (hB:B≤w.heap.size) (hF:FewL ls) (hup:FewU up) (hv:RdE prEn w (Under BV) AV nV vl) (hBV:BV≤w.heap.size) (hnV:nV≤1000):Calls Tryz.prog 66 #[.agg (comC (k,(u,vl),p) (.slice AV nV cV)).toArray,.agg (stkC g (.slice AU nU cU) (.slice AL nL cL)).toArray,.string ⟨nm.toArray⟩] w (ComF w.heap.size w S):=by
 obtain ⟨W1,hW1⟩:∃W1,(((w.alloc (.cells (comC (k,(u,vl),p) (.slice AV nV cV)).toArray 115)).alloc (.cells (stkC g (.slice AU nU cU) (.slice AL nL cL)).toArray 29)).alloc (.cells (comC noStep (.slice none 0 0)).toArray 115))=W1:=⟨_,rfl⟩;obtain ⟨r0,r1,r2,hb1,hs1⟩:=rowA3 w _ _ _ _ _ _ hW1;have hW1':(((w.alloc (.cells #[.int .i64 u,.slice AV nV cV,.int .i64 p.1,.int .i64 p.2,.int .i64 k] 115)).alloc (.cells #[.int .i64 g.a,.int .i64 g.b,.int .i64 g.c,.int .i64 g.d,.slice AU nU cU,.slice AL nL cL] 29)).alloc (.cells #[.int .i64 0,.slice none 0 0,.int .i64 0,.int .i64 0,.int .i64 0] 115))=W1:=hW1;have R3:=hide r0;have R4:=hide r1;have R6:=hide r2;have HB:=hide hb1;have hsz0:=hb1.size;have HU:=hide (hu.under hb1 hB);have HL:=hide (h.under hb1 hB);have HF:=hide hF;have HFU:=hide hup;have HV:=hide (hv.under hb1 hBV)
 have q3_4:W1.cell? ⟨w.heap.size,4,none⟩=some (.int .i64 k):=R3.out.cell 4
 unfold stkC comC;dsimp only;unfold goM at hS;dsimp only at hS
 by_cases hk:k=1
 ·rw [if_pos hk] at hS
  have HS:=hide hS
  have hk1:(k != 1)=false:=by simpa using hk
  clear r0 r1 r2 hb1 hW1 hu h hF hup hv hS hk
  go_enter Tryz.func66,Tryz.ntmps66
  go_wp2_with (first|(refine qo rfl 29 (.tmp 4) rfl 6 stk_agg stk_size (w.heap.size+1) 29 rfl (stkC g (.slice AU nU cU) (.slice AL nL cL)) R4.out rfl ?_)|(refine wpList_loadC rfl 51 (.tmp 16) rfl 2 viw_agg viw_size (w.heap.size) 0 115 rfl (comC (k,(u,vl),p) (.slice AV nV cV)) (viwC u (.slice AV nV cV)) R3.out rfl rfl ?_)|(go_at_call 106;refine (VStep_any (u:=u) (cV:=cV) HS.out W1 HU.out HL.out (by omega) HF.out HFU.out HV.out (by omega) hnV).mono ?_;rintro e1 wV ⟨A9,c9,rfl,h9,qg⟩;clear q3_4;replace HB:=hide (HB.out.trans (qg.mono HB.out.size));replace R3:=hide (R3.out.on qg);replace R4:=hide (R4.out.on qg);replace R6:=hide (R6.out.on qg);replace HU:=hide (HU.out.under qg (by omega));replace HL:=hide (HL.out.under qg (by omega));replace HV:=hide (HV.out.under qg (by omega));have hsz2:=qg.size;have q3_4:wV.cell? ⟨w.heap.size,4,none⟩=some (.int .i64 k):=R3.out.cell 4;have H9:=hide h9;clear h9;clear qg)|(obtain ⟨hz8,hz9,hzb,hzs⟩:=rows2 wV (viwC 0 (.slice none 0 0)) (prC (0,0)) 51 31;refine ql rfl 51 (.tmp 8) (.tmp 21) rfl 2 viw_size (wV.heap.size) 51 rfl (viwC 0 (.slice none 0 0)) (viwC S.2.1.1 (.slice A9 S.2.1.2.length c9)) rfl hz8 rfl rfl (viwC_one _ _ _ _) ?_;intro wS3 hr3 hg3 hs3;replace hzb:=hzb.grown hg3 hzb.size (pu4 (by omega));replace hz9:=hz9.grown hg3 (pu5 (by omega));have hz8:=hr3;clear hg3 hs3 hr3)|(refine ql rfl 31 (.tmp 9) (.tmp 22) rfl 2 plc_size (wV.heap.size+1) 31 rfl (prC (0,0)) (prC S.2.2) rfl hz9 rfl rfl (prC_one _) ?_;intro wS4 hr4 hg4 hs4;replace hzb:=hzb.grown hg4 hzb.size (pu4 (by omega));replace hz8:=hz8.grown hg4 (pu5 (by omega));have hz9:=hr4;clear q3_4;replace HB:=hide (HB.out.trans (hzb.mono HB.out.size));replace R3:=hide (R3.out.on hzb);replace R4:=hide (R4.out.on hzb);replace R6:=hide (R6.out.on hzb);replace HU:=hide (HU.out.under hzb (by omega));replace HL:=hide (HL.out.under hzb (by omega));replace HV:=hide (HV.out.under hzb (by omega));replace H9:=hide (btw_on H9.out hzb (by omega));have hsz5:=hzb.size;have q3_4:wS4.cell? ⟨w.heap.size,4,none⟩=some (.int .i64 k):=R3.out.cell 4;have R8:=hide hz8;have hlt3:=hz8.lt;have R9:=hide hz9;have hlt4:=hz9.lt;clear hzb hzs hz8 hz9;clear hg4 hs4)|(refine qo rfl 51 (.tmp 8) rfl 2 viw_agg viw_size (wV.heap.size) 51 rfl [.int .i64 S.2.1.1,.slice A9 S.2.1.2.length c9] R8.out rfl ?_)|(refine qo rfl 31 (.tmp 9) rfl 2 plc_agg plc_size (wV.heap.size+1) 31 rfl [.int .i64 S.2.2.1,.int .i64 S.2.2.2] R9.out rfl ?_)|(refine ql rfl 115 (.tmp 6) (.tmp 26) rfl 5 com_size (w.heap.size+1+1) 115 rfl (comC noStep (.slice none 0 0)) (comC S (.slice A9 S.2.1.2.length c9)) rfl R6.out rfl rfl (comC_one _ _ _ _) ?_;intro wS6 hr6 hg6 hs6;clear q3_4;replace HB:=hide (HB.out.grown hg6 (by omega) (pu4 (by omega)));replace R3:=hide (R3.out.grown hg6 (pu5 (by omega)));replace R4:=hide (R4.out.grown hg6 (pu5 (by omega)));replace HU:=hide (und_grown HU.out hg6 (by omega) (by omega));replace HL:=hide (und_grown HL.out hg6 (by omega) (by omega));replace HV:=hide (und_grown HV.out hg6 (by omega) (by omega));replace H9:=hide (btw_grown H9.out hg6 (by omega) (by omega));replace R8:=hide (R8.out.grown hg6 (pu5 (by omega)));replace R9:=hide (R9.out.grown hg6 (pu5 (by omega)));have hsz7:=hg6.size;replace R6:=hide hr6;have q3_4:wS6.cell? ⟨w.heap.size,4,none⟩=some (.int .i64 k):=R3.out.cell 4;clear hr6 hg6 hs6))
  exact bodyPost_ret (res_cell Tryz.results66 rfl com_agg com_size R6.out rfl) rfl ⟨A9,c9,rfl,fr_low (fr_btw H9.out (by omega)) (by omega),HB.out⟩
 ·rw [if_neg hk] at hS
  subst hS
  have hk1:(k != 1)=true:=by simpa using hk
  clear r0 r1 r2 hb1 hW1 hu h hF hup hv hk
  go_enter Tryz.func66,Tryz.ntmps66
  go_wp2_with (first|(refine ql rfl 115 (.tmp 6) (.tmp 13) rfl 5 com_size (w.heap.size+1+1) 115 rfl (comC noStep (.slice none 0 0)) (comC (0,(0,[]),(0,0)) (.slice none 0 0)) rfl R6.out rfl rfl (comC_one _ _ _ _) ?_;intro wS1 hr1 hg1 hs1;clear q3_4;replace HB:=hide (HB.out.grown hg1 (by omega) (pu4 (by omega)));replace R3:=hide (R3.out.grown hg1 (pu5 (by omega)));replace R4:=hide (R4.out.grown hg1 (pu5 (by omega)));replace HU:=hide (und_grown HU.out hg1 (by omega) (by omega));replace HL:=hide (und_grown HL.out hg1 (by omega) (by omega));replace HV:=hide (und_grown HV.out hg1 (by omega) (by omega));have hsz2:=hg1.size;replace R6:=hide hr1;have q3_4:wS1.cell? ⟨w.heap.size,4,none⟩=some (.int .i64 k):=R3.out.cell 4;clear hr1 hg1 hs1))
  exact bodyPost_ret (res_cell Tryz.results66 rfl com_agg com_size R6.out rfl) rfl ⟨none,0,rfl,RdE.none_ _ _ _ _,HB.out⟩
theorem MStep_s {g:GeoQ} {AU AL:Option Addr} {nU cU nL cL B:Nat} {up:List NodV} {ls:List (List NodV)} {AV:Option Addr} {nV cV BV:Nat} {nm:List UInt8} {C S:StepV} (hS:goM up ls C nm=S) (w:World) (hu:RdE nodEn w (Under B) AU nU up) (h:RdE layEn w (Under B) AL nL ls) (hB:B≤w.heap.size) (hF:FewL ls) (hup:FewU up) (hv:RdE prEn w (Under BV) AV nV C.2.1.2) (hBV:BV≤w.heap.size) (hnV:nV≤1000):Calls Tryz.prog 66 #[.agg (comC C (.slice AV nV cV)).toArray,.agg (stkC g (.slice AU nU cU) (.slice AL nL cL)).toArray,.string ⟨nm.toArray⟩] w (ComF w.heap.size w S):=by
 obtain ⟨k,⟨u,vl⟩,p⟩:=C;exact MStep_any hS w hu h hB hF hup hv hBV hnV
theorem row_at {w w':World} {C g t:Nat} {cs:List Value} (h:RowL w g t cs) (hb:Below C w w') (hl:g < C):RowL w' g t cs:=(hb.block g hl).trans h
theorem rd_grown {α:Type} {f:α→Value} {w w':World} {B g n:Nat} {A:Option Addr} {l:List α} (h:Rd f w B A n l) (hg:w.grownBy w' (some g)) (hB:B≤w.heap.size) (hlt:B≤g):Rd f w' B A n l:=⟨h.1,fun hn=>by
 obtain ⟨b,o,e,hb,hc⟩:=h.2 hn
 exact ⟨b,o,e,hb,fun i x hx=>(World.cell?_of_block (w:=w) (a:=⟨b,o+i,none⟩) (hg.block b (by omega) (pu5 (by omega)))).trans (hc i x hx)⟩⟩
def Cut (lo g:Nat) (w:World) (b:Nat):Prop:=lo≤b∧b < w.heap.size∧b≠g
theorem cut_on {α:Type} {E:Enc α} {w w':World} {lo g:Nat} {A:Option Addr} {n:Nat} {l:List α} (h:RdE E w (Cut lo g w) A n l) (hb:Below w.heap.size w w'):RdE E w' (Cut lo g w') A n l:=h.mono (fun _ hk=>hb.block _ hk.2.1) (fun _ hk=>⟨hk.1,Nat.lt_of_lt_of_le hk.2.1 hb.size,hk.2.2⟩)
theorem cut_grown {α:Type} {E:Enc α} {w w':World} {lo g:Nat} {A:Option Addr} {n:Nat} {l:List α} (h:RdE E w (Cut lo g w) A n l) (hg:w.grownBy w' (some g)):RdE E w' (Cut lo g w') A n l:=h.mono (fun _ hk=>hg.block _ hk.2.1 (fun e=>hk.2.2 (Option.some.inj e))) (fun _ hk=>⟨hk.1,Nat.lt_of_lt_of_le hk.2.1 hg.size,hk.2.2⟩)
theorem cut_und {α:Type} {E:Enc α} {w:World} {lo g:Nat} {A:Option Addr} {n:Nat} {l:List α} (h:RdE E w (Cut lo g w) A n l):RdE E w (Under w.heap.size) A n l:=h.mono (fun _ _=>rfl) (fun _ hk=>hk.2.1)
theorem cut_fr {α:Type} {E:Enc α} {w:World} {lo g:Nat} {A:Option Addr} {n:Nat} {l:List α} (h:RdE E w (Cut lo g w) A n l):RdE E w (fun b=>lo≤b∧b < w.heap.size) A n l:=h.mono (fun _ _=>rfl) (fun _ hk=>⟨hk.1,hk.2.1⟩)
theorem fr_cut {α:Type} {E:Enc α} {w:World} {lo lo' g:Nat} {A:Option Addr} {n:Nat} {l:List α} (h:RdE E w (fun b=>lo'≤b∧b < w.heap.size) A n l) (hl:lo≤lo') (hg:g < lo'):RdE E w (Cut lo g w) A n l:=h.mono (fun _ _=>rfl) (fun _ hk=>⟨Nat.le_trans hl hk.1,hk.2,by omega⟩)
theorem btw_cut {α:Type} {E:Enc α} {w:World} {lo hi:Nat} {A:Option Addr} {n:Nat} {l:List α} (h:RdE E w (fun b=>lo≤b∧b < hi) A n l) (hh:hi < w.heap.size):RdE E w (Cut lo hi w) A n l:=h.mono (fun _ _=>rfl) (fun _ hk=>⟨hk.1,by omega,by omega⟩)
set_option maxRecDepth 100000 in
set_option maxHeartbeats 8000000 in
theorem MAt_any {g:GeoQ} {AU AL:Option Addr} {nU cU nL cL B:Nat} {up:List NodV} {ls:List (List NodV)} {AN:Option Addr} {nN cN:Nat} {names:List (List UInt8)} {R:StepV} (hR:atM up ls names=R) (w:World) (hu:RdE nodEn w (Under B) AU nU up) (h:RdE layEn w (Under B) AL nL ls) (hB:B≤w.heap.size) (hF:FewL ls) (hup:FewU up) {BN:Nat} (hn:Rd st w BN AN nN names) (hBN:BN≤w.heap.size) (hnN:nN≤100000000):Calls Tryz.prog 24 #[.agg (stkC g (.slice AU nU cU) (.slice AL nL cL)).toArray,.slice AN nN cN] w (StepF w.heap.size w R):=by
 obtain ⟨W1,hW1⟩:∃W1,(((w.alloc (.cells (stkC g (.slice AU nU cU) (.slice AL nL cL)).toArray 29)).alloc (.cells (viwC 0 (.slice none 0 0)).toArray 51)).alloc (.cells (prC (0,0)).toArray 31))=W1:=⟨_,rfl⟩;obtain ⟨r0,r1,r2,hb1,hs1⟩:=rowA3 w _ _ _ _ _ _ hW1;have hW1':(((w.alloc (.cells #[.int .i64 g.a,.int .i64 g.b,.int .i64 g.c,.int .i64 g.d,.slice AU nU cU,.slice AL nL cL] 29)).alloc (.cells #[.int .i64 0,.slice none 0 0] 51)).alloc (.cells #[.int .i64 0,.int .i64 0] 31))=W1:=hW1;have R2:=hide r0;have R5:=hide r1;have R6:=hide r2;have HB:=hide hb1;have hsz0:=hb1.size;have HU:=hide (hu.under hb1 hB);have HL:=hide (h.under hb1 hB);have HF:=hide hF;have HFU:=hide hup;have HN:=hide (hn.below (hb1.mono hBN));have HR:=hide hR
 have hll:ls.length≤100:=by have:=hF.1;omega
 obtain ⟨M,hM⟩:∃M,beginM up ls=M:=⟨_,rfl⟩;have HM:=hide hM;have hnl:names.length=nN:=hn.1;unfold stkC;clear r0 r1 r2 hb1 hW1 hu h hF hup hn hM hR
 go_enter Tryz.func24,Tryz.ntmps24
 go_wp2_with (first|(refine qo rfl 29 (.tmp 2) rfl 6 stk_agg stk_size (w.heap.size) 29 rfl (stkC g (.slice AU nU cU) (.slice AL nL cL)) R2.out rfl ?_)|(go_at_call 65;refine ((by rw [←HM.out];exact MBegin_any W1 HU.out HL.out (by omega) HF.out HFU.out:Calls Tryz.prog _ _ _ (ComF W1.heap.size W1 M))).mono ?_;rintro e1 wB ⟨A8,c8,rfl,h8,qg⟩;replace HB:=hide (HB.out.trans (qg.mono HB.out.size));replace R2:=hide (R2.out.on qg);replace R5:=hide (R5.out.on qg);replace R6:=hide (R6.out.on qg);replace HU:=hide (HU.out.under qg (by omega));replace HL:=hide (HL.out.under qg (by omega));replace HN:=hide (HN.out.below (qg.mono (by omega)));have hsz2:=qg.size;have H8:=hide h8;clear h8;clear qg)|(refine ql rfl 115 (.tmp 7) (.tmp 11) rfl 5 com_size (wB.heap.size) 115 rfl (comC noStep (.slice none 0 0)) (comC M (.slice A8 M.2.1.2.length c8)) rfl (RowL.new wB 115 (comC noStep (.slice none 0 0))) rfl rfl (comC_one _ _ _ _) ?_;intro wS3 hr3 hg3 hs3;have hzb:=below_stored' hg3;replace HB:=hide (HB.out.trans (hzb.mono HB.out.size));replace R2:=hide (R2.out.on hzb);replace R5:=hide (R5.out.on hzb);replace R6:=hide (R6.out.on hzb);replace HU:=hide (HU.out.under hzb (by omega));replace HL:=hide (HL.out.under hzb (by omega));replace HN:=hide (HN.out.below (hzb.mono (by omega)));replace H8:=hide (btw_on H8.out hzb (by omega));have hsz4:=hzb.size;have R7:=hide hr3;have hlt3:=hr3.lt;have q7_4:wS3.cell? ⟨wB.heap.size,4,none⟩=some (.int .i64 M.1):=R7.out.cell 4;clear hzb hr3;clear hg3 hs3))
 clear hW1' q7_4
 go_loopw [14] (fun v14 wr=>∃j:Nat,j≤nN∧v14=.int .i64 j∧(∃A c,RowL wr (wB.heap.size) 115 (comC (atM up ls (names.take j)) (.slice A (atM up ls (names.take j)).2.1.2.length c))∧RdE prEn wr (Cut W1.heap.size (wB.heap.size) wr) A (atM up ls (names.take j)).2.1.2.length (atM up ls (names.take j)).2.1.2)∧Below (wB.heap.size) wS3 wr) (fun v14 _=>nN - (intOf v14).toNat)
 case atStart=>exact ⟨0,by omega,rfl,⟨A8,c8,by rw [List.take_zero,show atM up ls []=M from HM.out];exact R7.out,by rw [List.take_zero,show atM up ls []=M from HM.out];exact btw_cut H8.out (by omega)⟩,Below.refl _ _⟩
 case round =>
  obtain ⟨j,hj,rfl,⟨A5,c5,hr7,h5⟩,hbr⟩:=hrel;clear R7 H8;have hbsz:=hbr.size;replace HB:=hide (HB.out.trans (hbr.mono (by omega)));replace R2:=hide (row_at R2.out hbr (by omega));replace R5:=hide (row_at R5.out hbr (by omega));replace R6:=hide (row_at R6.out hbr (by omega));replace HU:=hide (und_at HU.out hbr (by omega));replace HL:=hide (und_at HL.out hbr (by omega));replace HN:=hide (HN.out.below (hbr.mono (by omega)));have HBR:=hide hbr;obtain ⟨S,hS⟩:∃S,atM up ls (names.take j)=S:=⟨_,rfl⟩
  have hSn:S.2.1.2.length≤1000:=by rw [←hS];have:=at_few up ls (names.take j);omega
  have HSS:=hide hS;rw [hS] at hr7 h5;have R7:=hide hr7;have H5:=hide h5;clear hbr hS hr7 h5
  by_cases hlt:j < nN
  ·have hjn:(j:Int) < (nN:Int):=by omega
   obtain ⟨x,hx⟩:∃x,names[j]?=some x:=⟨_,List.getElem?_eq_getElem (by omega)⟩;obtain ⟨bS,oS,rfl,hbS,qS⟩:=st_cell HN.out hx;obtain ⟨G,hG⟩:∃G,goM up ls S x=G:=⟨_,rfl⟩;have HTK:=hide (show atM up ls (names.take (j+1))=G from by rw [at_take up ls hx,HSS.out,hG]);have HG:=hide hG;clear hG hx
   go_wp2_with (first|(refine qo rfl 115 (.tmp 7) rfl 5 com_agg com_size (wB.heap.size) 115 rfl (comC S (.slice A5 S.2.1.2.length c5)) R7.out rfl ?_)|(refine qo rfl 29 (.tmp 2) rfl 6 stk_agg stk_size (w.heap.size) 29 rfl (stkC g (.slice AU nU cU) (.slice AL nL cL)) R2.out rfl ?_)|(go_at_call 66;refine (MStep_s HG.out wr HU.out HL.out (by omega) HF.out HFU.out (cut_und H5.out) (Nat.le_refl _) hSn).mono ?_;rintro e41 wC ⟨A9,c9,rfl,h9,qg⟩;replace HB:=hide (HB.out.trans (qg.mono HB.out.size));replace R2:=hide (R2.out.on qg);replace R5:=hide (R5.out.on qg);replace R6:=hide (R6.out.on qg);replace HU:=hide (HU.out.under qg (by omega));replace HL:=hide (HL.out.under qg (by omega));replace HN:=hide (HN.out.below (qg.mono (by omega)));replace R7:=hide (R7.out.on qg);replace H5:=hide (cut_on H5.out qg);replace HBR:=hide (HBR.out.trans (qg.mono (by omega)));have hsz42:=qg.size;have H9:=hide h9;clear h9;clear qg)|(refine ql rfl 115 (.tmp 7) (.tmp 21) rfl 5 com_size (wB.heap.size) 115 rfl (comC S (.slice A5 S.2.1.2.length c5)) (comC G (.slice A9 G.2.1.2.length c9)) rfl R7.out rfl rfl (comC_one _ _ _ _) ?_;intro wS43 hr43 hg43 hs43;replace HB:=hide (HB.out.grown hg43 (by omega) (pu4 (by omega)));replace R2:=hide (R2.out.grown hg43 (pu5 (by omega)));replace R5:=hide (R5.out.grown hg43 (pu5 (by omega)));replace R6:=hide (R6.out.grown hg43 (pu5 (by omega)));replace HU:=hide (und_grown HU.out hg43 (by omega) (by omega));replace HL:=hide (und_grown HL.out hg43 (by omega) (by omega));replace HN:=hide (rd_grown HN.out hg43 (by omega) (by omega));replace H5:=hide (cut_grown H5.out hg43);replace HBR:=hide (HBR.out.grown hg43 (by omega) (pu4 (by omega)));replace H9:=hide (fr_grown H9.out hg43 (by omega));have hsz44:=hg43.size;replace R7:=hide hr43;clear hr43 hg43 hs43))
   go_roundw
   case rel=>exact ⟨j+1,by omega,by go_num,⟨A9,c9,by rw [HTK.out];exact R7.out,by rw [HTK.out];exact fr_cut H9.out (by omega) (by omega)⟩,HBR.out⟩
   case measure=>simp [intOf];omega
  ·obtain rfl:j=nN:=by omega
   have hj2:¬(j:Int) < (j:Int):=by omega
   have hSR:S=R:=by rw [←HSS.out,List.take_of_length_le (by omega)];exact HR.out
   subst hSR
   go_wp2_with fail
   refine wp_region_planN (fun w'=>TwoS wr w.heap.size (w.heap.size+1) 51 2 (w.heap.size+1+1) 31 2 w') [(0,true),(1,true),(2,true),(3,true),(4,true),(5,true),(6,true),(7,false),(8,false)] (by kernel_rfl) (by kernel_rfl) (by kernel_rfl) (by kernel_rfl) rfl (fun _ _ _ _ _ h=>h) (TwoS.start (base:=w.heap.size) R5.out rfl R6.out rfl) (fun qc=>?_);simp only [planOps,List.filterMap_cons,List.filterMap_nil,List.getElem?_toArray,List.getElem?_cons_succ,List.getElem?_cons_zero,Option.map_some];refine qh (v:=?_) (by kernel_rfl) (fun wS hSw=>?_) ?_;rotate_left
   ·(try dsimp only at hSw);go_simp;(try with_reducible rfl)
   (try simp only [Act.put,pu1,pu2,pu3]);refine qh (v:=?_) (by kernel_rfl) (fun wS hSw=>?_) ?_;rotate_left
   ·have qx:=((hSw.row R7.out (by omega) (by omega)).cell 4).trans (show (comC S (.slice A5 S.2.1.2.length c5))[4]?=some (.int .i64 S.1) from rfl);go_simp;(try with_reducible rfl)
   (try simp only [Act.put,pu1,pu2,pu3]);refine qh (v:=?_) (by kernel_rfl) (fun wS hSw=>?_) ?_;rotate_left
   ·(try dsimp only at hSw);go_simp;(try with_reducible rfl)
   (try simp only [Act.put,pu1,pu2,pu3]);refine qh (v:=?_) (by kernel_rfl) (fun wS hSw=>?_) ?_;rotate_left
   ·refine execOp_load (x:=.tmp 25) (k:=2) (g:=wB.heap.size) (off:=0) (cs:=(viwC S.2.1.1 (.slice A5 S.2.1.2.length c5))) ?_ viw_agg viw_size ?_ (fun j v hv=>((hSw.row R7.out (by omega) (by omega)).cell (0+j)).trans (sub_cell (cur:=(comC S (.slice A5 S.2.1.2.length c5))) (k:=2) rfl hv)) rfl <;> rfl
   (try simp only [Act.put,pu1,pu2,pu3]);refine qh (v:=?_) (by kernel_rfl) (fun wS hSw=>?_) ?_;rotate_left
   ·(try dsimp only at hSw);go_simp;(try with_reducible rfl)
   (try simp only [Act.put,pu1,pu2,pu3]);refine qh (v:=?_) (by kernel_rfl) (fun wS hSw=>?_) ?_;rotate_left
   ·refine execOp_load (x:=.tmp 27) (k:=2) (g:=wB.heap.size) (off:=2) (cs:=(prC S.2.2)) ?_ plc_agg plc_size ?_ (fun j v hv=>((hSw.row R7.out (by omega) (by omega)).cell (2+j)).trans (sub_cell (cur:=(comC S (.slice A5 S.2.1.2.length c5))) (k:=2) rfl hv)) rfl <;> rfl
   (try simp only [Act.put,pu1,pu2,pu3]);refine qh (v:=?_) (by kernel_rfl) (fun wS hSw=>?_) ?_;rotate_left
   ·(try dsimp only at hSw);go_simp;(try with_reducible rfl)
   (try simp only [Act.put,pu1,pu2,pu3]);refine wpPlan_call (by kernel_rfl) (fun K hK=>?_);have qd:=hide qc;clear qc;obtain ⟨pk,⟨cu5,p5,l5⟩,p6,pb⟩:=qd.out;refine wp_storeC 51 (.tmp 5) (.tmp 26) rfl 2 viw_size (w.heap.size+1) 0 51 rfl cu5 (viwC S.2.1.1 (.slice A5 S.2.1.2.length c5)) rfl p5 rfl (by omega) (viwC_one _ _ _ _) ?_;intro w' hr' hg' hs';rw [splice_all _ _ (by rw [l5];rfl)] at hr';refine hK.out _ _ (qd.out.st5 hg' hr' rfl (by omega) (by omega) (by omega)) (fun qc=>?_);clear hK K;have hsO:=qd.out.2.2.2.size;have HR5:=hide hr';clear hr' hg' hs' pk p5 p6 pb hsO;(try simp only [Act.put]);refine wpPlan_call (by kernel_rfl) (fun K hK=>?_);have qd:=hide qc;clear qc;obtain ⟨pk,p5,⟨cu6,p6,l6⟩,pb⟩:=qd.out;refine wp_storeC 31 (.tmp 6) (.tmp 28) rfl 2 plc_size (w.heap.size+1+1) 0 31 rfl cu6 (prC S.2.2) rfl p6 rfl (by omega) (prC_one _) ?_;intro w' hr' hg' hs';rw [splice_all _ _ (by rw [l6];rfl)] at hr';refine hK.out _ _ (qd.out.st6 hg' hr' rfl (by omega) (by omega) (by omega)) (fun qc=>?_);clear hK K;have hsO:=qd.out.2.2.2.size;have HR6:=hide hr';replace HR5:=hide (HR5.out.grown hg' (pu5 (by omega)));clear hr' hg' hs' pk p5 p6 pb hsO;(try simp only [Act.put]);refine wpPlan_end ?_;have HSF:=hide qc;clear qc
   go_wp2_with fail
   exact bodyPost_ret (res_tcc Tryz.results24 rfl rfl rfl viw_agg viw_size plc_agg plc_size HR5.out rfl HR6.out rfl) rfl ⟨A5,c5,rfl,fr_low (HSF.out.fr (cut_fr H5.out) (by omega) (by omega)) (by omega),HB.out.trans HSF.out.2.2.2⟩
end Go.Proofs.YtmhiohnkjpglfaaGreat

namespace Go.Proofs.YtmhiohnkjpglfaaGreat
open Go.RowKit Go.Shelf Plain

theorem PSplit_e {s:List UInt8} {L:List (List UInt8)} {b:Bool} (h1:splitB s=b) (h2:splitS s=L) (w:World) (hs:s.length≤1100000):Calls Tryz.prog 19 #[.string ⟨s.toArray⟩] w (LRet w 9 L b):=by
 rw [←h1,←h2];exact PSplit_any w hs
end Go.Proofs.YtmhiohnkjpglfaaGreat

namespace Go.Proofs.YtmhiohnkjpglfaaGreat
open Go.RowKit Go.Shelf Plain

def dirN (up:List NodV) (ls:List (List NodV)) (n:List (List UInt8)):Bool:=decide ((atM up ls n).1=1)
def viewN (up:List NodV) (ls:List (List NodV)) (n:List (List UInt8)):StopV:=((atM up ls n).2.1,n)
theorem tour_stops (up : List NodV) (ls : List (List NodV)) : ∀ k, (tourS up ls k).1 = (rootV up ls, []) :: ((tourN up ls k).filter (dirN up ls)).map (viewN up ls)
 | 0=>rfl
 | k+1=>by
  have ih:=tour_stops up ls k
  cases hs:(tourS up ls k).1[k]? with
  | none=>rw [(tourN_none hs).1,(tourN_none hs).2,ih]
  | some s =>
   obtain ⟨a1,a2⟩:=(tour_at up ls k).1 s (List.mem_of_getElem? hs)
   have hstep:∀x,atM up ls (s.2++[x])=stepV up ls s.1 x:=fun x=>by
    rw [at_snoc];unfold goM;rw [if_pos a1,a2]
   have hn:nextS up ls s=((toldN up ls s).filter (dirN up ls)).map (viewN up ls):=by
    unfold nextS toldN;rw [List.filter_map,List.map_map]
    have e1:(dirN up ls ∘ fun x=>s.2++[x])=dirX up ls s.1:=funext fun x=>by
     show dirN up ls (s.2++[x])=_
     unfold dirN dirX;rw [hstep]
    rw [e1];refine List.map_congr_left fun x _=>?_
    show ((stepV up ls s.1 x).2.1,s.2++[x])=((atM up ls (s.2++[x])).2.1,s.2++[x])
    rw [hstep]
   rw [tour_some hs,tourN_some hs,List.filter_append,List.map_append,←hn]
   show (tourS up ls k).1++nextS up ls s=_
   rw [ih]
   rfl
theorem tour_cnt (up : List NodV) (ls : List (List NodV)) : ∀ k, (tourN up ls k).length = (((tourS up ls k).1.take k).map (fun s => (keptS up ls s.1).length)).sum
 | 0=>rfl
 | k+1=>by
  have ih:=tour_cnt up ls k
  cases hs:(tourS up ls k).1[k]? with
  | none =>
   have hk:(tourS up ls k).1.length≤k:=by simpa using hs
   rw [(tourN_none hs).1,(tourN_none hs).2,ih,List.take_of_length_le hk,List.take_of_length_le (by omega)]
  | some s =>
   have hk:=(List.getElem?_eq_some_iff.1 hs).1;rw [tourN_some hs,tour_some hs,List.length_append,ih]
   show _=((((tourS up ls k).1++nextS up ls s).take (k+1)).map _).sum
   rw [List.take_append_of_le_length (by omega),List.take_add_one,hs];simp [toldN]
def cntN (up:List NodV) (ls:List (List NodV)) (n:List (List UInt8)):Nat:=if (atM up ls n).1=1 then (namesV up ls (atM up ls n).2.1).length else 0
theorem kept_all {up:List NodV} {ls:List (List NodV)} (h:twiceS up (walkW up [1])=[]) (v:ViewV):keptS up ls v=namesV up ls v:=by
 unfold keptS;rw [List.filter_eq_self];intro x _;unfold againS;rw [h]
 split <;> simp
theorem sum_dirs (up : List NodV) (ls : List (List NodV)) : ∀ l : List (List (List UInt8)), (((l.filter (dirN up ls)).map (viewN up ls)).map (fun s => (namesV up ls s.1).length)).sum = (l.map (cntN up ls)).sum
 | []=>rfl
 | n::r=>by
  have ih:=sum_dirs up ls r
  rw [List.map_cons,List.sum_cons]
  by_cases h:(atM up ls n).1=1
  ·rw [List.filter_cons_of_pos (by simpa [dirN] using h),List.map_cons,List.map_cons,List.sum_cons,ih]
   congr 1
   show (namesV up ls (atM up ls n).2.1).length=cntN up ls n
   unfold cntN;rw [if_pos h]
  ·rw [List.filter_cons_of_neg (by simpa [dirN] using h),ih]
   unfold cntN;rw [if_neg h,Nat.zero_add]
def nsOf (l:List ShnV):List (List (List UInt8)):=l.map (fun x=>splitS x.1)
theorem all_names {up:List NodV} {ls:List (List NodV)} (hF:FewL ls) (hup:FewU up) (ht:ls.any tangB=false):nsOf (allS up ls)=tourN up ls 1800∧allS up ls=(tourN up ls 1800).map (atX up ls):=by
 have e:allS up ls=(tourN up ls 1800).map (atX up ls):=by
  unfold allS;rw [if_neg (by rw [ht];simp)];exact (tour_at up ls 1800).2
 refine ⟨?_,e⟩;unfold nsOf;rw [e,List.map_map]
 conv=>rhs;rw [←List.map_id (tourN up ls 1800)]
 refine List.map_congr_left fun n hn=>?_;exact (told_split ((tour_good hF hup 1800).1 n hn)).2
theorem all_count {up:List NodV} {ls:List (List NodV)} (hF:FewL ls) (hup:FewU up) (ht:ls.any tangB=false) (h2:twiceS up (walkW up [1])=[]):(allS up ls).length=(namesV up ls (rootV up ls)).length+((nsOf (allS up ls)).map (cntN up ls)).sum:=by
 have hT:=tang_tree ht;have hk:=(tour_pot hT hF hup 1800).2.2;obtain ⟨e1,e2⟩:=all_names hF hup ht;rw [e1,e2,List.length_map,tour_cnt,List.take_of_length_le hk,tour_stops,List.map_cons,List.sum_cons];rw [show (fun s:StopV=>(keptS up ls s.1).length)=(fun s=>(namesV up ls s.1).length) from funext fun s=>by rw [kept_all h2],sum_dirs,kept_all h2]
def cntK (up:List NodV) (ls:List (List NodV)) (l:List ShnV) (j:Nat):Nat:=(namesV up ls (rootV up ls)).length+(((nsOf l).take j).map (cntN up ls)).sum
theorem cntK_succ {up:List NodV} {ls:List (List NodV)} {l:List ShnV} {j:Nat} {x:ShnV} (h:l[j]?=some x):cntK up ls l (j+1)=cntK up ls l j+cntN up ls (splitS x.1):=by
 have h1:(nsOf l)[j]?=some (splitS x.1):=by unfold nsOf;rw [List.getElem?_map,h];rfl
 unfold cntK;rw [List.take_add_one,h1];simp;omega
theorem atM_few {up:List NodV} {ls:List (List NodV)} (n:List (List UInt8)):(atM up ls n).2.1.2.length≤ls.length:=by
 induction n using snoc_ind with
 | h0=>exact rootV_len up ls
 | h1 l x ih =>
  rw [at_snoc];exact go_few ih
theorem cntN_few {up:List NodV} {ls:List (List NodV)} (hF:FewL ls) (hup:FewU up) (n:List (List UInt8)):cntN up ls n≤100000:=by
 unfold cntN
 split
 ·exact names_fewS hF hup (by have:=atM_few (up:=up) (ls:=ls) n;have:=hF.1;omega)
 ·omega
theorem cntK_few {up : List NodV} {ls : List (List NodV)} (hF : FewL ls) (hup : FewU up) (l : List ShnV) : ∀ j, cntK up ls l j ≤ 100000 * (j + 1)
 | 0=>by
  have h1:=names_fewS (up:=up) (v:=rootV up ls) hF hup (by have:=rootV_len up ls;have:=hF.1;omega);unfold cntK;simp;omega
 | j+1=>by
  have ih:=cntK_few hF hup l j
  cases h:l[j]? with
  | none =>
   have:cntK up ls l (j+1)=cntK up ls l j:=by
    have hl:(nsOf l).length≤j:=by unfold nsOf;rw [List.length_map];simpa using h
    unfold cntK;rw [List.take_of_length_le hl,List.take_of_length_le (by omega)]
   omega
  | some x =>
   have h2:=cntN_few hF hup (splitS x.1);rw [cntK_succ h];omega
theorem cntK_all {up:List NodV} {ls:List (List NodV)} (hF:FewL ls) (hup:FewU up) (ht:ls.any tangB=false) (h2:twiceS up (walkW up [1])=[]):cntK up ls (allS up ls) (allS up ls).length=(allS up ls).length:=by
 have h1:=all_count hF hup ht h2
 have hl:(nsOf (allS up ls)).length≤(allS up ls).length:=by unfold nsOf;rw [List.length_map];omega
 unfold cntK;rw [List.take_of_length_le hl];omega
end Go.Proofs.YtmhiohnkjpglfaaGreat

namespace Go.Proofs.YtmhiohnkjpglfaaGreat
open Go.RowKit Go.Shelf Plain

set_option maxRecDepth 100000 in
set_option maxHeartbeats 4000000 in
theorem RTrees_any {g:GeoQ} {AU AL:Option Addr} {nU cU nL cL B:Nat} {up:List NodV} {ls:List (List NodV)} (w:World) (hu:RdE nodEn w (Under B) AU nU up) (h:RdE layEn w (Under B) AL nL ls) (hB:B≤w.heap.size) (hF:FewL ls) (hup:FewU up):Calls Tryz.prog 26 #[.agg (stkC g (.slice AU nU cU) (.slice AL nL cL)).toArray] w (BoolB w (!(ls.any tangB))):=by
 obtain ⟨W1,hW1⟩:∃W1,(w.alloc (.cells (stkC g (.slice AU nU cU) (.slice AL nL cL)).toArray 29))=W1:=⟨_,rfl⟩;obtain ⟨r0,hb1,hs1⟩:=rowA1 w _ _ hW1;have hW1':(w.alloc (.cells #[.int .i64 g.a,.int .i64 g.b,.int .i64 g.c,.int .i64 g.d,.slice AU nU cU,.slice AL nL cL] 29))=W1:=hW1;have R1:=hide r0;have HB:=hide hb1;have hsz0:=hb1.size;have HU:=hide (hu.under hb1 hB);have HL:=hide (h.under hb1 hB);have HF:=hide hF;have HFU:=hide hup
 have hs1':w.heap.size+1≤W1.heap.size:=by omega
 have hMl:∀ns∈ls,Many ns:=fun ns hns=>(plain_many (HF.out.2 ns hns).1 (HF.out.2 ns hns).2).1;have HML:=hide hMl;have hlL:ls.length=nL:=HL.out.1
 have hnL:nL≤3:=by have h1:=HF.out.1;omega
 unfold stkC;clear r0 hb1 hW1 hu h hF hup hs1 hMl
 go_enter Tryz.func26,Tryz.ntmps26
 go_wp2_with fail
 go_loopw [3] (fun v3 wr=>∃j:Nat,j≤nL∧v3=.int .i64 j∧(∀i ns,i < j→ls[i]?=some ns→tangB ns=false)∧Below W1.heap.size W1 wr) (fun v3 _=>nL - (intOf v3).toNat)
 case atStart=>exact ⟨0,by omega,rfl,fun i ns hi=>by omega,qj _⟩
 case round =>
  obtain ⟨j,hj,rfl,hall,hbr⟩:=hrel;have HALL:=hide hall;have HBR:=hide hbr;have hbs:=hbr.size
  have q5:wr.cell? ⟨w.heap.size,5,none⟩=some (.slice AL nL cL):=(R1.out.on hbr).cell 5
  have HLr:=hide (HL.out.under hbr (by omega));clear hall hbr
  by_cases hlt:j < nL
  ·obtain ⟨ns,hx⟩:∃ns,ls[j]?=some ns:=⟨_,List.getElem?_eq_getElem (by omega)⟩
   obtain ⟨b,o,rfl,hbB,A2,n2,c2,hc,hc2,hN2⟩:=RdE.get_list (F:=nodEn) (und_up HLr.out (by omega)) hx;have HN2:=hide hN2
   have q:wr.cell? ⟨b,o+j,none⟩=some (.slice A2 n2 c2):=hc
   have HX:=hide hx;have hm:=HML.out ns (List.mem_of_getElem? hx);have HM:=hide hm
   have hjn:(j:Int) < (nL:Int):=by omega
   clear hx hN2 hc hm
   go_wp2_with fail
   refine (RTwice_any _ (HN2.out.on (qq (qj wr) (.cells #[.int .i64 1] 3))) (int_oneS wr) HM.out (by omega)).mono ?_
   rintro e1 wD ⟨A7,c7,rfl,-,hbel0⟩
   have HBD:=hide (HBR.out.trans (((qq (qj wr) (.cells #[.int .i64 1] 3)).trans (hbel0.mono (by simp))).mono (by omega)));clear hbel0
   have htg:tangB ns=decide ((twiceS ns (walkW ns [1])).length≠0):=by
    unfold tangB
    cases twiceS ns (walkW ns [1]) <;> simp
   obtain ⟨m,hm⟩:∃m,(twiceS ns (walkW ns [1])).length=m:=⟨_,rfl⟩;rw [hm] at htg ⊢;have HTG:=hide htg;clear htg hm
   by_cases h0:m=0
   ·subst h0
    go_wp2_with fail
    go_roundw
    case rel=>exact ⟨j+1,by omega,by go_num,fun i y hi hy=>by
     by_cases e:i=j
     ·subst e
      have:=HX.out.symm.trans hy
      cases this
      rw [HTG.out];simp
     ·exact HALL.out i y (by omega) hy,HBD.out⟩
    case measure=>simp [intOf];omega
   ·have hm0:(0:Int) < (m:Int):=by omega
    go_wp2_with fail
    go_ret
    refine BoolB.eq ?_ (HB.out.trans (HBD.out.mono (by omega)));have h1:ls.any tangB=true:=List.any_eq_true.2 ⟨ns,List.mem_of_getElem? HX.out,by rw [HTG.out];simpa using h0⟩;rw [h1]
    rfl
  ·obtain rfl:j=nL:=by omega
   have hjn:¬((j:Int) < (j:Int)):=by omega
   go_wp2_with fail
   go_ret
   refine BoolB.eq ?_ (HB.out.trans (HBR.out.mono (by omega)))
   have h1:ls.any tangB=false:=by
    rw [List.any_eq_false];intro ns hns;obtain ⟨i,hi,rfl⟩:=List.mem_iff_getElem.1 hns;rw [HALL.out i _ (by omega) (List.getElem?_eq_getElem hi)];simp
   rw [h1]
   rfl
end Go.Proofs.YtmhiohnkjpglfaaGreat

