import Derived.Test.YtmhiohnkjpglfaaGreatSo34
import Derived.Test.YtmhiohnkjpglfaaGreatSo29

namespace Go.Proofs.YtmhiohnkjpglfaaGreat
open Go.RowKit Go.Shelf Plain

set_option maxRecDepth 100000 in
set_option maxHeartbeats 8000000 in
theorem MStep_any {g:GeoQ} {AU AL:Option Addr} {nU cU nL cL B:Nat} {up:List NodV} {ls:List (List NodV)} {u:Int} {AV:Option Addr} {nV cV BV:Nat} {vl:List (Int×Int)} {k:Int} {p:Int×Int} {nm:List UInt8} {S:StepV} (hS:goM up ls (k,(u,vl),p) nm=S) (w:World) (hu:RdE nodEn w (Under B) AU nU up) (h:RdE layEn w (Under B) AL nL ls) (hB:B≤w.heap.size) (hF:FewL ls) (hup:FewU up) (hv:RdE prEn w (Under BV) AV nV vl) (hBV:BV≤w.heap.size) (hnV:nV≤1000):Calls Tryz.prog 66 #[.agg (comC (k,(u,vl),p) (.slice AV nV cV)).toArray,.agg (stkC g (.slice AU nU cU) (.slice AL nL cL)).toArray,.string ⟨nm.toArray⟩] w (ComF w.heap.size w S):=by
 obtain ⟨W1,hW1⟩:∃W1,(((w.alloc (.cells (comC (k,(u,vl),p) (.slice AV nV cV)).toArray 115)).alloc (.cells (stkC g (.slice AU nU cU) (.slice AL nL cL)).toArray 29)).alloc (.cells (comC noStep (.slice none 0 0)).toArray 115))=W1:=⟨_,rfl⟩
 obtain ⟨r0,r1,r2,hb1,hs1⟩:=rowA3 w _ _ _ _ _ _ hW1
 have hW1':(((w.alloc (.cells #[.int .i64 u,.slice AV nV cV,.int .i64 p.1,.int .i64 p.2,.int .i64 k] 115)).alloc (.cells #[.int .i64 g.a,.int .i64 g.b,.int .i64 g.c,.int .i64 g.d,.slice AU nU cU,.slice AL nL cL] 29)).alloc (.cells #[.int .i64 0,.slice none 0 0,.int .i64 0,.int .i64 0,.int .i64 0] 115))=W1:=hW1
 have R3:=hide r0
 have R4:=hide r1
 have R6:=hide r2
 have HB:=hide hb1
 have hsz0:=hb1.size
 have HU:=hide (hu.under hb1 hB)
 have HL:=hide (h.under hb1 hB)
 have HF:=hide hF
 have HFU:=hide hup
 have HV:=hide (hv.under hb1 hBV)
 have q3_4:W1.cell? ⟨w.heap.size,4,none⟩=some (.int .i64 k):=R3.out.cell 4
 unfold stkC comC
 dsimp only
 unfold goM at hS
 dsimp only at hS
 by_cases hk:k=1
 ·rw [if_pos hk] at hS
  have HS:=hide hS
  have hk1:(k != 1)=false:=by simpa using hk
  clear r0 r1 r2 hb1 hW1 hu h hF hup hv hS hk
  go_enter Tryz.func66,Tryz.ntmps66
  go_wp2_with (first|(refine wpList_loadW rfl 29 (.tmp 4) rfl 6 stk_agg stk_size (w.heap.size+1) 29 rfl (stkC g (.slice AU nU cU) (.slice AL nL cL)) R4.out rfl ?_)|(refine wpList_loadC rfl 51 (.tmp 16) rfl 2 viw_agg viw_size (w.heap.size) 0 115 rfl (comC (k,(u,vl),p) (.slice AV nV cV)) (viwC u (.slice AV nV cV)) R3.out rfl rfl ?_)|(go_at_call 106;refine (VStep_any (u:=u) (cV:=cV) HS.out W1 HU.out HL.out (by omega) HF.out HFU.out HV.out (by omega) hnV).mono ?_;rintro e1 wV ⟨A9,c9,rfl,h9,hbel⟩;clear q3_4;replace HB:=hide (HB.out.trans (hbel.mono HB.out.size));replace R3:=hide (R3.out.on hbel);replace R4:=hide (R4.out.on hbel);replace R6:=hide (R6.out.on hbel);replace HU:=hide (HU.out.under hbel (by omega));replace HL:=hide (HL.out.under hbel (by omega));replace HV:=hide (HV.out.under hbel (by omega));have hsz2:=hbel.size;have q3_4:wV.cell? ⟨w.heap.size,4,none⟩=some (.int .i64 k):=R3.out.cell 4;have H9:=hide h9;clear h9;clear hbel)|(obtain ⟨hz8,hz9,hzb,hzs⟩:=rows2 wV (viwC 0 (.slice none 0 0)) (prC (0,0)) 51 31;refine wpList_storeW rfl 51 (.tmp 8) (.tmp 21) rfl 2 viw_size (wV.heap.size) 51 rfl (viwC 0 (.slice none 0 0)) (viwC S.2.1.1 (.slice A9 S.2.1.2.length c9)) rfl hz8 rfl rfl (viwC_one _ _ _ _) ?_;intro wS3 hr3 hg3 hs3;replace hzb:=hzb.grown hg3 hzb.size (pu4 (by omega));replace hz9:=hz9.grown hg3 (pu5 (by omega));have hz8:=hr3;clear hg3 hs3 hr3)|(refine wpList_storeW rfl 31 (.tmp 9) (.tmp 22) rfl 2 plc_size (wV.heap.size+1) 31 rfl (prC (0,0)) (prC S.2.2) rfl hz9 rfl rfl (prC_one _) ?_;intro wS4 hr4 hg4 hs4;replace hzb:=hzb.grown hg4 hzb.size (pu4 (by omega));replace hz8:=hz8.grown hg4 (pu5 (by omega));have hz9:=hr4;clear q3_4;replace HB:=hide (HB.out.trans (hzb.mono HB.out.size));replace R3:=hide (R3.out.on hzb);replace R4:=hide (R4.out.on hzb);replace R6:=hide (R6.out.on hzb);replace HU:=hide (HU.out.under hzb (by omega));replace HL:=hide (HL.out.under hzb (by omega));replace HV:=hide (HV.out.under hzb (by omega));replace H9:=hide (btw_on H9.out hzb (by omega));have hsz5:=hzb.size;have q3_4:wS4.cell? ⟨w.heap.size,4,none⟩=some (.int .i64 k):=R3.out.cell 4;have R8:=hide hz8;have hlt3:=hz8.lt;have R9:=hide hz9;have hlt4:=hz9.lt;clear hzb hzs hz8 hz9;clear hg4 hs4)|(refine wpList_loadW rfl 51 (.tmp 8) rfl 2 viw_agg viw_size (wV.heap.size) 51 rfl [.int .i64 S.2.1.1,.slice A9 S.2.1.2.length c9] R8.out rfl ?_)|(refine wpList_loadW rfl 31 (.tmp 9) rfl 2 plc_agg plc_size (wV.heap.size+1) 31 rfl [.int .i64 S.2.2.1,.int .i64 S.2.2.2] R9.out rfl ?_)|(refine wpList_storeW rfl 115 (.tmp 6) (.tmp 26) rfl 5 com_size (w.heap.size+1+1) 115 rfl (comC noStep (.slice none 0 0)) (comC S (.slice A9 S.2.1.2.length c9)) rfl R6.out rfl rfl (comC_one _ _ _ _) ?_;intro wS6 hr6 hg6 hs6;clear q3_4;replace HB:=hide (HB.out.grown hg6 (by omega) (pu4 (by omega)));replace R3:=hide (R3.out.grown hg6 (pu5 (by omega)));replace R4:=hide (R4.out.grown hg6 (pu5 (by omega)));replace HU:=hide (und_grown HU.out hg6 (by omega) (by omega));replace HL:=hide (und_grown HL.out hg6 (by omega) (by omega));replace HV:=hide (und_grown HV.out hg6 (by omega) (by omega));replace H9:=hide (btw_grown H9.out hg6 (by omega) (by omega));replace R8:=hide (R8.out.grown hg6 (pu5 (by omega)));replace R9:=hide (R9.out.grown hg6 (pu5 (by omega)));have hsz7:=hg6.size;replace R6:=hide hr6;have q3_4:wS6.cell? ⟨w.heap.size,4,none⟩=some (.int .i64 k):=R3.out.cell 4;clear hr6 hg6 hs6))
  exact bodyPost_ret (res_cell Tryz.results66 rfl com_agg com_size R6.out rfl) rfl ⟨A9,c9,rfl,fr_low (fr_btw H9.out (by omega)) (by omega),HB.out⟩
 ·rw [if_neg hk] at hS
  subst hS
  have hk1:(k != 1)=true:=by simpa using hk
  clear r0 r1 r2 hb1 hW1 hu h hF hup hv hk
  go_enter Tryz.func66,Tryz.ntmps66
  go_wp2_with (first|(refine wpList_storeW rfl 115 (.tmp 6) (.tmp 13) rfl 5 com_size (w.heap.size+1+1) 115 rfl (comC noStep (.slice none 0 0)) (comC (0,(0,[]),(0,0)) (.slice none 0 0)) rfl R6.out rfl rfl (comC_one _ _ _ _) ?_;intro wS1 hr1 hg1 hs1;clear q3_4;replace HB:=hide (HB.out.grown hg1 (by omega) (pu4 (by omega)));replace R3:=hide (R3.out.grown hg1 (pu5 (by omega)));replace R4:=hide (R4.out.grown hg1 (pu5 (by omega)));replace HU:=hide (und_grown HU.out hg1 (by omega) (by omega));replace HL:=hide (und_grown HL.out hg1 (by omega) (by omega));replace HV:=hide (und_grown HV.out hg1 (by omega) (by omega));have hsz2:=hg1.size;replace R6:=hide hr1;have q3_4:wS1.cell? ⟨w.heap.size,4,none⟩=some (.int .i64 k):=R3.out.cell 4;clear hr1 hg1 hs1))
  exact bodyPost_ret (res_cell Tryz.results66 rfl com_agg com_size R6.out rfl) rfl ⟨none,0,rfl,RdE.none_ _ _ _ _,HB.out⟩
theorem MStep_s {g:GeoQ} {AU AL:Option Addr} {nU cU nL cL B:Nat} {up:List NodV} {ls:List (List NodV)} {AV:Option Addr} {nV cV BV:Nat} {nm:List UInt8} {C S:StepV} (hS:goM up ls C nm=S) (w:World) (hu:RdE nodEn w (Under B) AU nU up) (h:RdE layEn w (Under B) AL nL ls) (hB:B≤w.heap.size) (hF:FewL ls) (hup:FewU up) (hv:RdE prEn w (Under BV) AV nV C.2.1.2) (hBV:BV≤w.heap.size) (hnV:nV≤1000):Calls Tryz.prog 66 #[.agg (comC C (.slice AV nV cV)).toArray,.agg (stkC g (.slice AU nU cU) (.slice AL nL cL)).toArray,.string ⟨nm.toArray⟩] w (ComF w.heap.size w S):=by
 obtain ⟨k,⟨u,vl⟩,p⟩:=C
 exact MStep_any hS w hu h hB hF hup hv hBV hnV
theorem row_at {w w':World} {C g t:Nat} {cs:List Value} (h:RowL w g t cs) (hb:Below C w w') (hl:g < C):RowL w' g t cs:=(hb.block g hl).trans h
theorem rd_grown {α:Type} {f:α→Value} {w w':World} {B g n:Nat} {A:Option Addr} {l:List α} (h:Rd f w B A n l) (hg:w.grownBy w' (some g)) (hB:B≤w.heap.size) (hlt:B≤g):Rd f w' B A n l:=⟨h.1,fun hn=>by
 obtain ⟨b,o,e,hb,hc⟩:=h.2 hn
 exact ⟨b,o,e,hb,fun i x hx=>(World.cell?_of_block (w:=w) (a:=⟨b,o+i,none⟩) (hg.block b (by omega) (pu5 (by omega)))).trans (hc i x hx)⟩⟩
def Cut (lo g:Nat) (w:World) (b:Nat):Prop:=lo≤b∧b < w.heap.size∧b≠g
theorem cut_on {α:Type} {E:Enc α} {w w':World} {lo g:Nat} {A:Option Addr} {n:Nat} {l:List α} (h:RdE E w (Cut lo g w) A n l) (hb:Below w.heap.size w w'):RdE E w' (Cut lo g w') A n l:=h.mono (fun _ hk=>hb.block _ hk.2.1) (fun _ hk=>⟨hk.1,Nat.lt_of_lt_of_le hk.2.1 hb.size,hk.2.2⟩)
theorem cut_grown {α:Type} {E:Enc α} {w w':World} {lo g:Nat} {A:Option Addr} {n:Nat} {l:List α} (h:RdE E w (Cut lo g w) A n l) (hg:w.grownBy w' (some g)):RdE E w' (Cut lo g w') A n l:=h.mono (fun _ hk=>hg.block _ hk.2.1 (fun e=>hk.2.2 (Option.some.inj e))) (fun _ hk=>⟨hk.1,Nat.lt_of_lt_of_le hk.2.1 hg.size,hk.2.2⟩)
theorem cut_und {α:Type} {E:Enc α} {w:World} {lo g:Nat} {A:Option Addr} {n:Nat} {l:List α} (h:RdE E w (Cut lo g w) A n l):RdE E w (Under w.heap.size) A n l:=h.mono (fun _ _=>rfl) (fun _ hk=>hk.2.1)
theorem cut_fr {α:Type} {E:Enc α} {w:World} {lo g:Nat} {A:Option Addr} {n:Nat} {l:List α} (h:RdE E w (Cut lo g w) A n l):RdE E w (fun b=>lo≤b∧b < w.heap.size) A n l:=h.mono (fun _ _=>rfl) (fun _ hk=>⟨hk.1,hk.2.1⟩)
theorem fr_cut {α:Type} {E:Enc α} {w:World} {lo lo' g:Nat} {A:Option Addr} {n:Nat} {l:List α} (h:RdE E w (fun b=>lo'≤b∧b < w.heap.size) A n l) (hl:lo≤lo') (hg:g < lo'):RdE E w (Cut lo g w) A n l:=h.mono (fun _ _=>rfl) (fun _ hk=>⟨Nat.le_trans hl hk.1,hk.2,by omega⟩)
theorem btw_cut {α:Type} {E:Enc α} {w:World} {lo hi:Nat} {A:Option Addr} {n:Nat} {l:List α} (h:RdE E w (fun b=>lo≤b∧b < hi) A n l) (hh:hi < w.heap.size):RdE E w (Cut lo hi w) A n l:=h.mono (fun _ _=>rfl) (fun _ hk=>⟨hk.1,by omega,by omega⟩)
set_option maxRecDepth 100000 in
set_option maxHeartbeats 8000000 in
theorem MAt_any {g:GeoQ} {AU AL:Option Addr} {nU cU nL cL B:Nat} {up:List NodV} {ls:List (List NodV)} {AN:Option Addr} {nN cN:Nat} {names:List (List UInt8)} {R:StepV} (hR:atM up ls names=R) (w:World) (hu:RdE nodEn w (Under B) AU nU up) (h:RdE layEn w (Under B) AL nL ls) (hB:B≤w.heap.size) (hF:FewL ls) (hup:FewU up) {BN:Nat} (hn:Rd st w BN AN nN names) (hBN:BN≤w.heap.size) (hnN:nN≤100000000):Calls Tryz.prog 24 #[.agg (stkC g (.slice AU nU cU) (.slice AL nL cL)).toArray,.slice AN nN cN] w (StepF w.heap.size w R):=by
 obtain ⟨W1,hW1⟩:∃W1,(((w.alloc (.cells (stkC g (.slice AU nU cU) (.slice AL nL cL)).toArray 29)).alloc (.cells (viwC 0 (.slice none 0 0)).toArray 51)).alloc (.cells (prC (0,0)).toArray 31))=W1:=⟨_,rfl⟩
 obtain ⟨r0,r1,r2,hb1,hs1⟩:=rowA3 w _ _ _ _ _ _ hW1
 have hW1':(((w.alloc (.cells #[.int .i64 g.a,.int .i64 g.b,.int .i64 g.c,.int .i64 g.d,.slice AU nU cU,.slice AL nL cL] 29)).alloc (.cells #[.int .i64 0,.slice none 0 0] 51)).alloc (.cells #[.int .i64 0,.int .i64 0] 31))=W1:=hW1
 have R2:=hide r0
 have R5:=hide r1
 have R6:=hide r2
 have HB:=hide hb1
 have hsz0:=hb1.size
 have HU:=hide (hu.under hb1 hB)
 have HL:=hide (h.under hb1 hB)
 have HF:=hide hF
 have HFU:=hide hup
 have HN:=hide (hn.below (hb1.mono hBN))
 have HR:=hide hR
 have hll:ls.length≤100:=by have:=hF.1;omega
 obtain ⟨M,hM⟩:∃M,beginM up ls=M:=⟨_,rfl⟩
 have HM:=hide hM
 have hnl:names.length=nN:=hn.1
 unfold stkC
 clear r0 r1 r2 hb1 hW1 hu h hF hup hn hM hR
 go_enter Tryz.func24,Tryz.ntmps24
 go_wp2_with (first|(refine wpList_loadW rfl 29 (.tmp 2) rfl 6 stk_agg stk_size (w.heap.size) 29 rfl (stkC g (.slice AU nU cU) (.slice AL nL cL)) R2.out rfl ?_)|(go_at_call 65;refine ((by rw [←HM.out];exact MBegin_any W1 HU.out HL.out (by omega) HF.out HFU.out:Calls Tryz.prog _ _ _ (ComF W1.heap.size W1 M))).mono ?_;rintro e1 wB ⟨A8,c8,rfl,h8,hbel⟩;replace HB:=hide (HB.out.trans (hbel.mono HB.out.size));replace R2:=hide (R2.out.on hbel);replace R5:=hide (R5.out.on hbel);replace R6:=hide (R6.out.on hbel);replace HU:=hide (HU.out.under hbel (by omega));replace HL:=hide (HL.out.under hbel (by omega));replace HN:=hide (HN.out.below (hbel.mono (by omega)));have hsz2:=hbel.size;have H8:=hide h8;clear h8;clear hbel)|(refine wpList_storeW rfl 115 (.tmp 7) (.tmp 11) rfl 5 com_size (wB.heap.size) 115 rfl (comC noStep (.slice none 0 0)) (comC M (.slice A8 M.2.1.2.length c8)) rfl (RowL.new wB 115 (comC noStep (.slice none 0 0))) rfl rfl (comC_one _ _ _ _) ?_;intro wS3 hr3 hg3 hs3;have hzb:=below_stored' hg3;replace HB:=hide (HB.out.trans (hzb.mono HB.out.size));replace R2:=hide (R2.out.on hzb);replace R5:=hide (R5.out.on hzb);replace R6:=hide (R6.out.on hzb);replace HU:=hide (HU.out.under hzb (by omega));replace HL:=hide (HL.out.under hzb (by omega));replace HN:=hide (HN.out.below (hzb.mono (by omega)));replace H8:=hide (btw_on H8.out hzb (by omega));have hsz4:=hzb.size;have R7:=hide hr3;have hlt3:=hr3.lt;have q7_4:wS3.cell? ⟨wB.heap.size,4,none⟩=some (.int .i64 M.1):=R7.out.cell 4;clear hzb hr3;clear hg3 hs3))
 clear hW1' q7_4
 go_loopw [14] (fun v14 wr=>∃j:Nat,j≤nN∧v14=.int .i64 j∧(∃A c,RowL wr (wB.heap.size) 115 (comC (atM up ls (names.take j)) (.slice A (atM up ls (names.take j)).2.1.2.length c))∧RdE prEn wr (Cut W1.heap.size (wB.heap.size) wr) A (atM up ls (names.take j)).2.1.2.length (atM up ls (names.take j)).2.1.2)∧Below (wB.heap.size) wS3 wr) (fun v14 _=>nN - (intOf v14).toNat)
 case atStart=>exact ⟨0,by omega,rfl,⟨A8,c8,by rw [List.take_zero,show atM up ls []=M from HM.out];exact R7.out,by rw [List.take_zero,show atM up ls []=M from HM.out];exact btw_cut H8.out (by omega)⟩,Below.refl _ _⟩
 case round =>
  obtain ⟨j,hj,rfl,⟨A5,c5,hr7,h5⟩,hbr⟩:=hrel
  clear R7 H8
  have hbsz:=hbr.size
  replace HB:=hide (HB.out.trans (hbr.mono (by omega)))
  replace R2:=hide (row_at R2.out hbr (by omega))
  replace R5:=hide (row_at R5.out hbr (by omega))
  replace R6:=hide (row_at R6.out hbr (by omega))
  replace HU:=hide (und_at HU.out hbr (by omega))
  replace HL:=hide (und_at HL.out hbr (by omega))
  replace HN:=hide (HN.out.below (hbr.mono (by omega)))
  have HBR:=hide hbr
  obtain ⟨S,hS⟩:∃S,atM up ls (names.take j)=S:=⟨_,rfl⟩
  have hSn:S.2.1.2.length≤1000:=by rw [←hS];have:=at_few up ls (names.take j);omega
  have HSS:=hide hS
  rw [hS] at hr7 h5
  have R7:=hide hr7
  have H5:=hide h5
  clear hbr hS hr7 h5
  by_cases hlt:j < nN
  ·have hjn:(j:Int) < (nN:Int):=by omega
   obtain ⟨x,hx⟩:∃x,names[j]?=some x:=⟨_,List.getElem?_eq_getElem (by omega)⟩
   obtain ⟨bS,oS,rfl,hbS,qS⟩:=st_cell HN.out hx
   obtain ⟨G,hG⟩:∃G,goM up ls S x=G:=⟨_,rfl⟩
   have HTK:=hide (show atM up ls (names.take (j+1))=G from by rw [at_take up ls hx,HSS.out,hG])
   have HG:=hide hG
   clear hG hx
   go_wp2_with (first|(refine wpList_loadW rfl 115 (.tmp 7) rfl 5 com_agg com_size (wB.heap.size) 115 rfl (comC S (.slice A5 S.2.1.2.length c5)) R7.out rfl ?_)|(refine wpList_loadW rfl 29 (.tmp 2) rfl 6 stk_agg stk_size (w.heap.size) 29 rfl (stkC g (.slice AU nU cU) (.slice AL nL cL)) R2.out rfl ?_)|(go_at_call 66;refine (MStep_s HG.out wr HU.out HL.out (by omega) HF.out HFU.out (cut_und H5.out) (Nat.le_refl _) hSn).mono ?_;rintro e41 wC ⟨A9,c9,rfl,h9,hbel⟩;replace HB:=hide (HB.out.trans (hbel.mono HB.out.size));replace R2:=hide (R2.out.on hbel);replace R5:=hide (R5.out.on hbel);replace R6:=hide (R6.out.on hbel);replace HU:=hide (HU.out.under hbel (by omega));replace HL:=hide (HL.out.under hbel (by omega));replace HN:=hide (HN.out.below (hbel.mono (by omega)));replace R7:=hide (R7.out.on hbel);replace H5:=hide (cut_on H5.out hbel);replace HBR:=hide (HBR.out.trans (hbel.mono (by omega)));have hsz42:=hbel.size;have H9:=hide h9;clear h9;clear hbel)|(refine wpList_storeW rfl 115 (.tmp 7) (.tmp 21) rfl 5 com_size (wB.heap.size) 115 rfl (comC S (.slice A5 S.2.1.2.length c5)) (comC G (.slice A9 G.2.1.2.length c9)) rfl R7.out rfl rfl (comC_one _ _ _ _) ?_;intro wS43 hr43 hg43 hs43;replace HB:=hide (HB.out.grown hg43 (by omega) (pu4 (by omega)));replace R2:=hide (R2.out.grown hg43 (pu5 (by omega)));replace R5:=hide (R5.out.grown hg43 (pu5 (by omega)));replace R6:=hide (R6.out.grown hg43 (pu5 (by omega)));replace HU:=hide (und_grown HU.out hg43 (by omega) (by omega));replace HL:=hide (und_grown HL.out hg43 (by omega) (by omega));replace HN:=hide (rd_grown HN.out hg43 (by omega) (by omega));replace H5:=hide (cut_grown H5.out hg43);replace HBR:=hide (HBR.out.grown hg43 (by omega) (pu4 (by omega)));replace H9:=hide (fr_grown H9.out hg43 (by omega));have hsz44:=hg43.size;replace R7:=hide hr43;clear hr43 hg43 hs43))
   go_roundw
   case rel=>exact ⟨j+1,by omega,by go_num,⟨A9,c9,by rw [HTK.out];exact R7.out,by rw [HTK.out];exact fr_cut H9.out (by omega) (by omega)⟩,HBR.out⟩
   case measure=>simp [intOf];omega
  ·obtain rfl:j=nN:=by omega
   have hj2:¬(j:Int) < (j:Int):=by omega
   have hSR:S=R:=by rw [←HSS.out,List.take_of_length_le (by omega)];exact HR.out
   subst hSR
   go_wp2_with fail
   refine wp_region_planN (fun w'=>TwoS wr w.heap.size (w.heap.size+1) 51 2 (w.heap.size+1+1) 31 2 w') [(0,true),(1,true),(2,true),(3,true),(4,true),(5,true),(6,true),(7,false),(8,false)] (by kernel_rfl) (by kernel_rfl) (by kernel_rfl) (by kernel_rfl) rfl (fun _ _ _ _ _ h=>h) (TwoS.start (base:=w.heap.size) R5.out rfl R6.out rfl) (fun hHeld=>?_)
   simp only [planOps,List.filterMap_cons,List.filterMap_nil,List.getElem?_toArray,List.getElem?_cons_succ,List.getElem?_cons_zero,Option.map_some]
   refine wpPlan_take (v:=?_) (by kernel_rfl) (fun wS hSw=>?_) ?_
   rotate_left
   ·(try dsimp only at hSw);go_simp;(try with_reducible rfl)
   (try simp only [Act.put,pu1,pu2,pu3])
   refine wpPlan_take (v:=?_) (by kernel_rfl) (fun wS hSw=>?_) ?_
   rotate_left
   ·have qx:=((hSw.row R7.out (by omega) (by omega)).cell 4).trans (show (comC S (.slice A5 S.2.1.2.length c5))[4]?=some (.int .i64 S.1) from rfl);go_simp;(try with_reducible rfl)
   (try simp only [Act.put,pu1,pu2,pu3])
   refine wpPlan_take (v:=?_) (by kernel_rfl) (fun wS hSw=>?_) ?_
   rotate_left
   ·(try dsimp only at hSw);go_simp;(try with_reducible rfl)
   (try simp only [Act.put,pu1,pu2,pu3])
   refine wpPlan_take (v:=?_) (by kernel_rfl) (fun wS hSw=>?_) ?_
   rotate_left
   ·refine execOp_load (x:=.tmp 25) (k:=2) (g:=wB.heap.size) (off:=0) (cs:=(viwC S.2.1.1 (.slice A5 S.2.1.2.length c5))) ?_ viw_agg viw_size ?_ (fun j v hv=>((hSw.row R7.out (by omega) (by omega)).cell (0+j)).trans (sub_cell (cur:=(comC S (.slice A5 S.2.1.2.length c5))) (k:=2) rfl hv)) rfl <;> rfl
   (try simp only [Act.put,pu1,pu2,pu3])
   refine wpPlan_take (v:=?_) (by kernel_rfl) (fun wS hSw=>?_) ?_
   rotate_left
   ·(try dsimp only at hSw);go_simp;(try with_reducible rfl)
   (try simp only [Act.put,pu1,pu2,pu3])
   refine wpPlan_take (v:=?_) (by kernel_rfl) (fun wS hSw=>?_) ?_
   rotate_left
   ·refine execOp_load (x:=.tmp 27) (k:=2) (g:=wB.heap.size) (off:=2) (cs:=(prC S.2.2)) ?_ plc_agg plc_size ?_ (fun j v hv=>((hSw.row R7.out (by omega) (by omega)).cell (2+j)).trans (sub_cell (cur:=(comC S (.slice A5 S.2.1.2.length c5))) (k:=2) rfl hv)) rfl <;> rfl
   (try simp only [Act.put,pu1,pu2,pu3])
   refine wpPlan_take (v:=?_) (by kernel_rfl) (fun wS hSw=>?_) ?_
   rotate_left
   ·(try dsimp only at hSw);go_simp;(try with_reducible rfl)
   (try simp only [Act.put,pu1,pu2,pu3])
   refine wpPlan_call (by kernel_rfl) (fun K hK=>?_)
   have hOld:=hide hHeld
   clear hHeld
   obtain ⟨pk,⟨cu5,p5,l5⟩,p6,pb⟩:=hOld.out
   refine wp_storeC 51 (.tmp 5) (.tmp 26) rfl 2 viw_size (w.heap.size+1) 0 51 rfl cu5 (viwC S.2.1.1 (.slice A5 S.2.1.2.length c5)) rfl p5 rfl (by omega) (viwC_one _ _ _ _) ?_
   intro w' hr' hg' hs'
   rw [splice_all _ _ (by rw [l5];rfl)] at hr'
   refine hK.out _ _ (hOld.out.st5 hg' hr' rfl (by omega) (by omega) (by omega)) (fun hHeld=>?_)
   clear hK K
   have hsO:=hOld.out.2.2.2.size
   have HR5:=hide hr'
   clear hr' hg' hs' pk p5 p6 pb hsO
   (try simp only [Act.put])
   refine wpPlan_call (by kernel_rfl) (fun K hK=>?_)
   have hOld:=hide hHeld
   clear hHeld
   obtain ⟨pk,p5,⟨cu6,p6,l6⟩,pb⟩:=hOld.out
   refine wp_storeC 31 (.tmp 6) (.tmp 28) rfl 2 plc_size (w.heap.size+1+1) 0 31 rfl cu6 (prC S.2.2) rfl p6 rfl (by omega) (prC_one _) ?_
   intro w' hr' hg' hs'
   rw [splice_all _ _ (by rw [l6];rfl)] at hr'
   refine hK.out _ _ (hOld.out.st6 hg' hr' rfl (by omega) (by omega) (by omega)) (fun hHeld=>?_)
   clear hK K
   have hsO:=hOld.out.2.2.2.size
   have HR6:=hide hr'
   replace HR5:=hide (HR5.out.grown hg' (pu5 (by omega)))
   clear hr' hg' hs' pk p5 p6 pb hsO
   (try simp only [Act.put])
   refine wpPlan_end ?_
   have HSF:=hide hHeld
   clear hHeld
   go_wp2_with fail
   exact bodyPost_ret (res_tcc Tryz.results24 rfl rfl rfl viw_agg viw_size plc_agg plc_size HR5.out rfl HR6.out rfl) rfl ⟨A5,c5,rfl,fr_low (HSF.out.fr (cut_fr H5.out) (by omega) (by omega)) (by omega),HB.out.trans HSF.out.2.2.2⟩
end Go.Proofs.YtmhiohnkjpglfaaGreat

