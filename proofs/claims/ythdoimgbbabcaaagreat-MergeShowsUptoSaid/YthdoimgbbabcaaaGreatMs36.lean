import Derived.Test.YthdoimgbbabcaaaGreatMs35
import Derived.Test.YthdoimgbbabcaaaGreatMs28
import Derived.Test.YthdoimgbbabcaaaGreatMs6

namespace Go.Proofs.YthdoimgbbabcaaaGreat
open Go.RowKit Go.Shelf Plain

theorem RSplit_p {s:List UInt8} {l:List (List UInt8)} {b:Bool} (h1:splitS s=l) (h2:splitB s=b) (w:World) (hs:s.length≤1100000):Calls Tryz.prog 86 #[.string ⟨s.toArray⟩] w (LRet w 9 l b):=by
 subst h1 h2
 exact RSplit_any w (by omega)
def SeenU (B:Nat) (w:World) (R:SeenV×Bool) (e:Ending) (w':World):Prop:=∃A n c C m d,e=.returned (.tuple #[.agg (seenC R.1.1 (.slice A n c) (.slice C m d)).toArray,.bool R.2])∧RdE Enc.byte w' (Under B) A n R.1.2.1∧RdE Enc.text w' (fun b=>w.heap.size≤b∧b < w'.heap.size) C m R.1.2.2∧Below w.heap.size w w'
set_option maxRecDepth 100000 in
set_option maxHeartbeats 8000000 in
theorem RMOf_any {g:GeoQ} {AU AL:Option Addr} {nU cU nL cL B:Nat} {up:List NodV} {ls:List (List NodV)} {s:List UInt8} (w:World) (hu:RdE nodEn w (Under B) AU nU up) (h:RdE layEn w (Under B) AL nL ls) (hB:B≤w.heap.size) (hF:FewL ls) (hup:FewU up) (hs:s.length≤1100000):Calls Tryz.prog 28 #[.agg (stkC g (.slice AU nU cU) (.slice AL nL cL)).toArray,.string ⟨s.toArray⟩] w (SeenU B w (ofM up ls s)):=by
 obtain ⟨W1,hW1⟩:∃W1,((w.alloc (.cells (stkC g (.slice AU nU cU) (.slice AL nL cL)).toArray 29)).alloc (.cells (seenC 0 (.slice none 0 0) (.slice none 0 0)).toArray 61))=W1:=⟨_,rfl⟩
 obtain ⟨r0,r1,hb1,hs1⟩:=rowA2 w _ _ _ _ hW1
 have hW1':((w.alloc (.cells #[.int .i64 g.a,.int .i64 g.b,.int .i64 g.c,.int .i64 g.d,.slice AU nU cU,.slice AL nL cL] 29)).alloc (.cells #[.int .i64 0,.slice none 0 0,.slice none 0 0] 61))=W1:=hW1
 have R2:=hide r0
 have R4:=hide r1
 have HB:=hide hb1
 have hsz0:=hb1.size
 have HU:=hide (hu.under hb1 hB)
 have HL:=hide (h.under hb1 hB)
 have HF:=hide hF
 have HFU:=hide hup
 have hll:ls.length≤100:=by have:=hF.1;omega
 obtain ⟨sl,hsl⟩:∃sl,splitS s=sl:=⟨_,rfl⟩
 obtain ⟨b,hsb⟩:∃b,splitB s=b:=⟨_,rfl⟩
 have HSL:=hide hsl
 have HSB:=hide hsb
 have hsn:sl.length≤1100001:=by rw [←hsl];have:=split_few s;omega
 obtain ⟨S,hS⟩:∃S,atM up ls sl=S:=⟨_,rfl⟩
 have HR:=hide hS
 have hSn:S.2.1.2.length≤1000:=by rw [←hS];have:=at_few up ls sl;omega
 unfold ofM
 rw [hsl,hsb,hS]
 unfold stkC
 clear r0 r1 hb1 hW1 hu h hF hup hsl hsb hS
 cases b
 ·rw [if_neg (by simp)]
  unfold noSeen
  go_enter Tryz.func28,Tryz.ntmps28
  go_wp2_with (first|(go_at_call 86;refine (RSplit_p HSL.out HSB.out W1 hs).mono ?_;rintro e1 wP ⟨A3,n3,c3,rfl,ho3,hbel⟩;have h3:=ho3.rd;replace HB:=hide (HB.out.trans (hbel.mono HB.out.size));replace R2:=hide (R2.out.on hbel);replace R4:=hide (R4.out.on hbel);replace HU:=hide (HU.out.under hbel (by omega));replace HL:=hide (HL.out.under hbel (by omega));have hsz2:=hbel.size;have HN:=hide h3;clear h3;clear ho3;clear hbel)|(refine wpList_storeW rfl 61 (.tmp 4) (.tmp 18) rfl 3 seen_size (w.heap.size+1) 61 rfl (seenC 0 (.slice none 0 0) (.slice none 0 0)) (seenC 0 (.slice none 0 0) (.slice none 0 0)) rfl R4.out rfl rfl (seenC_one _ _ _ _ _ _ _) ?_;intro wS3 hr3 hg3 hs3;replace HB:=hide (HB.out.grown hg3 (by omega) (pu4 (by omega)));replace R2:=hide (R2.out.grown hg3 (pu5 (by omega)));replace HU:=hide (und_grown HU.out hg3 (by omega) (by omega));replace HL:=hide (und_grown HL.out hg3 (by omega) (by omega));have hsz4:=hg3.size;replace R4:=hide hr3;clear hr3 hg3 hs3))
  exact bodyPost_ret (res_ct Tryz.results28 rfl rfl seen_agg seen_size R4.out rfl) rfl ⟨none,0,0,none,0,0,rfl,RdE.none_ _ _ _ _,RdE.none_ _ _ _ _,HB.out⟩
 ·rw [if_pos rfl]
  by_cases h0:S.1=0
  ·rw [if_pos h0]
   unfold noSeen
   have h01:(S.1==0)=true:=by simpa using h0
   clear h0
   go_enter Tryz.func28,Tryz.ntmps28
   go_wp2_with (first|(go_at_call 86;refine (RSplit_p HSL.out HSB.out W1 hs).mono ?_;rintro e1 wP ⟨A3,n3,c3,rfl,ho3,hbel⟩;have h3:=ho3.rd;replace HB:=hide (HB.out.trans (hbel.mono HB.out.size));replace R2:=hide (R2.out.on hbel);replace R4:=hide (R4.out.on hbel);replace HU:=hide (HU.out.under hbel (by omega));replace HL:=hide (HL.out.under hbel (by omega));have hsz2:=hbel.size;have HN:=hide h3;clear h3;clear ho3;clear hbel)|(refine wpList_loadW rfl 29 (.tmp 2) rfl 6 stk_agg stk_size (w.heap.size) 29 rfl (stkC g (.slice AU nU cU) (.slice AL nL cL)) R2.out rfl ?_)|(go_at_call 22;refine (RMAt_any HR.out wP HU.out HL.out (by omega) HF.out HFU.out HN.out (Nat.le_refl _) (by have:=HN.out.1;omega)).mono ?_;rintro e3 wA ⟨A5,c5,rfl,h5,hbel⟩;replace HB:=hide (HB.out.trans (hbel.mono HB.out.size));replace R2:=hide (R2.out.on hbel);replace R4:=hide (R4.out.on hbel);replace HU:=hide (HU.out.under hbel (by omega));replace HL:=hide (HL.out.under hbel (by omega));replace HN:=hide (HN.out.below (hbel.mono (by omega)));have hsz4:=hbel.size;have H5:=hide h5;clear h5;clear hbel)|(obtain ⟨hz9,hz10,hzb,hzs⟩:=rows2 wA (viwC 0 (.slice none 0 0)) (prC (0,0)) 47 49;refine wpList_storeW rfl 47 (.tmp 9) (.tmp 24) rfl 2 viw_size (wA.heap.size) 47 rfl (viwC 0 (.slice none 0 0)) (viwC S.2.1.1 (.slice A5 S.2.1.2.length c5)) rfl hz9 rfl rfl (viwC_one _ _ _ _) ?_;intro wS5 hr5 hg5 hs5;replace hzb:=hzb.grown hg5 hzb.size (pu4 (by omega));replace hz10:=hz10.grown hg5 (pu5 (by omega));have hz9:=hr5;clear hg5 hs5 hr5)|(refine wpList_storeW rfl 49 (.tmp 10) (.tmp 25) rfl 2 plc_size (wA.heap.size+1) 49 rfl (prC (0,0)) (prC S.2.2) rfl hz10 rfl rfl (prC_one _) ?_;intro wS6 hr6 hg6 hs6;replace hzb:=hzb.grown hg6 hzb.size (pu4 (by omega));replace hz9:=hz9.grown hg6 (pu5 (by omega));have hz10:=hr6;replace HB:=hide (HB.out.trans (hzb.mono HB.out.size));replace R2:=hide (R2.out.on hzb);replace R4:=hide (R4.out.on hzb);replace HU:=hide (HU.out.under hzb (by omega));replace HL:=hide (HL.out.under hzb (by omega));replace HN:=hide (HN.out.below (hzb.mono (by omega)));replace H5:=hide (fr_on H5.out hzb);have hsz7:=hzb.size;have R9:=hide hz9;have hlt5:=hz9.lt;have R10:=hide hz10;have hlt6:=hz10.lt;clear hzb hzs hz9 hz10;clear hg6 hs6)|(refine wpList_storeW rfl 61 (.tmp 4) (.tmp 28) rfl 3 seen_size (w.heap.size+1) 61 rfl (seenC 0 (.slice none 0 0) (.slice none 0 0)) (seenC 0 (.slice none 0 0) (.slice none 0 0)) rfl R4.out rfl rfl (seenC_one _ _ _ _ _ _ _) ?_;intro wS8 hr8 hg8 hs8;replace HB:=hide (HB.out.grown hg8 (by omega) (pu4 (by omega)));replace R2:=hide (R2.out.grown hg8 (pu5 (by omega)));replace HU:=hide (und_grown HU.out hg8 (by omega) (by omega));replace HL:=hide (und_grown HL.out hg8 (by omega) (by omega));replace H5:=hide (fr_grown H5.out hg8 (by omega));replace R9:=hide (R9.out.grown hg8 (pu5 (by omega)));replace R10:=hide (R10.out.grown hg8 (pu5 (by omega)));have hsz9:=hg8.size;replace R4:=hide hr8;clear hr8 hg8 hs8))
   exact bodyPost_ret (res_ct Tryz.results28 rfl rfl seen_agg seen_size R4.out rfl) rfl ⟨none,0,0,none,0,0,rfl,RdE.none_ _ _ _ _,RdE.none_ _ _ _ _,HB.out⟩
  ·rw [if_neg h0]
   have h01:(S.1==0)=false:=by simpa using h0
   by_cases h1:S.1=1
   ·rw [if_pos h1,←h1]
    have h11:(S.1==1)=true:=by simpa using h1
    obtain ⟨L,hL⟩:∃L,namesV up ls S.2.1=L:=⟨_,rfl⟩
    have HNV:=hide (show namesV up ls (S.2.1.1,S.2.1.2)=L from hL)
    rw [hL]
    clear h0 h1 hL
    go_enter Tryz.func28,Tryz.ntmps28
    go_wp2_with (first|(go_at_call 86;refine (RSplit_p HSL.out HSB.out W1 hs).mono ?_;rintro e1 wP ⟨A3,n3,c3,rfl,ho3,hbel⟩;have h3:=ho3.rd;replace HB:=hide (HB.out.trans (hbel.mono HB.out.size));replace R2:=hide (R2.out.on hbel);replace R4:=hide (R4.out.on hbel);replace HU:=hide (HU.out.under hbel (by omega));replace HL:=hide (HL.out.under hbel (by omega));have hsz2:=hbel.size;have HN:=hide h3;clear h3;clear ho3;clear hbel)|(refine wpList_loadW rfl 29 (.tmp 2) rfl 6 stk_agg stk_size (w.heap.size) 29 rfl (stkC g (.slice AU nU cU) (.slice AL nL cL)) R2.out rfl ?_)|(go_at_call 22;refine (RMAt_any HR.out wP HU.out HL.out (by omega) HF.out HFU.out HN.out (Nat.le_refl _) (by have:=HN.out.1;omega)).mono ?_;rintro e3 wA ⟨A5,c5,rfl,h5,hbel⟩;replace HB:=hide (HB.out.trans (hbel.mono HB.out.size));replace R2:=hide (R2.out.on hbel);replace R4:=hide (R4.out.on hbel);replace HU:=hide (HU.out.under hbel (by omega));replace HL:=hide (HL.out.under hbel (by omega));replace HN:=hide (HN.out.below (hbel.mono (by omega)));have hsz4:=hbel.size;have H5:=hide h5;clear h5;clear hbel)|(obtain ⟨hz9,hz10,hzb,hzs⟩:=rows2 wA (viwC 0 (.slice none 0 0)) (prC (0,0)) 47 49;refine wpList_storeW rfl 47 (.tmp 9) (.tmp 24) rfl 2 viw_size (wA.heap.size) 47 rfl (viwC 0 (.slice none 0 0)) (viwC S.2.1.1 (.slice A5 S.2.1.2.length c5)) rfl hz9 rfl rfl (viwC_one _ _ _ _) ?_;intro wS5 hr5 hg5 hs5;replace hzb:=hzb.grown hg5 hzb.size (pu4 (by omega));replace hz10:=hz10.grown hg5 (pu5 (by omega));have hz9:=hr5;clear hg5 hs5 hr5)|(refine wpList_storeW rfl 49 (.tmp 10) (.tmp 25) rfl 2 plc_size (wA.heap.size+1) 49 rfl (prC (0,0)) (prC S.2.2) rfl hz10 rfl rfl (prC_one _) ?_;intro wS6 hr6 hg6 hs6;replace hzb:=hzb.grown hg6 hzb.size (pu4 (by omega));replace hz9:=hz9.grown hg6 (pu5 (by omega));have hz10:=hr6;replace HB:=hide (HB.out.trans (hzb.mono HB.out.size));replace R2:=hide (R2.out.on hzb);replace R4:=hide (R4.out.on hzb);replace HU:=hide (HU.out.under hzb (by omega));replace HL:=hide (HL.out.under hzb (by omega));replace HN:=hide (HN.out.below (hzb.mono (by omega)));replace H5:=hide (fr_on H5.out hzb);have hsz7:=hzb.size;have R9:=hide hz9;have hlt5:=hz9.lt;have R10:=hide hz10;have hlt6:=hz10.lt;clear hzb hzs hz9 hz10;clear hg6 hs6)|(refine wpList_loadW rfl 29 (.tmp 2) rfl 6 stk_agg stk_size (w.heap.size) 29 rfl (stkC g (.slice AU nU cU) (.slice AL nL cL)) R2.out rfl ?_)|(refine wpList_loadW rfl 47 (.tmp 9) rfl 2 viw_agg viw_size (wA.heap.size) 47 rfl (viwC S.2.1.1 (.slice A5 S.2.1.2.length c5)) R9.out rfl ?_)|(go_at_call 45;refine (RVNames_e (u:=S.2.1.1) (cV:=c5) HNV.out wS6 HU.out HL.out (by omega) HF.out HFU.out (fr_under H5.out) (Nat.le_refl _) (by omega)).mono ?_;rintro e8 wM ⟨A6,n6,c6,rfl,h6,hbel⟩;replace HB:=hide (HB.out.trans (hbel.mono HB.out.size));replace R2:=hide (R2.out.on hbel);replace R4:=hide (R4.out.on hbel);replace HU:=hide (HU.out.under hbel (by omega));replace HL:=hide (HL.out.under hbel (by omega));replace H5:=hide (fr_on H5.out hbel);replace R9:=hide (R9.out.on hbel);replace R10:=hide (R10.out.on hbel);have hsz9:=hbel.size;have H6:=hide (fr_low (ow_fr h6) (by omega));clear h6;clear hbel)|(refine wpList_storeW rfl 61 (.tmp 4) (.tmp 35) rfl 3 seen_size (w.heap.size+1) 61 rfl (seenC 0 (.slice none 0 0) (.slice none 0 0)) (seenC S.1 (.slice none 0 0) (.slice A6 n6 c6)) rfl R4.out rfl rfl (seenC_one _ _ _ _ _ _ _) ?_;intro wS10 hr10 hg10 hs10;replace HB:=hide (HB.out.grown hg10 (by omega) (pu4 (by omega)));replace R2:=hide (R2.out.grown hg10 (pu5 (by omega)));replace HU:=hide (und_grown HU.out hg10 (by omega) (by omega));replace HL:=hide (und_grown HL.out hg10 (by omega) (by omega));replace H5:=hide (fr_grown H5.out hg10 (by omega));replace R9:=hide (R9.out.grown hg10 (pu5 (by omega)));replace R10:=hide (R10.out.grown hg10 (pu5 (by omega)));replace H6:=hide (fr_grown H6.out hg10 (by omega));have hsz11:=hg10.size;replace R4:=hide hr10;clear hr10 hg10 hs10))
    exact bodyPost_ret (res_ct Tryz.results28 rfl rfl seen_agg seen_size R4.out rfl) rfl ⟨none,0,0,A6,n6,c6,rfl,RdE.none_ _ _ _ _,fr_low H6.out (by omega),HB.out⟩
   ·rw [if_neg h1]
    have h11:(S.1==1)=false:=by simpa using h1
    obtain ⟨L,hL⟩:∃L,bytM up ls S.2.2=L:=⟨_,rfl⟩
    have HBY:=hide hL
    rw [hL]
    clear h0 h1 hL
    go_enter Tryz.func28,Tryz.ntmps28
    go_wp2_with (first|(go_at_call 86;refine (RSplit_p HSL.out HSB.out W1 hs).mono ?_;rintro e1 wP ⟨A3,n3,c3,rfl,ho3,hbel⟩;have h3:=ho3.rd;replace HB:=hide (HB.out.trans (hbel.mono HB.out.size));replace R2:=hide (R2.out.on hbel);replace R4:=hide (R4.out.on hbel);replace HU:=hide (HU.out.under hbel (by omega));replace HL:=hide (HL.out.under hbel (by omega));have hsz2:=hbel.size;have HN:=hide h3;clear h3;clear ho3;clear hbel)|(refine wpList_loadW rfl 29 (.tmp 2) rfl 6 stk_agg stk_size (w.heap.size) 29 rfl (stkC g (.slice AU nU cU) (.slice AL nL cL)) R2.out rfl ?_)|(go_at_call 22;refine (RMAt_any HR.out wP HU.out HL.out (by omega) HF.out HFU.out HN.out (Nat.le_refl _) (by have:=HN.out.1;omega)).mono ?_;rintro e3 wA ⟨A5,c5,rfl,h5,hbel⟩;replace HB:=hide (HB.out.trans (hbel.mono HB.out.size));replace R2:=hide (R2.out.on hbel);replace R4:=hide (R4.out.on hbel);replace HU:=hide (HU.out.under hbel (by omega));replace HL:=hide (HL.out.under hbel (by omega));replace HN:=hide (HN.out.below (hbel.mono (by omega)));have hsz4:=hbel.size;have H5:=hide h5;clear h5;clear hbel)|(obtain ⟨hz9,hz10,hzb,hzs⟩:=rows2 wA (viwC 0 (.slice none 0 0)) (prC (0,0)) 47 49;refine wpList_storeW rfl 47 (.tmp 9) (.tmp 24) rfl 2 viw_size (wA.heap.size) 47 rfl (viwC 0 (.slice none 0 0)) (viwC S.2.1.1 (.slice A5 S.2.1.2.length c5)) rfl hz9 rfl rfl (viwC_one _ _ _ _) ?_;intro wS5 hr5 hg5 hs5;replace hzb:=hzb.grown hg5 hzb.size (pu4 (by omega));replace hz10:=hz10.grown hg5 (pu5 (by omega));have hz9:=hr5;clear hg5 hs5 hr5)|(refine wpList_storeW rfl 49 (.tmp 10) (.tmp 25) rfl 2 plc_size (wA.heap.size+1) 49 rfl (prC (0,0)) (prC S.2.2) rfl hz10 rfl rfl (prC_one _) ?_;intro wS6 hr6 hg6 hs6;replace hzb:=hzb.grown hg6 hzb.size (pu4 (by omega));replace hz9:=hz9.grown hg6 (pu5 (by omega));have hz10:=hr6;replace HB:=hide (HB.out.trans (hzb.mono HB.out.size));replace R2:=hide (R2.out.on hzb);replace R4:=hide (R4.out.on hzb);replace HU:=hide (HU.out.under hzb (by omega));replace HL:=hide (HL.out.under hzb (by omega));replace HN:=hide (HN.out.below (hzb.mono (by omega)));replace H5:=hide (fr_on H5.out hzb);have hsz7:=hzb.size;have R9:=hide hz9;have hlt5:=hz9.lt;have R10:=hide hz10;have hlt6:=hz10.lt;clear hzb hzs hz9 hz10;clear hg6 hs6)|(refine wpList_loadW rfl 29 (.tmp 2) rfl 6 stk_agg stk_size (w.heap.size) 29 rfl (stkC g (.slice AU nU cU) (.slice AL nL cL)) R2.out rfl ?_)|(refine wpList_loadW rfl 49 (.tmp 10) rfl 2 plc_agg plc_size (wA.heap.size+1) 49 rfl (prC S.2.2) R10.out rfl ?_)|(go_at_call 25;refine (RMBytes_any HBY.out wS6 HU.out HL.out (by omega) HF.out HFU.out).mono ?_;rintro e8 wM ⟨A6,n6,c6,rfl,h6,hbel⟩;replace HB:=hide (HB.out.trans (hbel.mono HB.out.size));replace R2:=hide (R2.out.on hbel);replace R4:=hide (R4.out.on hbel);replace HU:=hide (HU.out.under hbel (by omega));replace HL:=hide (HL.out.under hbel (by omega));replace H5:=hide (fr_on H5.out hbel);replace R9:=hide (R9.out.on hbel);replace R10:=hide (R10.out.on hbel);have hsz9:=hbel.size;have H6:=hide h6;clear h6;clear hbel)|(refine wpList_storeW rfl 61 (.tmp 4) (.tmp 40) rfl 3 seen_size (w.heap.size+1) 61 rfl (seenC 0 (.slice none 0 0) (.slice none 0 0)) (seenC S.1 (.slice A6 n6 c6) (.slice none 0 0)) rfl R4.out rfl rfl (seenC_one _ _ _ _ _ _ _) ?_;intro wS10 hr10 hg10 hs10;replace HB:=hide (HB.out.grown hg10 (by omega) (pu4 (by omega)));replace R2:=hide (R2.out.grown hg10 (pu5 (by omega)));replace HU:=hide (und_grown HU.out hg10 (by omega) (by omega));replace HL:=hide (und_grown HL.out hg10 (by omega) (by omega));replace H5:=hide (fr_grown H5.out hg10 (by omega));replace R9:=hide (R9.out.grown hg10 (pu5 (by omega)));replace R10:=hide (R10.out.grown hg10 (pu5 (by omega)));replace H6:=hide (und_grown H6.out hg10 (by omega) (by omega));have hsz11:=hg10.size;replace R4:=hide hr10;clear hr10 hg10 hs10))
    exact bodyPost_ret (res_ct Tryz.results28 rfl rfl seen_agg seen_size R4.out rfl) rfl ⟨A6,n6,c6,none,0,0,rfl,H6.out,RdE.none_ _ _ _ _,HB.out⟩
set_option maxRecDepth 100000 in
set_option maxHeartbeats 4000000 in
theorem RMSame_any {S R:SeenV} {A1 A2 C1 C2:Option Addr} {n1 c1 n2 c2 m1 d1 m2 d2:Nat} {b:Bool} (hr:decide (S=R)=b) (w:World) (h1:Bs w w.heap.size A1 n1 S.2.1) (h2:Bs w w.heap.size A2 n2 R.2.1) (k1:Rd st w w.heap.size C1 m1 S.2.2) (k2:Rd st w w.heap.size C2 m2 R.2.2) (hm1:m1≤100000000) (hn1:n1≤100000000) :
  Calls Tryz.prog 29 #[.agg (seenC S.1 (.slice A1 n1 c1) (.slice C1 m1 d1)).toArray,.agg (seenC R.1 (.slice A2 n2 c2) (.slice C2 m2 d2)).toArray] w (BoolB w b):=by
 obtain ⟨W1,hW1⟩:∃W1,((w.alloc (.cells (seenC S.1 (.slice A1 n1 c1) (.slice C1 m1 d1)).toArray 61)).alloc (.cells (seenC R.1 (.slice A2 n2 c2) (.slice C2 m2 d2)).toArray 61))=W1:=⟨_,rfl⟩
 obtain ⟨r0,r1,hb1,hs1⟩:=rowA2 w _ _ _ _ hW1
 have hW1':((w.alloc (.cells #[.int .i64 S.1,.slice A1 n1 c1,.slice C1 m1 d1] 61)).alloc (.cells #[.int .i64 R.1,.slice A2 n2 c2,.slice C2 m2 d2] 61))=W1:=hW1
 have R2:=hide r0
 have R3:=hide r1
 have HB:=hide hb1
 have hsz0:=hb1.size
 have HD1:=hide (h1.below hb1)
 have HD2:=hide (h2.below hb1)
 have HN1:=hide (k1.below hb1)
 have HN2:=hide (k2.below hb1)
 obtain ⟨x,hx⟩:∃x,(S.2.1==R.2.1)=x:=⟨_,rfl⟩
 obtain ⟨y,hy⟩:∃y,(S.2.2==R.2.2)=y:=⟨_,rfl⟩
 have hm1':m1≤140737488355328:=by omega
 have hn1':n1≤140737488355328:=by omega
 obtain ⟨k,s1,s2⟩:=S
 obtain ⟨k',r1,r2⟩:=R
 have hbx:b=(decide (k=k')&&(x&&y)):=by
  rw [←hr,←hx,←hy,Bool.eq_iff_iff]
  simp [Prod.ext_iff]
 dsimp only at hx hy HD1 HD2 HN1 HN2 R2 R3
 have HX:=hide hx
 have HY:=hide hy
 have q2_0:W1.cell? ⟨w.heap.size,0,none⟩=some (.int .i64 k):=R2.out.cell 0
 have q3_0:W1.cell? ⟨w.heap.size+1,0,none⟩=some (.int .i64 k'):=R3.out.cell 0
 have q2_1:W1.cell? ⟨w.heap.size,1,none⟩=some (.slice A1 n1 c1):=R2.out.cell 1
 have q3_1:W1.cell? ⟨w.heap.size+1,1,none⟩=some (.slice A2 n2 c2):=R3.out.cell 1
 have q2_2:W1.cell? ⟨w.heap.size,2,none⟩=some (.slice C1 m1 d1):=R2.out.cell 2
 have q3_2:W1.cell? ⟨w.heap.size+1,2,none⟩=some (.slice C2 m2 d2):=R3.out.cell 2
 unfold seenC
 subst hbx
 clear r0 r1 hb1 hW1 h1 h2 k1 k2 hx hy hr
 dsimp only
 by_cases hk:k=k'
 ·have hk1:(k==k')=true:=by simpa using hk
  rw [decide_eq_true hk]
  clear hk
  cases x
  ·go_enter Tryz.func29,Tryz.ntmps29
   go_wp2_with (first|(go_at_call 87;refine (RSame1_b HX.out W1 HD1.out HD2.out hn1').mono ?_;rintro e1 wB ⟨rfl,hbel⟩;clear q2_0 q3_0 q2_1 q3_1 q2_2 q3_2;replace HB:=hide (HB.out.trans (hbel.mono HB.out.size));replace R2:=hide (R2.out.on hbel);replace R3:=hide (R3.out.on hbel);replace HN1:=hide (HN1.out.below (hbel.mono (by omega)));replace HN2:=hide (HN2.out.below (hbel.mono (by omega)));have hsz1:=hbel.size;have q2_0:wB.cell? ⟨w.heap.size,0,none⟩=some (.int .i64 k):=R2.out.cell 0;have q3_0:wB.cell? ⟨w.heap.size+1,0,none⟩=some (.int .i64 k'):=R3.out.cell 0;have q2_1:wB.cell? ⟨w.heap.size,1,none⟩=some (.slice A1 n1 c1):=R2.out.cell 1;have q3_1:wB.cell? ⟨w.heap.size+1,1,none⟩=some (.slice A2 n2 c2):=R3.out.cell 1;have q2_2:wB.cell? ⟨w.heap.size,2,none⟩=some (.slice C1 m1 d1):=R2.out.cell 2;have q3_2:wB.cell? ⟨w.heap.size+1,2,none⟩=some (.slice C2 m2 d2):=R3.out.cell 2;clear hbel))
   go_ret
   exact BoolB.of HB.out
  ·cases y
   ·go_enter Tryz.func29,Tryz.ntmps29
    go_wp2_with (first|(go_at_call 87;refine (RSame1_b HX.out W1 HD1.out HD2.out hn1').mono ?_;rintro e1 wB ⟨rfl,hbel⟩;clear q2_0 q3_0 q2_1 q3_1 q2_2 q3_2;replace HB:=hide (HB.out.trans (hbel.mono HB.out.size));replace R2:=hide (R2.out.on hbel);replace R3:=hide (R3.out.on hbel);replace HN1:=hide (HN1.out.below (hbel.mono (by omega)));replace HN2:=hide (HN2.out.below (hbel.mono (by omega)));have hsz1:=hbel.size;have q2_0:wB.cell? ⟨w.heap.size,0,none⟩=some (.int .i64 k):=R2.out.cell 0;have q3_0:wB.cell? ⟨w.heap.size+1,0,none⟩=some (.int .i64 k'):=R3.out.cell 0;have q2_1:wB.cell? ⟨w.heap.size,1,none⟩=some (.slice A1 n1 c1):=R2.out.cell 1;have q3_1:wB.cell? ⟨w.heap.size+1,1,none⟩=some (.slice A2 n2 c2):=R3.out.cell 1;have q2_2:wB.cell? ⟨w.heap.size,2,none⟩=some (.slice C1 m1 d1):=R2.out.cell 2;have q3_2:wB.cell? ⟨w.heap.size+1,2,none⟩=some (.slice C2 m2 d2):=R3.out.cell 2;clear hbel)|(go_at_call 88;refine (RSame3_b HY.out wB HN1.out HN2.out hm1').mono ?_;rintro e2 wS ⟨rfl,hbel⟩;have HBX:=hide hbel;clear hbel))
    go_ret
    exact BoolB.of (HB.out.trans (HBX.out.mono (by omega)))
   ·go_enter Tryz.func29,Tryz.ntmps29
    go_wp2_with (first|(go_at_call 87;refine (RSame1_b HX.out W1 HD1.out HD2.out hn1').mono ?_;rintro e1 wB ⟨rfl,hbel⟩;clear q2_0 q3_0 q2_1 q3_1 q2_2 q3_2;replace HB:=hide (HB.out.trans (hbel.mono HB.out.size));replace R2:=hide (R2.out.on hbel);replace R3:=hide (R3.out.on hbel);replace HN1:=hide (HN1.out.below (hbel.mono (by omega)));replace HN2:=hide (HN2.out.below (hbel.mono (by omega)));have hsz1:=hbel.size;have q2_0:wB.cell? ⟨w.heap.size,0,none⟩=some (.int .i64 k):=R2.out.cell 0;have q3_0:wB.cell? ⟨w.heap.size+1,0,none⟩=some (.int .i64 k'):=R3.out.cell 0;have q2_1:wB.cell? ⟨w.heap.size,1,none⟩=some (.slice A1 n1 c1):=R2.out.cell 1;have q3_1:wB.cell? ⟨w.heap.size+1,1,none⟩=some (.slice A2 n2 c2):=R3.out.cell 1;have q2_2:wB.cell? ⟨w.heap.size,2,none⟩=some (.slice C1 m1 d1):=R2.out.cell 2;have q3_2:wB.cell? ⟨w.heap.size+1,2,none⟩=some (.slice C2 m2 d2):=R3.out.cell 2;clear hbel)|(go_at_call 88;refine (RSame3_b HY.out wB HN1.out HN2.out hm1').mono ?_;rintro e2 wS ⟨rfl,hbel⟩;have HBX:=hide hbel;clear hbel))
    go_ret
    exact BoolB.of (HB.out.trans (HBX.out.mono (by omega)))
 ·have hk1:(k==k')=false:=by simpa using hk
  rw [decide_eq_false hk]
  clear hk
  go_enter Tryz.func29,Tryz.ntmps29
  go_wp2_with fail
  go_ret
  exact BoolB.of HB.out
end Go.Proofs.YthdoimgbbabcaaaGreat

namespace Go.Proofs.YthdoimgbbabcaaaGreat
open Go.RowKit Go.Shelf Plain

theorem aw_of_a:ofM upI lsB [47,97]=((2,[120],[]),true):=by decide +kernel
theorem aw_of_r:ofM upI lsB [47]=((1,[],[[97]]),true):=by decide +kernel
theorem aw_of_z:ofM upI lsB [47,122]=((0,[],[]),false):=by decide +kernel
theorem MOf_p {g:GeoQ} {AU AL:Option Addr} {nU cU nL cL B:Nat} {up:List NodV} {ls:List (List NodV)} {s:List UInt8} {k:Int} {d:List UInt8} {n:List (List UInt8)} {b:Bool} {nd nn:Nat} (hs:ofM up ls s=((k,d,n),b)) (hd:d.length=nd) (hn:n.length=nn) (w:World) (hu:RdE nodEn w (Under B) AU nU up) (h:RdE layEn w (Under B) AL nL ls) (hB:B≤w.heap.size) (hF:FewL ls) (hup:FewU up) (hsl:s.length≤100000):Calls Tryz.prog 26 #[.agg (stkC g (.slice AU nU cU) (.slice AL nL cL)).toArray,.string ⟨s.toArray⟩] w (fun e w'=>∃A c C f,e=.returned (.tuple #[.agg (seenC k (.slice A nd c) (.slice C nn f)).toArray,.bool b])∧RdE Enc.byte w' (Under w'.heap.size) A nd d∧RdE Enc.text w' (Under w'.heap.size) C nn n∧Below w.heap.size w w'):=by
 refine (MOf_any (s:=s) w hu h hB hF hup (by omega)).mono ?_
 rw [hs]
 rintro e w' ⟨A,m,c,C,m',f,rfl,h1,h2,h3⟩
 have e1:nd=m:=by rw [←hd];exact h1.1
 have e2:nn=m':=by rw [←hn];exact h2.1
 subst e1 e2
 exact ⟨A,c,C,f,rfl,fr_under h1,fr_under h2,h3⟩
set_option maxRecDepth 100000 in
set_option maxHeartbeats 4000000 in
theorem awake18_any (w:World):Calls Tryz.prog 20 #[] w (LawOk w):=by
 have HB:=hide (below_self w)
 go_enter Tryz.func20,Tryz.ntmps20
 go_wp2_with (first|(go_at_call 62;refine (Idle_any w).mono ?_;rintro e1 wI ⟨AU,nU,cU,AL,nL,cL,rfl,hu,hl,hbel⟩;replace HB:=hide (HB.out.trans (hbel.mono HB.out.size));have hsz2:=hbel.size;have HU:=hide hu;clear hu;have HL:=hide hl;clear hl;clear hbel)|(refine wpList_storeW rfl 29 (.tmp 1) (.tmp 8) rfl 6 stk_size (wI.heap.size) 29 rfl (stkC ⟨0,0,0,0⟩ (.slice none 0 0) (.slice none 0 0)) (stkC gB (.slice AU nU cU) (.slice AL nL cL)) rfl (RowL.new wI 29 (stkC ⟨0,0,0,0⟩ (.slice none 0 0) (.slice none 0 0))) rfl rfl (stkC_one _ _ _ _ _ _ _) ?_;intro wS3 hr3 hg3 hs3;have hzb:=below_stored' hg3;replace HB:=hide (HB.out.trans (hzb.mono HB.out.size));replace HU:=hide (HU.out.under hzb (by omega));replace HL:=hide (HL.out.under hzb (by omega));have hsz4:=hzb.size;have RS:=hide hr3;have hlt3:=hr3.lt;clear hzb hr3;clear hg3 hs3)|(refine wpList_loadW rfl 29 (.tmp 1) rfl 6 stk_agg stk_size (wI.heap.size) 29 rfl (stkC gB (.slice AU nU cU) (.slice AL nL cL)) RS.out rfl ?_)|(go_at_call 26;refine (MOf_p (g:=gB) aw_of_a rfl rfl wS3 HU.out HL.out (by omega) ba_few aw_few (by decide)).mono ?_;rintro e5 wA ⟨A2,c2,C2,f2,rfl,hd,hn,hbel⟩;replace HB:=hide (HB.out.trans (hbel.mono HB.out.size));replace HU:=hide (HU.out.under hbel (by omega));replace HL:=hide (HL.out.under hbel (by omega));replace RS:=hide (RS.out.on hbel);have hsz6:=hbel.size;have HD2:=hide hd;clear hd;have HN2:=hide hn;clear hn;clear hbel)|(refine wpList_storeW rfl 61 (.tmp 2) (.tmp 12) rfl 3 seen_size (wA.heap.size) 61 rfl (seenC 0 (.slice none 0 0) (.slice none 0 0)) (seenC 2 (.slice A2 1 c2) (.slice C2 0 f2)) rfl (RowL.new wA 61 (seenC 0 (.slice none 0 0) (.slice none 0 0))) rfl rfl (seenC_one _ _ _ _ _ _ _) ?_;intro wS7 hr7 hg7 hs7;have hzb:=below_stored' hg7;replace HB:=hide (HB.out.trans (hzb.mono HB.out.size));replace HU:=hide (HU.out.under hzb (by omega));replace HL:=hide (HL.out.under hzb (by omega));replace RS:=hide (RS.out.on hzb);replace HD2:=hide (HD2.out.under hzb (by omega));replace HN2:=hide (HN2.out.under hzb (by omega));have hsz8:=hzb.size;have RA:=hide hr7;have hlt7:=hr7.lt;have q2_0:wS7.cell? ⟨wA.heap.size,0,none⟩=some (.int .i64 2):=RA.out.cell 0;have q2_1:wS7.cell? ⟨wA.heap.size,1,none⟩=some (.slice A2 1 c2):=RA.out.cell 1;have q2_2:wS7.cell? ⟨wA.heap.size,2,none⟩=some (.slice C2 0 f2):=RA.out.cell 2;clear hzb hr7;clear hg7 hs7)|(refine wpList_loadW rfl 29 (.tmp 1) rfl 6 stk_agg stk_size (wI.heap.size) 29 rfl (stkC gB (.slice AU nU cU) (.slice AL nL cL)) RS.out rfl ?_)|(go_at_call 26;refine (MOf_p (g:=gB) aw_of_r rfl rfl wS7 HU.out HL.out (by omega) ba_few aw_few (by decide)).mono ?_;rintro e9 wR ⟨A4,c4,C4,f4,rfl,hd,hn,hbel⟩;clear q2_0 q2_1 q2_2;replace HB:=hide (HB.out.trans (hbel.mono HB.out.size));replace HU:=hide (HU.out.under hbel (by omega));replace HL:=hide (HL.out.under hbel (by omega));replace RS:=hide (RS.out.on hbel);replace HD2:=hide (HD2.out.under hbel (by omega));replace HN2:=hide (HN2.out.under hbel (by omega));replace RA:=hide (RA.out.on hbel);have hsz10:=hbel.size;have q2_0:wR.cell? ⟨wA.heap.size,0,none⟩=some (.int .i64 2):=RA.out.cell 0;have q2_1:wR.cell? ⟨wA.heap.size,1,none⟩=some (.slice A2 1 c2):=RA.out.cell 1;have q2_2:wR.cell? ⟨wA.heap.size,2,none⟩=some (.slice C2 0 f2):=RA.out.cell 2;have HD4:=hide hd;clear hd;have HN4:=hide hn;clear hn;clear hbel)|(refine wpList_storeW rfl 61 (.tmp 4) (.tmp 17) rfl 3 seen_size (wR.heap.size) 61 rfl (seenC 0 (.slice none 0 0) (.slice none 0 0)) (seenC 1 (.slice A4 0 c4) (.slice C4 1 f4)) rfl (RowL.new wR 61 (seenC 0 (.slice none 0 0) (.slice none 0 0))) rfl rfl (seenC_one _ _ _ _ _ _ _) ?_;intro wS11 hr11 hg11 hs11;have hzb:=below_stored' hg11;clear q2_0 q2_1 q2_2;replace HB:=hide (HB.out.trans (hzb.mono HB.out.size));replace HU:=hide (HU.out.under hzb (by omega));replace HL:=hide (HL.out.under hzb (by omega));replace RS:=hide (RS.out.on hzb);replace HD2:=hide (HD2.out.under hzb (by omega));replace HN2:=hide (HN2.out.under hzb (by omega));replace RA:=hide (RA.out.on hzb);replace HD4:=hide (HD4.out.under hzb (by omega));replace HN4:=hide (HN4.out.under hzb (by omega));have hsz12:=hzb.size;have q2_0:wS11.cell? ⟨wA.heap.size,0,none⟩=some (.int .i64 2):=RA.out.cell 0;have q2_1:wS11.cell? ⟨wA.heap.size,1,none⟩=some (.slice A2 1 c2):=RA.out.cell 1;have q2_2:wS11.cell? ⟨wA.heap.size,2,none⟩=some (.slice C2 0 f2):=RA.out.cell 2;have RR:=hide hr11;have hlt11:=hr11.lt;have q4_0:wS11.cell? ⟨wR.heap.size,0,none⟩=some (.int .i64 1):=RR.out.cell 0;have q4_2:wS11.cell? ⟨wR.heap.size,2,none⟩=some (.slice C4 1 f4):=RR.out.cell 2;have q4_1:wS11.cell? ⟨wR.heap.size,1,none⟩=some (.slice A4 0 c4):=RR.out.cell 1;clear hzb hr11;clear hg11 hs11)|(refine wpList_loadW rfl 29 (.tmp 1) rfl 6 stk_agg stk_size (wI.heap.size) 29 rfl (stkC gB (.slice AU nU cU) (.slice AL nL cL)) RS.out rfl ?_)|(go_at_call 26;refine (MOf_p (g:=gB) aw_of_z rfl rfl wS11 HU.out HL.out (by omega) ba_few aw_few (by decide)).mono ?_;rintro e13 wZ ⟨A6,c6,C6,f6,rfl,hd,hn,hbel⟩;clear q2_0 q2_1 q4_0 q4_2 q2_2 q4_1;replace HB:=hide (HB.out.trans (hbel.mono HB.out.size));replace HU:=hide (HU.out.under hbel (by omega));replace HL:=hide (HL.out.under hbel (by omega));replace RS:=hide (RS.out.on hbel);replace HD2:=hide (HD2.out.under hbel (by omega));replace HN2:=hide (HN2.out.under hbel (by omega));replace RA:=hide (RA.out.on hbel);replace HD4:=hide (HD4.out.under hbel (by omega));replace HN4:=hide (HN4.out.under hbel (by omega));replace RR:=hide (RR.out.on hbel);have hsz14:=hbel.size;have q2_0:wZ.cell? ⟨wA.heap.size,0,none⟩=some (.int .i64 2):=RA.out.cell 0;have q2_1:wZ.cell? ⟨wA.heap.size,1,none⟩=some (.slice A2 1 c2):=RA.out.cell 1;have q4_0:wZ.cell? ⟨wR.heap.size,0,none⟩=some (.int .i64 1):=RR.out.cell 0;have q4_2:wZ.cell? ⟨wR.heap.size,2,none⟩=some (.slice C4 1 f4):=RR.out.cell 2;have q2_2:wZ.cell? ⟨wA.heap.size,2,none⟩=some (.slice C2 0 f2):=RA.out.cell 2;have q4_1:wZ.cell? ⟨wR.heap.size,1,none⟩=some (.slice A4 0 c4):=RR.out.cell 1;have HD6:=hide hd;clear hd;have HN6:=hide hn;clear hn;clear hbel)|(refine wpList_storeW rfl 61 (.tmp 6) (.tmp 22) rfl 3 seen_size (wZ.heap.size) 61 rfl (seenC 0 (.slice none 0 0) (.slice none 0 0)) (seenC 0 (.slice A6 0 c6) (.slice C6 0 f6)) rfl (RowL.new wZ 61 (seenC 0 (.slice none 0 0) (.slice none 0 0))) rfl rfl (seenC_one _ _ _ _ _ _ _) ?_;intro wS15 hr15 hg15 hs15;have hzb:=below_stored' hg15;clear q2_0 q2_1 q4_0 q4_2 q2_2 q4_1;replace HB:=hide (HB.out.trans (hzb.mono HB.out.size));replace HU:=hide (HU.out.under hzb (by omega));replace HL:=hide (HL.out.under hzb (by omega));replace RS:=hide (RS.out.on hzb);replace HD2:=hide (HD2.out.under hzb (by omega));replace HN2:=hide (HN2.out.under hzb (by omega));replace RA:=hide (RA.out.on hzb);replace HD4:=hide (HD4.out.under hzb (by omega));replace HN4:=hide (HN4.out.under hzb (by omega));replace RR:=hide (RR.out.on hzb);replace HD6:=hide (HD6.out.under hzb (by omega));replace HN6:=hide (HN6.out.under hzb (by omega));have hsz16:=hzb.size;have q2_0:wS15.cell? ⟨wA.heap.size,0,none⟩=some (.int .i64 2):=RA.out.cell 0;have q2_1:wS15.cell? ⟨wA.heap.size,1,none⟩=some (.slice A2 1 c2):=RA.out.cell 1;have q4_0:wS15.cell? ⟨wR.heap.size,0,none⟩=some (.int .i64 1):=RR.out.cell 0;have q4_2:wS15.cell? ⟨wR.heap.size,2,none⟩=some (.slice C4 1 f4):=RR.out.cell 2;have q2_2:wS15.cell? ⟨wA.heap.size,2,none⟩=some (.slice C2 0 f2):=RA.out.cell 2;have q4_1:wS15.cell? ⟨wR.heap.size,1,none⟩=some (.slice A4 0 c4):=RR.out.cell 1;have RZ:=hide hr15;have hlt15:=hr15.lt;clear hzb hr15;clear hg15 hs15)|(go_at_call 23;refine (BEqual_b (l:=[120]) (k:=[120]) (b:=true) _ (Bs.of_rd (HD2.out.under (below_new (below_self wS15) (.cells #[.int .u8 120] 5)) (by omega))) (Own.lit wS15 5 (cs:=[.int .u8 120]) (l:=[120]) (n:=1) rfl rfl (by omega)).bs rfl).mono ?_;rintro e99 wE0 ⟨rfl,rfl⟩;generalize hwE:(wS15.alloc (.cells #[.int .u8 120] 5))=wE;have hbel:Below wS15.heap.size wS15 wE:=hwE ▸ below_new (below_self wS15) _;clear q2_0 q2_1 q4_0 q4_2 q2_2 q4_1;replace HB:=hide (HB.out.trans (hbel.mono HB.out.size));replace HU:=hide (HU.out.under hbel (by omega));replace HL:=hide (HL.out.under hbel (by omega));replace RS:=hide (RS.out.on hbel);replace HD2:=hide (HD2.out.under hbel (by omega));replace HN2:=hide (HN2.out.under hbel (by omega));replace RA:=hide (RA.out.on hbel);replace HD4:=hide (HD4.out.under hbel (by omega));replace HN4:=hide (HN4.out.under hbel (by omega));replace RR:=hide (RR.out.on hbel);replace HD6:=hide (HD6.out.under hbel (by omega));replace HN6:=hide (HN6.out.under hbel (by omega));replace RZ:=hide (RZ.out.on hbel);have hsz17:=hbel.size;have q2_0:wE.cell? ⟨wA.heap.size,0,none⟩=some (.int .i64 2):=RA.out.cell 0;have q2_1:wE.cell? ⟨wA.heap.size,1,none⟩=some (.slice A2 1 c2):=RA.out.cell 1;have q4_0:wE.cell? ⟨wR.heap.size,0,none⟩=some (.int .i64 1):=RR.out.cell 0;have q4_2:wE.cell? ⟨wR.heap.size,2,none⟩=some (.slice C4 1 f4):=RR.out.cell 2;have q2_2:wE.cell? ⟨wA.heap.size,2,none⟩=some (.slice C2 0 f2):=RA.out.cell 2;have q4_1:wE.cell? ⟨wR.heap.size,1,none⟩=some (.slice A4 0 c4):=RR.out.cell 1;clear hbel hwE)|(go_at_call 75;refine (MSame_any (m1:=0) (S:=(2,[120],[])) (R:=(2,[120],[])) (b:=true) (by decide) wE (Bs.of_rd (und_up HD2.out (by omega))) (Bs.of_rd (und_up HD2.out (by omega))) (txt_rd (und_up HN2.out (by omega))) (txt_rd (und_up HN2.out (by omega))) (by omega)).mono ?_;rintro e91 wS1 ⟨rfl,hbel⟩;clear q2_0 q2_1 q4_0 q4_2 q2_2 q4_1;replace HB:=hide (HB.out.trans (hbel.mono HB.out.size));replace HU:=hide (HU.out.under hbel (by omega));replace HL:=hide (HL.out.under hbel (by omega));replace RS:=hide (RS.out.on hbel);replace HD2:=hide (HD2.out.under hbel (by omega));replace HN2:=hide (HN2.out.under hbel (by omega));replace RA:=hide (RA.out.on hbel);replace HD4:=hide (HD4.out.under hbel (by omega));replace HN4:=hide (HN4.out.under hbel (by omega));replace RR:=hide (RR.out.on hbel);replace HD6:=hide (HD6.out.under hbel (by omega));replace HN6:=hide (HN6.out.under hbel (by omega));replace RZ:=hide (RZ.out.on hbel);have hsz18:=hbel.size;have q2_0:wS1.cell? ⟨wA.heap.size,0,none⟩=some (.int .i64 2):=RA.out.cell 0;have q2_1:wS1.cell? ⟨wA.heap.size,1,none⟩=some (.slice A2 1 c2):=RA.out.cell 1;have q4_0:wS1.cell? ⟨wR.heap.size,0,none⟩=some (.int .i64 1):=RR.out.cell 0;have q4_2:wS1.cell? ⟨wR.heap.size,2,none⟩=some (.slice C4 1 f4):=RR.out.cell 2;have q2_2:wS1.cell? ⟨wA.heap.size,2,none⟩=some (.slice C2 0 f2):=RA.out.cell 2;have q4_1:wS1.cell? ⟨wR.heap.size,1,none⟩=some (.slice A4 0 c4):=RR.out.cell 1;clear hbel)|(go_at_call 75;refine (MSame_any (m1:=0) (S:=(2,[120],[])) (R:=(1,[],[[97]])) (b:=false) (by decide) wS1 (Bs.of_rd (und_up HD2.out (by omega))) (Bs.of_rd (und_up HD4.out (by omega))) (txt_rd (und_up HN2.out (by omega))) (txt_rd (und_up HN4.out (by omega))) (by omega)).mono ?_;rintro e92 wS2 ⟨rfl,hbel⟩;clear q2_0 q2_1 q4_0 q4_2 q2_2 q4_1;replace HB:=hide (HB.out.trans (hbel.mono HB.out.size));replace HU:=hide (HU.out.under hbel (by omega));replace HL:=hide (HL.out.under hbel (by omega));replace RS:=hide (RS.out.on hbel);replace HD2:=hide (HD2.out.under hbel (by omega));replace HN2:=hide (HN2.out.under hbel (by omega));replace RA:=hide (RA.out.on hbel);replace HD4:=hide (HD4.out.under hbel (by omega));replace HN4:=hide (HN4.out.under hbel (by omega));replace RR:=hide (RR.out.on hbel);replace HD6:=hide (HD6.out.under hbel (by omega));replace HN6:=hide (HN6.out.under hbel (by omega));replace RZ:=hide (RZ.out.on hbel);have hsz19:=hbel.size;have q2_0:wS2.cell? ⟨wA.heap.size,0,none⟩=some (.int .i64 2):=RA.out.cell 0;have q2_1:wS2.cell? ⟨wA.heap.size,1,none⟩=some (.slice A2 1 c2):=RA.out.cell 1;have q4_0:wS2.cell? ⟨wR.heap.size,0,none⟩=some (.int .i64 1):=RR.out.cell 0;have q4_2:wS2.cell? ⟨wR.heap.size,2,none⟩=some (.slice C4 1 f4):=RR.out.cell 2;have q2_2:wS2.cell? ⟨wA.heap.size,2,none⟩=some (.slice C2 0 f2):=RA.out.cell 2;have q4_1:wS2.cell? ⟨wR.heap.size,1,none⟩=some (.slice A4 0 c4):=RR.out.cell 1;clear hbel))
 go_ret
 exact LawOk.of HB.out
end Go.Proofs.YthdoimgbbabcaaaGreat

namespace Go.Proofs.YthdoimgbbabcaaaGreat
open Go.RowKit Go.Shelf Plain

theorem names_few {up:List NodV} {ls:List (List NodV)} {v:ViewV} (hF:FewL ls) (hup:FewU up) (h:v.2.length≤ls.length):(namesV up ls v).length≤1000:=by
 refine Nat.le_trans (List.length_filter_le _ _) (Nat.le_trans (sortS_length _) ?_)
 unfold allV
 rw [List.length_append,List.length_map]
 have h1:(namesL ls v.2).length≤16*v.2.length:=Nat.le_trans (List.length_filter_le _ _) (Nat.le_trans (sortS_length _) (allN_len hF v.2))
 have h2:=entB_len hup.2 v.1
 have h3:=hF.1
 omega
theorem byt_few {up:List NodV} {ls:List (List NodV)} (hF:FewL ls) (hup:FewU up) (p:Int×Int):(bytM up ls p).length≤1000:=by
 unfold bytM
 split
 ·unfold srcM
  split
  ·unfold handF
   split
   ·have:=(low_plain hF (orgOf (nodAt up p.2)).1 (orgOf (nodAt up p.2)).2.1).2.2.2.1
    dsimp only
    omega
   ·simp [nod0]
  ·have:=(nodAt_plain hup.2 p.2).2.2.2.1
   omega
 ·have:=(low_plain hF p.1 p.2).2.2.2.1
  omega
theorem of_few {up:List NodV} {ls:List (List NodV)} (hF:FewL ls) (hup:FewU up) (s:List UInt8):(ofM up ls s).1.2.1.length≤1000∧(ofM up ls s).1.2.2.length≤1000:=by
 unfold ofM noSeen
 split
 ·split
  ·simp
  ·split
   ·exact ⟨by simp,names_few hF hup (at_few up ls (splitS s))⟩
   ·exact ⟨byt_few hF hup _,by simp⟩
 ·simp
end Go.Proofs.YthdoimgbbabcaaaGreat

