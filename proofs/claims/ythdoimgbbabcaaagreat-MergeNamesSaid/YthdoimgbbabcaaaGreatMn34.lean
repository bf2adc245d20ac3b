import Derived.Test.YthdoimgbbabcaaaGreatMn31
import Derived.Test.YthdoimgbbabcaaaGreatMn33
import Derived.Test.YthdoimgbbabcaaaGreatMn22

namespace Go.Proofs.YthdoimgbbabcaaaGreat
open Go.RowKit Go.Shelf Plain

theorem split_few (s:List UInt8):(splitS s).length≤1+s.length:=by
 obtain ⟨q1,q2⟩:=split_iff s
 rw [q2]
 split
 ·rename_i h
  rw [h] at q1
  have hc:cleanB s=true:=by
   cases hc:cleanB s with
   | true=>rfl
   | false=>rw [hc] at q1;cases q1
  exact (names_clean hc).2.2.1
 ·simp
def seenC (k:Int) (d n:Value):List Value:=[.int .i64 k,d,n]
theorem seenC_one (k:Int) (A C:Option Addr) (n c m d:Nat):∀v∈seenC k (.slice A n c) (.slice C m d),v.oneCell'=true:=by
 intro v hv
 simp only [seenC,List.mem_cons,List.not_mem_nil,or_false] at hv
 rcases hv with h|h|h <;> (subst h;rfl)
set_option maxRecDepth 100000 in
theorem seen_agg:∀w,(isAgg 61).run Tryz.prog w=.ok true w:=fun _=>rfl
set_option maxRecDepth 100000 in
theorem seen_size:∀w,(Go.sizeOf 61).run Tryz.prog w=.ok 3 w:=fun _=>rfl
abbrev SeenV:=Int×List UInt8×List (List UInt8)
def noSeen:SeenV:=(0,[],[])
def ofM (up:List NodV) (ls:List (List NodV)) (s:List UInt8):SeenV×Bool:=if splitB s=true then (if (atM up ls (splitS s)).1=0 then (noSeen,false) else if (atM up ls (splitS s)).1=1 then ((1,[],namesV up ls (atM up ls (splitS s)).2.1),true) else (((atM up ls (splitS s)).1,bytM up ls (atM up ls (splitS s)).2.2,[]),true)) else (noSeen,false)
theorem ow_fr {w:World} {base e n c:Nat} {A:Option Addr} {l:List (List UInt8)} (h:Ow st w base e A n c l):RdE Enc.text w (fun b=>base≤b∧b < w.heap.size) A n l:=by
 refine ⟨h.len,fun hn=>?_⟩
 obtain ⟨g,rfl,hb,hl,hc,-⟩:=h.at_ hn
 refine ⟨g,0,rfl,⟨hb,hl⟩,fun i x hx=>⟨[st x],rfl,fun j v hv=>?_⟩⟩
 have hj:j=0:=by have:=(List.getElem?_eq_some_iff.1 hv).1;simpa using this
 subst hj
 obtain rfl:st x=v:=by simpa using hv
 have:=hc i x hx
 simpa [Enc.text,Enc.val] using this
theorem txt_rd {w:World} {B n:Nat} {A:Option Addr} {l:List (List UInt8)} (h:RdE Enc.text w (Under B) A n l):Rd st w B A n l:=by
 refine ⟨h.1,fun hn=>?_⟩
 obtain ⟨b,o,e,hb,hc⟩:=h.2 hn
 refine ⟨b,o,e,hb,fun i x hx=>?_⟩
 obtain ⟨cs,hR,hcs⟩:=hc i x hx
 have hR':cs=[st x]:=hR
 subst hR'
 have:=hcs 0 (st x) rfl
 simpa [Enc.text,Enc.val] using this
def SeenF (w:World) (R:SeenV×Bool) (e:Ending) (w':World):Prop:=∃A n c C m d,e=.returned (.tuple #[.agg (seenC R.1.1 (.slice A n c) (.slice C m d)).toArray,.bool R.2])∧RdE Enc.byte w' (fun b=>w.heap.size≤b∧b < w'.heap.size) A n R.1.2.1∧RdE Enc.text w' (fun b=>w.heap.size≤b∧b < w'.heap.size) C m R.1.2.2∧Below w.heap.size w w'
set_option maxRecDepth 100000 in
set_option maxHeartbeats 8000000 in
theorem MOf_any {g:GeoQ} {AU AL:Option Addr} {nU cU nL cL B:Nat} {up:List NodV} {ls:List (List NodV)} {s:List UInt8} (w:World) (hu:RdE nodEn w (Under B) AU nU up) (h:RdE layEn w (Under B) AL nL ls) (hB:B≤w.heap.size) (hF:FewL ls) (hup:FewU up) (hs:s.length≤1100000):Calls Tryz.prog 26 #[.agg (stkC g (.slice AU nU cU) (.slice AL nL cL)).toArray,.string ⟨s.toArray⟩] w (SeenF w (ofM up ls s)):=by
 obtain ⟨W1,hW1⟩:∃W1,((w.alloc (.cells (stkC g (.slice AU nU cU) (.slice AL nL cL)).toArray 29)).alloc (.cells (seenC 0 (.slice none 0 0) (.slice none 0 0)).toArray 61))=W1:=⟨_,rfl⟩
 obtain ⟨r0,r1,hb1,hs1⟩:=rowA2 w _ _ _ _ hW1
 have hW1':((w.alloc (.cells #[.int .i64 g.a,.int .i64 g.b,.int .i64 g.c,.int .i64 g.d,.slice AU nU cU,.slice AL nL cL] 29)).alloc (.cells #[.int .i64 0,.slice none 0 0,.slice none 0 0] 61))=W1:=hW1
 have R2:=hide r0
 have R4:=hide r1
 have HB:=hide hb1
 have hsz0:=hb1.size
 have HU:=hide (hu.under hb1 hB)
 have HL:=hide (h.under hb1 hB)
 have HF:=hide hF
 have HFU:=hide hup
 have hll:ls.length≤100:=by have:=hF.1;omega
 obtain ⟨sl,hsl⟩:∃sl,splitS s=sl:=⟨_,rfl⟩
 obtain ⟨b,hsb⟩:∃b,splitB s=b:=⟨_,rfl⟩
 have HSL:=hide hsl
 have HSB:=hide hsb
 have hsn:sl.length≤1100001:=by rw [←hsl];have:=split_few s;omega
 obtain ⟨S,hS⟩:∃S,atM up ls sl=S:=⟨_,rfl⟩
 have HR:=hide hS
 have hSn:S.2.1.2.length≤1000:=by rw [←hS];have:=at_few up ls sl;omega
 unfold ofM
 rw [hsl,hsb,hS]
 unfold stkC
 clear r0 r1 hb1 hW1 hu h hF hup hsl hsb hS
 cases b
 ·rw [if_neg (by simp)]
  unfold noSeen
  go_enter Tryz.func26,Tryz.ntmps26
  go_wp2_with (first|(go_at_call 39;refine (PSplit_of HSL.out HSB.out W1 hs).mono ?_;rintro e1 wP ⟨A3,n3,c3,rfl,ho3,hbel⟩;have h3:=ho3.rd;replace HB:=hide (HB.out.trans (hbel.mono HB.out.size));replace R2:=hide (R2.out.on hbel);replace R4:=hide (R4.out.on hbel);replace HU:=hide (HU.out.under hbel (by omega));replace HL:=hide (HL.out.under hbel (by omega));have hsz2:=hbel.size;have HN:=hide h3;clear h3;clear ho3;clear hbel)|(refine wpList_storeW rfl 61 (.tmp 4) (.tmp 18) rfl 3 seen_size (w.heap.size+1) 61 rfl (seenC 0 (.slice none 0 0) (.slice none 0 0)) (seenC 0 (.slice none 0 0) (.slice none 0 0)) rfl R4.out rfl rfl (seenC_one _ _ _ _ _ _ _) ?_;intro wS3 hr3 hg3 hs3;replace HB:=hide (HB.out.grown hg3 (by omega) (pu4 (by omega)));replace R2:=hide (R2.out.grown hg3 (pu5 (by omega)));replace HU:=hide (und_grown HU.out hg3 (by omega) (by omega));replace HL:=hide (und_grown HL.out hg3 (by omega) (by omega));have hsz4:=hg3.size;replace R4:=hide hr3;clear hr3 hg3 hs3))
  exact bodyPost_ret (res_ct Tryz.results26 rfl rfl seen_agg seen_size R4.out rfl) rfl ⟨none,0,0,none,0,0,rfl,RdE.none_ _ _ _ _,RdE.none_ _ _ _ _,HB.out⟩
 ·rw [if_pos rfl]
  by_cases h0:S.1=0
  ·rw [if_pos h0]
   unfold noSeen
   have h01:(S.1==0)=true:=by simpa using h0
   clear h0
   go_enter Tryz.func26,Tryz.ntmps26
   go_wp2_with (first|(go_at_call 39;refine (PSplit_of HSL.out HSB.out W1 hs).mono ?_;rintro e1 wP ⟨A3,n3,c3,rfl,ho3,hbel⟩;have h3:=ho3.rd;replace HB:=hide (HB.out.trans (hbel.mono HB.out.size));replace R2:=hide (R2.out.on hbel);replace R4:=hide (R4.out.on hbel);replace HU:=hide (HU.out.under hbel (by omega));replace HL:=hide (HL.out.under hbel (by omega));have hsz2:=hbel.size;have HN:=hide h3;clear h3;clear ho3;clear hbel)|(refine wpList_loadW rfl 29 (.tmp 2) rfl 6 stk_agg stk_size (w.heap.size) 29 rfl (stkC g (.slice AU nU cU) (.slice AL nL cL)) R2.out rfl ?_)|(go_at_call 21;refine (MAt_any HR.out wP HU.out HL.out (by omega) HF.out HFU.out HN.out (Nat.le_refl _) (by have:=HN.out.1;omega)).mono ?_;rintro e3 wA ⟨A5,c5,rfl,h5,hbel⟩;replace HB:=hide (HB.out.trans (hbel.mono HB.out.size));replace R2:=hide (R2.out.on hbel);replace R4:=hide (R4.out.on hbel);replace HU:=hide (HU.out.under hbel (by omega));replace HL:=hide (HL.out.under hbel (by omega));replace HN:=hide (HN.out.below (hbel.mono (by omega)));have hsz4:=hbel.size;have H5:=hide h5;clear h5;clear hbel)|(obtain ⟨hz9,hz10,hzb,hzs⟩:=rows2 wA (viwC 0 (.slice none 0 0)) (prC (0,0)) 47 49;refine wpList_storeW rfl 47 (.tmp 9) (.tmp 24) rfl 2 viw_size (wA.heap.size) 47 rfl (viwC 0 (.slice none 0 0)) (viwC S.2.1.1 (.slice A5 S.2.1.2.length c5)) rfl hz9 rfl rfl (viwC_one _ _ _ _) ?_;intro wS5 hr5 hg5 hs5;replace hzb:=hzb.grown hg5 hzb.size (pu4 (by omega));replace hz10:=hz10.grown hg5 (pu5 (by omega));have hz9:=hr5;clear hg5 hs5 hr5)|(refine wpList_storeW rfl 49 (.tmp 10) (.tmp 25) rfl 2 plc_size (wA.heap.size+1) 49 rfl (prC (0,0)) (prC S.2.2) rfl hz10 rfl rfl (prC_one _) ?_;intro wS6 hr6 hg6 hs6;replace hzb:=hzb.grown hg6 hzb.size (pu4 (by omega));replace hz9:=hz9.grown hg6 (pu5 (by omega));have hz10:=hr6;replace HB:=hide (HB.out.trans (hzb.mono HB.out.size));replace R2:=hide (R2.out.on hzb);replace R4:=hide (R4.out.on hzb);replace HU:=hide (HU.out.under hzb (by omega));replace HL:=hide (HL.out.under hzb (by omega));replace HN:=hide (HN.out.below (hzb.mono (by omega)));replace H5:=hide (fr_on H5.out hzb);have hsz7:=hzb.size;have R9:=hide hz9;have hlt5:=hz9.lt;have R10:=hide hz10;have hlt6:=hz10.lt;clear hzb hzs hz9 hz10;clear hg6 hs6)|(refine wpList_storeW rfl 61 (.tmp 4) (.tmp 29) rfl 3 seen_size (w.heap.size+1) 61 rfl (seenC 0 (.slice none 0 0) (.slice none 0 0)) (seenC 0 (.slice none 0 0) (.slice none 0 0)) rfl R4.out rfl rfl (seenC_one _ _ _ _ _ _ _) ?_;intro wS8 hr8 hg8 hs8;replace HB:=hide (HB.out.grown hg8 (by omega) (pu4 (by omega)));replace R2:=hide (R2.out.grown hg8 (pu5 (by omega)));replace HU:=hide (und_grown HU.out hg8 (by omega) (by omega));replace HL:=hide (und_grown HL.out hg8 (by omega) (by omega));replace H5:=hide (fr_grown H5.out hg8 (by omega));replace R9:=hide (R9.out.grown hg8 (pu5 (by omega)));replace R10:=hide (R10.out.grown hg8 (pu5 (by omega)));have hsz9:=hg8.size;replace R4:=hide hr8;clear hr8 hg8 hs8))
   exact bodyPost_ret (res_ct Tryz.results26 rfl rfl seen_agg seen_size R4.out rfl) rfl ⟨none,0,0,none,0,0,rfl,RdE.none_ _ _ _ _,RdE.none_ _ _ _ _,HB.out⟩
  ·rw [if_neg h0]
   have h01:(S.1==0)=false:=by simpa using h0
   by_cases h1:S.1=1
   ·rw [if_pos h1,←h1]
    have h11:(S.1==1)=true:=by simpa using h1
    obtain ⟨L,hL⟩:∃L,namesV up ls S.2.1=L:=⟨_,rfl⟩
    have HNV:=hide (show namesV up ls (S.2.1.1,S.2.1.2)=L from hL)
    rw [hL]
    clear h0 h1 hL
    go_enter Tryz.func26,Tryz.ntmps26
    go_wp2_with (first|(go_at_call 39;refine (PSplit_of HSL.out HSB.out W1 hs).mono ?_;rintro e1 wP ⟨A3,n3,c3,rfl,ho3,hbel⟩;have h3:=ho3.rd;replace HB:=hide (HB.out.trans (hbel.mono HB.out.size));replace R2:=hide (R2.out.on hbel);replace R4:=hide (R4.out.on hbel);replace HU:=hide (HU.out.under hbel (by omega));replace HL:=hide (HL.out.under hbel (by omega));have hsz2:=hbel.size;have HN:=hide h3;clear h3;clear ho3;clear hbel)|(refine wpList_loadW rfl 29 (.tmp 2) rfl 6 stk_agg stk_size (w.heap.size) 29 rfl (stkC g (.slice AU nU cU) (.slice AL nL cL)) R2.out rfl ?_)|(go_at_call 21;refine (MAt_any HR.out wP HU.out HL.out (by omega) HF.out HFU.out HN.out (Nat.le_refl _) (by have:=HN.out.1;omega)).mono ?_;rintro e3 wA ⟨A5,c5,rfl,h5,hbel⟩;replace HB:=hide (HB.out.trans (hbel.mono HB.out.size));replace R2:=hide (R2.out.on hbel);replace R4:=hide (R4.out.on hbel);replace HU:=hide (HU.out.under hbel (by omega));replace HL:=hide (HL.out.under hbel (by omega));replace HN:=hide (HN.out.below (hbel.mono (by omega)));have hsz4:=hbel.size;have H5:=hide h5;clear h5;clear hbel)|(obtain ⟨hz9,hz10,hzb,hzs⟩:=rows2 wA (viwC 0 (.slice none 0 0)) (prC (0,0)) 47 49;refine wpList_storeW rfl 47 (.tmp 9) (.tmp 24) rfl 2 viw_size (wA.heap.size) 47 rfl (viwC 0 (.slice none 0 0)) (viwC S.2.1.1 (.slice A5 S.2.1.2.length c5)) rfl hz9 rfl rfl (viwC_one _ _ _ _) ?_;intro wS5 hr5 hg5 hs5;replace hzb:=hzb.grown hg5 hzb.size (pu4 (by omega));replace hz10:=hz10.grown hg5 (pu5 (by omega));have hz9:=hr5;clear hg5 hs5 hr5)|(refine wpList_storeW rfl 49 (.tmp 10) (.tmp 25) rfl 2 plc_size (wA.heap.size+1) 49 rfl (prC (0,0)) (prC S.2.2) rfl hz10 rfl rfl (prC_one _) ?_;intro wS6 hr6 hg6 hs6;replace hzb:=hzb.grown hg6 hzb.size (pu4 (by omega));replace hz9:=hz9.grown hg6 (pu5 (by omega));have hz10:=hr6;replace HB:=hide (HB.out.trans (hzb.mono HB.out.size));replace R2:=hide (R2.out.on hzb);replace R4:=hide (R4.out.on hzb);replace HU:=hide (HU.out.under hzb (by omega));replace HL:=hide (HL.out.under hzb (by omega));replace HN:=hide (HN.out.below (hzb.mono (by omega)));replace H5:=hide (fr_on H5.out hzb);have hsz7:=hzb.size;have R9:=hide hz9;have hlt5:=hz9.lt;have R10:=hide hz10;have hlt6:=hz10.lt;clear hzb hzs hz9 hz10;clear hg6 hs6)|(refine wpList_loadW rfl 29 (.tmp 2) rfl 6 stk_agg stk_size (w.heap.size) 29 rfl (stkC g (.slice AU nU cU) (.slice AL nL cL)) R2.out rfl ?_)|(refine wpList_loadW rfl 47 (.tmp 9) rfl 2 viw_agg viw_size (wA.heap.size) 47 rfl (viwC S.2.1.1 (.slice A5 S.2.1.2.length c5)) R9.out rfl ?_)|(go_at_call 19;refine (VNames_e (u:=S.2.1.1) (cV:=c5) HNV.out wS6 HU.out HL.out (by omega) HF.out HFU.out (fr_under H5.out) (Nat.le_refl _) (by omega)).mono ?_;rintro e8 wM ⟨A6,n6,c6,rfl,h6,hbel⟩;replace HB:=hide (HB.out.trans (hbel.mono HB.out.size));replace R2:=hide (R2.out.on hbel);replace R4:=hide (R4.out.on hbel);replace HU:=hide (HU.out.under hbel (by omega));replace HL:=hide (HL.out.under hbel (by omega));replace H5:=hide (fr_on H5.out hbel);replace R9:=hide (R9.out.on hbel);replace R10:=hide (R10.out.on hbel);have hsz9:=hbel.size;have H6:=hide (fr_low (ow_fr h6) (by omega));clear h6;clear hbel)|(refine wpList_storeW rfl 61 (.tmp 4) (.tmp 36) rfl 3 seen_size (w.heap.size+1) 61 rfl (seenC 0 (.slice none 0 0) (.slice none 0 0)) (seenC S.1 (.slice none 0 0) (.slice A6 n6 c6)) rfl R4.out rfl rfl (seenC_one _ _ _ _ _ _ _) ?_;intro wS10 hr10 hg10 hs10;replace HB:=hide (HB.out.grown hg10 (by omega) (pu4 (by omega)));replace R2:=hide (R2.out.grown hg10 (pu5 (by omega)));replace HU:=hide (und_grown HU.out hg10 (by omega) (by omega));replace HL:=hide (und_grown HL.out hg10 (by omega) (by omega));replace H5:=hide (fr_grown H5.out hg10 (by omega));replace R9:=hide (R9.out.grown hg10 (pu5 (by omega)));replace R10:=hide (R10.out.grown hg10 (pu5 (by omega)));replace H6:=hide (fr_grown H6.out hg10 (by omega));have hsz11:=hg10.size;replace R4:=hide hr10;clear hr10 hg10 hs10))
    exact bodyPost_ret (res_ct Tryz.results26 rfl rfl seen_agg seen_size R4.out rfl) rfl ⟨none,0,0,A6,n6,c6,rfl,RdE.none_ _ _ _ _,fr_low H6.out (by omega),HB.out⟩
   ·rw [if_neg h1]
    have h11:(S.1==1)=false:=by simpa using h1
    obtain ⟨L,hL⟩:∃L,bytM up ls S.2.2=L:=⟨_,rfl⟩
    have HBY:=hide hL
    rw [hL]
    clear h0 h1 hL
    go_enter Tryz.func26,Tryz.ntmps26
    go_wp2_with (first|(go_at_call 39;refine (PSplit_of HSL.out HSB.out W1 hs).mono ?_;rintro e1 wP ⟨A3,n3,c3,rfl,ho3,hbel⟩;have h3:=ho3.rd;replace HB:=hide (HB.out.trans (hbel.mono HB.out.size));replace R2:=hide (R2.out.on hbel);replace R4:=hide (R4.out.on hbel);replace HU:=hide (HU.out.under hbel (by omega));replace HL:=hide (HL.out.under hbel (by omega));have hsz2:=hbel.size;have HN:=hide h3;clear h3;clear ho3;clear hbel)|(refine wpList_loadW rfl 29 (.tmp 2) rfl 6 stk_agg stk_size (w.heap.size) 29 rfl (stkC g (.slice AU nU cU) (.slice AL nL cL)) R2.out rfl ?_)|(go_at_call 21;refine (MAt_any HR.out wP HU.out HL.out (by omega) HF.out HFU.out HN.out (Nat.le_refl _) (by have:=HN.out.1;omega)).mono ?_;rintro e3 wA ⟨A5,c5,rfl,h5,hbel⟩;replace HB:=hide (HB.out.trans (hbel.mono HB.out.size));replace R2:=hide (R2.out.on hbel);replace R4:=hide (R4.out.on hbel);replace HU:=hide (HU.out.under hbel (by omega));replace HL:=hide (HL.out.under hbel (by omega));replace HN:=hide (HN.out.below (hbel.mono (by omega)));have hsz4:=hbel.size;have H5:=hide h5;clear h5;clear hbel)|(obtain ⟨hz9,hz10,hzb,hzs⟩:=rows2 wA (viwC 0 (.slice none 0 0)) (prC (0,0)) 47 49;refine wpList_storeW rfl 47 (.tmp 9) (.tmp 24) rfl 2 viw_size (wA.heap.size) 47 rfl (viwC 0 (.slice none 0 0)) (viwC S.2.1.1 (.slice A5 S.2.1.2.length c5)) rfl hz9 rfl rfl (viwC_one _ _ _ _) ?_;intro wS5 hr5 hg5 hs5;replace hzb:=hzb.grown hg5 hzb.size (pu4 (by omega));replace hz10:=hz10.grown hg5 (pu5 (by omega));have hz9:=hr5;clear hg5 hs5 hr5)|(refine wpList_storeW rfl 49 (.tmp 10) (.tmp 25) rfl 2 plc_size (wA.heap.size+1) 49 rfl (prC (0,0)) (prC S.2.2) rfl hz10 rfl rfl (prC_one _) ?_;intro wS6 hr6 hg6 hs6;replace hzb:=hzb.grown hg6 hzb.size (pu4 (by omega));replace hz9:=hz9.grown hg6 (pu5 (by omega));have hz10:=hr6;replace HB:=hide (HB.out.trans (hzb.mono HB.out.size));replace R2:=hide (R2.out.on hzb);replace R4:=hide (R4.out.on hzb);replace HU:=hide (HU.out.under hzb (by omega));replace HL:=hide (HL.out.under hzb (by omega));replace HN:=hide (HN.out.below (hzb.mono (by omega)));replace H5:=hide (fr_on H5.out hzb);have hsz7:=hzb.size;have R9:=hide hz9;have hlt5:=hz9.lt;have R10:=hide hz10;have hlt6:=hz10.lt;clear hzb hzs hz9 hz10;clear hg6 hs6)|(refine wpList_loadW rfl 29 (.tmp 2) rfl 6 stk_agg stk_size (w.heap.size) 29 rfl (stkC g (.slice AU nU cU) (.slice AL nL cL)) R2.out rfl ?_)|(refine wpList_loadW rfl 49 (.tmp 10) rfl 2 plc_agg plc_size (wA.heap.size+1) 49 rfl (prC S.2.2) R10.out rfl ?_)|(go_at_call 24;refine (MBytes_any HBY.out wS6 HU.out HL.out (by omega) HF.out HFU.out).mono ?_;rintro e8 wM ⟨A6,c6,rfl,h6,hbel⟩;replace HB:=hide (HB.out.trans (hbel.mono HB.out.size));replace R2:=hide (R2.out.on hbel);replace R4:=hide (R4.out.on hbel);replace HU:=hide (HU.out.under hbel (by omega));replace HL:=hide (HL.out.under hbel (by omega));replace H5:=hide (fr_on H5.out hbel);replace R9:=hide (R9.out.on hbel);replace R10:=hide (R10.out.on hbel);have hsz9:=hbel.size;have H6:=hide (fr_low (own_fr h6) (by omega));clear h6;clear hbel)|(refine wpList_storeW rfl 61 (.tmp 4) (.tmp 41) rfl 3 seen_size (w.heap.size+1) 61 rfl (seenC 0 (.slice none 0 0) (.slice none 0 0)) (seenC S.1 (.slice A6 L.length c6) (.slice none 0 0)) rfl R4.out rfl rfl (seenC_one _ _ _ _ _ _ _) ?_;intro wS10 hr10 hg10 hs10;replace HB:=hide (HB.out.grown hg10 (by omega) (pu4 (by omega)));replace R2:=hide (R2.out.grown hg10 (pu5 (by omega)));replace HU:=hide (und_grown HU.out hg10 (by omega) (by omega));replace HL:=hide (und_grown HL.out hg10 (by omega) (by omega));replace H5:=hide (fr_grown H5.out hg10 (by omega));replace R9:=hide (R9.out.grown hg10 (pu5 (by omega)));replace R10:=hide (R10.out.grown hg10 (pu5 (by omega)));replace H6:=hide (fr_grown H6.out hg10 (by omega));have hsz11:=hg10.size;replace R4:=hide hr10;clear hr10 hg10 hs10))
    exact bodyPost_ret (res_ct Tryz.results26 rfl rfl seen_agg seen_size R4.out rfl) rfl ⟨A6,L.length,c6,none,0,0,rfl,fr_low H6.out (by omega),RdE.none_ _ _ _ _,HB.out⟩
set_option maxRecDepth 100000 in
set_option maxHeartbeats 4000000 in
theorem MSame_any {S R:SeenV} {A1 A2 C1 C2:Option Addr} {n1 c1 n2 c2 m1 d1 m2 d2:Nat} {b:Bool} (hr:decide (S=R)=b) (w:World) (h1:Bs w w.heap.size A1 n1 S.2.1) (h2:Bs w w.heap.size A2 n2 R.2.1) (k1:Rd st w w.heap.size C1 m1 S.2.2) (k2:Rd st w w.heap.size C2 m2 R.2.2) (hm1:m1≤100000000) :
  Calls Tryz.prog 75 #[.agg (seenC S.1 (.slice A1 n1 c1) (.slice C1 m1 d1)).toArray,.agg (seenC R.1 (.slice A2 n2 c2) (.slice C2 m2 d2)).toArray] w (BoolB w b):=by
 obtain ⟨W1,hW1⟩:∃W1,((w.alloc (.cells (seenC S.1 (.slice A1 n1 c1) (.slice C1 m1 d1)).toArray 61)).alloc (.cells (seenC R.1 (.slice A2 n2 c2) (.slice C2 m2 d2)).toArray 61))=W1:=⟨_,rfl⟩
 obtain ⟨r0,r1,hb1,hs1⟩:=rowA2 w _ _ _ _ hW1
 have hW1':((w.alloc (.cells #[.int .i64 S.1,.slice A1 n1 c1,.slice C1 m1 d1] 61)).alloc (.cells #[.int .i64 R.1,.slice A2 n2 c2,.slice C2 m2 d2] 61))=W1:=hW1
 have R2:=hide r0
 have R3:=hide r1
 have HB:=hide hb1
 have hsz0:=hb1.size
 have HD1:=hide (h1.below hb1)
 have HD2:=hide (h2.below hb1)
 have HN1:=hide (k1.below hb1)
 have HN2:=hide (k2.below hb1)
 obtain ⟨x,hx⟩:∃x,(S.2.1==R.2.1)=x:=⟨_,rfl⟩
 obtain ⟨y,hy⟩:∃y,(S.2.2==R.2.2)=y:=⟨_,rfl⟩
 have hm1':m1≤140737488355328:=by omega
 obtain ⟨k,s1,s2⟩:=S
 obtain ⟨k',r1,r2⟩:=R
 have hbx:b=(decide (k=k')&&(x&&y)):=by
  rw [←hr,←hx,←hy,Bool.eq_iff_iff]
  simp [Prod.ext_iff]
 dsimp only at hx hy HD1 HD2 HN1 HN2 R2 R3
 have HX:=hide hx
 have HY:=hide hy
 have q2_0:W1.cell? ⟨w.heap.size,0,none⟩=some (.int .i64 k):=R2.out.cell 0
 have q3_0:W1.cell? ⟨w.heap.size+1,0,none⟩=some (.int .i64 k'):=R3.out.cell 0
 have q2_1:W1.cell? ⟨w.heap.size,1,none⟩=some (.slice A1 n1 c1):=R2.out.cell 1
 have q3_1:W1.cell? ⟨w.heap.size+1,1,none⟩=some (.slice A2 n2 c2):=R3.out.cell 1
 have q2_2:W1.cell? ⟨w.heap.size,2,none⟩=some (.slice C1 m1 d1):=R2.out.cell 2
 have q3_2:W1.cell? ⟨w.heap.size+1,2,none⟩=some (.slice C2 m2 d2):=R3.out.cell 2
 unfold seenC
 subst hbx
 clear r0 r1 hb1 hW1 h1 h2 k1 k2 hx hy hr
 dsimp only
 by_cases hk:k=k'
 ·have hk1:(k==k')=true:=by simpa using hk
  rw [decide_eq_true hk]
  clear hk
  cases x
  ·go_enter Tryz.func75,Tryz.ntmps75
   go_wp2_with (first|(go_at_call 23;refine (BEqual_b W1 HD1.out HD2.out HX.out).mono ?_;rintro e1 w9 ⟨rfl,rfl⟩))
   go_ret
   exact BoolB.of HB.out
  ·cases y
   ·go_enter Tryz.func75,Tryz.ntmps75
    go_wp2_with (first|(go_at_call 23;refine (BEqual_b W1 HD1.out HD2.out HX.out).mono ?_;rintro e1 w9 ⟨rfl,rfl⟩)|(go_at_call 36;refine (EqS_b HY.out W1 HN1.out HN2.out hm1').mono ?_;rintro e2 wS ⟨rfl,hbel⟩;have HBX:=hide hbel;clear hbel))
    go_ret
    exact BoolB.of (HB.out.trans (HBX.out.mono (by omega)))
   ·go_enter Tryz.func75,Tryz.ntmps75
    go_wp2_with (first|(go_at_call 23;refine (BEqual_b W1 HD1.out HD2.out HX.out).mono ?_;rintro e1 w9 ⟨rfl,rfl⟩)|(go_at_call 36;refine (EqS_b HY.out W1 HN1.out HN2.out hm1').mono ?_;rintro e2 wS ⟨rfl,hbel⟩;have HBX:=hide hbel;clear hbel))
    go_ret
    exact BoolB.of (HB.out.trans (HBX.out.mono (by omega)))
 ·have hk1:(k==k')=false:=by simpa using hk
  rw [decide_eq_false hk]
  clear hk
  go_enter Tryz.func75,Tryz.ntmps75
  go_wp2_with fail
  go_ret
  exact BoolB.of HB.out
end Go.Proofs.YthdoimgbbabcaaaGreat

