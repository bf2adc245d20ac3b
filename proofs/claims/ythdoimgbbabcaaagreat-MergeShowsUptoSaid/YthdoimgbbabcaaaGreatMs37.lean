import Derived.Test.YthdoimgbbabcaaaGreatMs36

namespace Go.Proofs.YthdoimgbbabcaaaGreat
open Go.RowKit Go.Shelf Plain

def Off (B lo hi b:Nat):Prop:=b < B∨(lo≤b∧b < hi)
def OffR {α:Type} (E:Enc α) (w:World) (B lo hi:Nat) (A:Option Addr) (n:Nat) (l:List α):Prop:=RdE E w (Off B lo hi) A n l∧hi≤w.heap.size
theorem off_on {α:Type} {E:Enc α} {w w':World} {B lo hi:Nat} {A:Option Addr} {n:Nat} {l:List α} (h:OffR E w B lo hi A n l) (hb:Below w.heap.size w w') (hh:B≤w.heap.size):OffR E w' B lo hi A n l:=⟨h.1.mono (Kept.of_below hb fun b k=>by have:=h.2;unfold Off at k;omega) fun _ h=>h,Nat.le_trans h.2 hb.size⟩
theorem off_grown {α:Type} {E:Enc α} {w w':World} {B lo hi g:Nat} {A:Option Addr} {n:Nat} {l:List α} (h:OffR E w B lo hi A n l) (hg:w.grownBy w' (some g)) (h1:B≤w.heap.size) (hne:B≤g∧(g < lo∨hi≤g)):OffR E w' B lo hi A n l:=⟨h.1.mono (fun b hb=>hg.block b (by have:=h.2;unfold Off at hb;omega) (fun e=>by have:=Option.some.inj e;unfold Off at hb;omega)) fun _ h=>h,Nat.le_trans h.2 hg.size⟩
theorem off_und {α:Type} {E:Enc α} {w:World} {B lo hi:Nat} {A:Option Addr} {n:Nat} {l:List α} (h:OffR E w B lo hi A n l) (h1:B≤w.heap.size):RdE E w (Under w.heap.size) A n l:=h.1.mono (fun _ _=>rfl) fun b hb=>by have:=h.2;unfold Off at hb;unfold Under;omega
def SeenO (B:Nat) (w:World) (k:Int) (d:List UInt8) (n:List (List UInt8)) (b:Bool) (e:Ending) (w':World):Prop:=∃A nd c C nn f lo hi,e=.returned (.tuple #[.agg (seenC k (.slice A nd c) (.slice C nn f)).toArray,.bool b])∧w.heap.size≤lo∧hi≤w'.heap.size∧RdE Enc.byte w' (Off B lo hi) A nd d∧RdE Enc.text w' (Off B lo hi) C nn n∧Below w.heap.size w w'
theorem MOf_r {g:GeoQ} {AU AL:Option Addr} {nU cU nL cL B:Nat} {up:List NodV} {ls:List (List NodV)} {s:List UInt8} {k:Int} {d:List UInt8} {n:List (List UInt8)} {b:Bool} (hs:ofM up ls s=((k,d,n),b)) (w:World) (hu:RdE nodEn w (Under B) AU nU up) (h:RdE layEn w (Under B) AL nL ls) (hB:B≤w.heap.size) (hF:FewL ls) (hup:FewU up) (hsl:s.length≤1100000):Calls Tryz.prog 26 #[.agg (stkC g (.slice AU nU cU) (.slice AL nL cL)).toArray,.string ⟨s.toArray⟩] w (SeenO B w k d n b):=by
 refine (MOf_any (s:=s) w hu h hB hF hup hsl).mono ?_
 rw [hs]
 rintro e w' ⟨A,m,c,C,m',f,rfl,h1,h2,h3⟩
 exact ⟨A,m,c,C,m',f,w.heap.size,w'.heap.size,rfl,Nat.le_refl _,Nat.le_refl _,h1.mono (fun _ _=>rfl) (fun _ hb=>.inr hb),h2.mono (fun _ _=>rfl) (fun _ hb=>.inr hb),h3⟩
theorem RMOf_r {g:GeoQ} {AU AL:Option Addr} {nU cU nL cL B:Nat} {up:List NodV} {ls:List (List NodV)} {s:List UInt8} {k:Int} {d:List UInt8} {n:List (List UInt8)} {b:Bool} (hs:ofM up ls s=((k,d,n),b)) (w:World) (hu:RdE nodEn w (Under B) AU nU up) (h:RdE layEn w (Under B) AL nL ls) (hB:B≤w.heap.size) (hF:FewL ls) (hup:FewU up) (hsl:s.length≤1100000):Calls Tryz.prog 28 #[.agg (stkC g (.slice AU nU cU) (.slice AL nL cL)).toArray,.string ⟨s.toArray⟩] w (SeenO B w k d n b):=by
 refine (RMOf_any (s:=s) w hu h hB hF hup hsl).mono ?_
 rw [hs]
 rintro e w' ⟨A,m,c,C,m',f,rfl,h1,h2,h3⟩
 exact ⟨A,m,c,C,m',f,w.heap.size,w'.heap.size,rfl,Nat.le_refl _,Nat.le_refl _,h1.mono (fun _ _=>rfl) (fun _ hb=>.inl hb),h2.mono (fun _ _=>rfl) (fun _ hb=>.inr hb),h3⟩
set_option maxRecDepth 100000 in
set_option maxHeartbeats 16000000 in
theorem law_MergeShows {g:GeoQ} {AU AL AN:Option Addr} {nU cU nL cL nN cN:Nat} {up:List NodV} {ls:List (List NodV)} {names:List (List UInt8)} {p:Int×Int} (w:World) (hu:RdE nodEn w (Under w.heap.size) AU nU up) (h:RdE layEn w (Under w.heap.size) AL nL ls) (hfu:FineN up) (hfl:∀ns∈ls,FineN ns) (hn:Rd st w w.heap.size AN nN names) (hNc:nN≤cN) (ht:totL names≤1048576) :
  Calls Tryz.prog 4 #[.agg (stkC g (.slice AU nU cU) (.slice AL nL cL)).toArray,.slice AN nN cN,.agg (prC p).toArray] w (LawOk w):=by
 obtain ⟨W1,hW1⟩:∃W1,((w.alloc (.cells (stkC g (.slice AU nU cU) (.slice AL nL cL)).toArray 29)).alloc (.cells (prC p).toArray 49))=W1:=⟨_,rfl⟩
 obtain ⟨r0,r1,hb1,hs1⟩:=rowA2 w _ _ _ _ hW1
 have hW1':((w.alloc (.cells #[.int .i64 g.a,.int .i64 g.b,.int .i64 g.c,.int .i64 g.d,.slice AU nU cU,.slice AL nL cL] 29)).alloc (.cells #[.int .i64 p.1,.int .i64 p.2] 49))=W1:=hW1
 have R3:=hide r0
 have R5:=hide r1
 have HB:=hide hb1
 have hsz0:=hb1.size
 have HU:=hide (hu.under hb1 (Nat.le_refl _))
 have HL:=hide (h.under hb1 (Nat.le_refl _))
 have HN:=hide (hn.below hb1)
 have HFN:=hide hfu
 have HFL:=hide hfl
 have q3_0:W1.cell? ⟨w.heap.size,0,none⟩=some (.int .i64 g.a):=R3.out.cell 0
 have q3_1:W1.cell? ⟨w.heap.size,1,none⟩=some (.int .i64 g.b):=R3.out.cell 1
 have q3_2:W1.cell? ⟨w.heap.size,2,none⟩=some (.int .i64 g.c):=R3.out.cell 2
 have q3_3:W1.cell? ⟨w.heap.size,3,none⟩=some (.int .i64 g.d):=R3.out.cell 3
 have q3_4:W1.cell? ⟨w.heap.size,4,none⟩=some (.slice AU nU cU):=R3.out.cell 4
 have q3_5:W1.cell? ⟨w.heap.size,5,none⟩=some (.slice AL nL cL):=R3.out.cell 5
 have q5_0:W1.cell? ⟨w.heap.size+1,0,none⟩=some (.int .i64 p.1):=R5.out.cell 0
 have q5_1:W1.cell? ⟨w.heap.size+1,1,none⟩=some (.int .i64 p.2):=R5.out.cell 1
 unfold stkC prC
 clear r0 r1 hb1 hW1 hu h hfu hfl hn
 go_enter Tryz.func4,Tryz.ntmps4
 go_wp2_with (first|(refine wpList_loadW rfl 29 (.tmp 3) rfl 6 stk_agg stk_size (w.heap.size) 29 rfl (stkC g (.slice AU nU cU) (.slice AL nL cL)) R3.out rfl ?_))
 clear hW1'
 refine (PStack_any W1 (und_up HU.out (by omega)) (und_up HL.out (by omega)) HFN.out HFL.out).mono ?_
 rintro e w2 ⟨p0,rfl,hb2,hq⟩
 have HQP:=hide hq
 clear q3_0 q3_1 q3_2 q3_3 q3_4 q3_5 q5_0 q5_1
 replace HB:=hide (HB.out.trans (hb2.mono HB.out.size))
 replace R3:=hide (R3.out.on hb2)
 replace R5:=hide (R5.out.on hb2)
 replace HU:=hide (HU.out.under hb2 (by omega))
 replace HL:=hide (HL.out.under hb2 (by omega))
 replace HN:=hide (HN.out.below (hb2.mono (by omega)))
 have hsz1:=hb2.size
 have q3_0:w2.cell? ⟨w.heap.size,0,none⟩=some (.int .i64 g.a):=R3.out.cell 0
 have q3_1:w2.cell? ⟨w.heap.size,1,none⟩=some (.int .i64 g.b):=R3.out.cell 1
 have q3_2:w2.cell? ⟨w.heap.size,2,none⟩=some (.int .i64 g.c):=R3.out.cell 2
 have q3_3:w2.cell? ⟨w.heap.size,3,none⟩=some (.int .i64 g.d):=R3.out.cell 3
 have q3_4:w2.cell? ⟨w.heap.size,4,none⟩=some (.slice AU nU cU):=R3.out.cell 4
 have q3_5:w2.cell? ⟨w.heap.size,5,none⟩=some (.slice AL nL cL):=R3.out.cell 5
 have q5_0:w2.cell? ⟨w.heap.size+1,0,none⟩=some (.int .i64 p.1):=R5.out.cell 0
 have q5_1:w2.cell? ⟨w.heap.size+1,1,none⟩=some (.int .i64 p.2):=R5.out.cell 1
 clear hq hb2
 cases p0
 ·go_wp2_with (go_at_call 20;refine (awake18_any _).mono ?_;rintro e98 wz ⟨rfl,hbz⟩;replace HB:=hide (HB.out.trans (hbz.mono HB.out.size));clear hbz)
  go_ret
  exact LawOk.of HB.out
 by_cases hk8:(8:Int) < (nN:Int)
 ·have dk8:decide ((8:Int) < (nN:Int))=true:=decide_eq_true hk8
  go_wp2_with (go_at_call 20;refine (awake18_any _).mono ?_;rintro e98 wz ⟨rfl,hbz⟩;replace HB:=hide (HB.out.trans (hbz.mono HB.out.size));clear hbz)
  go_ret
  exact LawOk.of HB.out
 have dk8:decide ((8:Int) < (nN:Int))=false:=decide_eq_false hk8
 obtain ⟨hF,hfew⟩:=HQP.out (by first|rfl|trivial)
 have HF:=hide hF
 have HFU:=hide (show FewU up from ⟨by have:=hfew.1;omega,hfew.2⟩)
 have hN8:nN≤8:=by omega
 obtain ⟨S,hS⟩:∃S,atM up ls names=S:=⟨_,rfl⟩
 have HS:=hide hS
 obtain ⟨L,hL⟩:∃L,bytM up ls p=L:=⟨_,rfl⟩
 have HBY:=hide hL
 have hof:=of_few hF HFU.out (joinS names)
 obtain ⟨⟨⟨k,d,nm⟩,r⟩,hO⟩:∃O,ofM up ls (joinS names)=O:=⟨_,rfl⟩
 have HO:=hide hO
 rw [hO] at hof
 dsimp only at hof
 obtain ⟨hd1,hn1⟩:=hof
 have hsl:(joinS names).length≤1100000:=by have:=joinS_length names;omega
 clear hF hfew HQP HFN HFL hS hL hO hk8
 go_wp2_with (first|(refine wpList_loadW rfl 29 (.tmp 3) rfl 6 stk_agg stk_size (w.heap.size) 29 rfl (stkC g (.slice AU nU cU) (.slice AL nL cL)) R3.out rfl ?_)|(go_at_call 21;refine (MAt_any HS.out w2 HU.out HL.out (by omega) HF.out HFU.out HN.out (by omega) (by omega)).mono ?_;rintro e2 wA ⟨A3,c3,rfl,h3,hbel⟩;replace h3:=fr_under h3;clear q3_0 q3_1 q3_2 q3_3 q3_4 q3_5 q5_0 q5_1;replace HB:=hide (HB.out.trans (hbel.mono HB.out.size));replace R3:=hide (R3.out.on hbel);replace R5:=hide (R5.out.on hbel);replace HU:=hide (HU.out.under hbel (by omega));replace HL:=hide (HL.out.under hbel (by omega));replace HN:=hide (HN.out.below (hbel.mono (by omega)));have hsz3:=hbel.size;have q3_0:wA.cell? ⟨w.heap.size,0,none⟩=some (.int .i64 g.a):=R3.out.cell 0;have q3_1:wA.cell? ⟨w.heap.size,1,none⟩=some (.int .i64 g.b):=R3.out.cell 1;have q3_2:wA.cell? ⟨w.heap.size,2,none⟩=some (.int .i64 g.c):=R3.out.cell 2;have q3_3:wA.cell? ⟨w.heap.size,3,none⟩=some (.int .i64 g.d):=R3.out.cell 3;have q3_4:wA.cell? ⟨w.heap.size,4,none⟩=some (.slice AU nU cU):=R3.out.cell 4;have q3_5:wA.cell? ⟨w.heap.size,5,none⟩=some (.slice AL nL cL):=R3.out.cell 5;have q5_0:wA.cell? ⟨w.heap.size+1,0,none⟩=some (.int .i64 p.1):=R5.out.cell 0;have q5_1:wA.cell? ⟨w.heap.size+1,1,none⟩=some (.int .i64 p.2):=R5.out.cell 1;have H3:=hide h3;clear h3;clear hbel)|(obtain ⟨hz8,hz9,hzb,hzs⟩:=rows2 wA (viwC 0 (.slice none 0 0)) (prC (0,0)) 47 49;refine wpList_storeW rfl 47 (.tmp 8) (.tmp 31) rfl 2 viw_size (wA.heap.size) 47 rfl (viwC 0 (.slice none 0 0)) (viwC S.2.1.1 (.slice A3 S.2.1.2.length c3)) rfl hz8 rfl rfl (viwC_one _ _ _ _) ?_;intro wS4 hr4 hg4 hs4;replace hzb:=hzb.grown hg4 hzb.size (pu4 (by omega));replace hz9:=hz9.grown hg4 (pu5 (by omega));have hz8:=hr4;clear hg4 hs4 hr4)|(refine wpList_storeW rfl 49 (.tmp 9) (.tmp 32) rfl 2 plc_size (wA.heap.size+1) 49 rfl (prC (0,0)) (prC S.2.2) rfl hz9 rfl rfl (prC_one _) ?_;intro wS5 hr5 hg5 hs5;replace hzb:=hzb.grown hg5 hzb.size (pu4 (by omega));replace hz8:=hz8.grown hg5 (pu5 (by omega));have hz9:=hr5;clear q3_0 q3_1 q3_2 q3_3 q3_4 q3_5 q5_0 q5_1;replace HB:=hide (HB.out.trans (hzb.mono HB.out.size));replace R3:=hide (R3.out.on hzb);replace R5:=hide (R5.out.on hzb);replace HU:=hide (HU.out.under hzb (by omega));replace HL:=hide (HL.out.under hzb (by omega));replace HN:=hide (HN.out.below (hzb.mono (by omega)));replace H3:=hide (H3.out.under hzb (by omega));have hsz6:=hzb.size;have q3_0:wS5.cell? ⟨w.heap.size,0,none⟩=some (.int .i64 g.a):=R3.out.cell 0;have q3_1:wS5.cell? ⟨w.heap.size,1,none⟩=some (.int .i64 g.b):=R3.out.cell 1;have q3_2:wS5.cell? ⟨w.heap.size,2,none⟩=some (.int .i64 g.c):=R3.out.cell 2;have q3_3:wS5.cell? ⟨w.heap.size,3,none⟩=some (.int .i64 g.d):=R3.out.cell 3;have q3_4:wS5.cell? ⟨w.heap.size,4,none⟩=some (.slice AU nU cU):=R3.out.cell 4;have q3_5:wS5.cell? ⟨w.heap.size,5,none⟩=some (.slice AL nL cL):=R3.out.cell 5;have q5_0:wS5.cell? ⟨w.heap.size+1,0,none⟩=some (.int .i64 p.1):=R5.out.cell 0;have q5_1:wS5.cell? ⟨w.heap.size+1,1,none⟩=some (.int .i64 p.2):=R5.out.cell 1;have R8:=hide hz8;have hlt4:=hz8.lt;have R9:=hide hz9;have hlt5:=hz9.lt;have q8_0:wS5.cell? ⟨wA.heap.size,0,none⟩=some (.int .i64 S.2.1.1):=R8.out.cell 0;have q8_1:wS5.cell? ⟨wA.heap.size,1,none⟩=some (.slice A3 S.2.1.2.length c3):=R8.out.cell 1;have q9_0:wS5.cell? ⟨wA.heap.size+1,0,none⟩=some (.int .i64 S.2.2.1):=R9.out.cell 0;have q9_1:wS5.cell? ⟨wA.heap.size+1,1,none⟩=some (.int .i64 S.2.2.2):=R9.out.cell 1;clear hzb hzs hz8 hz9;clear hg5 hs5)|(refine wpList_loadW rfl 29 (.tmp 3) rfl 6 stk_agg stk_size (w.heap.size) 29 rfl (stkC g (.slice AU nU cU) (.slice AL nL cL)) R3.out rfl ?_)|(go_at_call 22;refine (RMAt_any HS.out wS5 HU.out HL.out (by omega) HF.out HFU.out HN.out (by omega) (by omega)).mono ?_;rintro e7 wB ⟨A4,c4,rfl,h4,hbel⟩;replace h4:=fr_under h4;clear q8_0 q8_1 q9_0 q9_1 q3_0 q3_1 q3_2 q3_3 q3_4 q3_5 q5_0 q5_1;replace HB:=hide (HB.out.trans (hbel.mono HB.out.size));replace R3:=hide (R3.out.on hbel);replace R5:=hide (R5.out.on hbel);replace HU:=hide (HU.out.under hbel (by omega));replace HL:=hide (HL.out.under hbel (by omega));replace HN:=hide (HN.out.below (hbel.mono (by omega)));replace H3:=hide (H3.out.under hbel (by omega));replace R8:=hide (R8.out.on hbel);replace R9:=hide (R9.out.on hbel);have hsz8:=hbel.size;have q8_0:wB.cell? ⟨wA.heap.size,0,none⟩=some (.int .i64 S.2.1.1):=R8.out.cell 0;have q8_1:wB.cell? ⟨wA.heap.size,1,none⟩=some (.slice A3 S.2.1.2.length c3):=R8.out.cell 1;have q9_0:wB.cell? ⟨wA.heap.size+1,0,none⟩=some (.int .i64 S.2.2.1):=R9.out.cell 0;have q9_1:wB.cell? ⟨wA.heap.size+1,1,none⟩=some (.int .i64 S.2.2.2):=R9.out.cell 1;have q3_0:wB.cell? ⟨w.heap.size,0,none⟩=some (.int .i64 g.a):=R3.out.cell 0;have q3_1:wB.cell? ⟨w.heap.size,1,none⟩=some (.int .i64 g.b):=R3.out.cell 1;have q3_2:wB.cell? ⟨w.heap.size,2,none⟩=some (.int .i64 g.c):=R3.out.cell 2;have q3_3:wB.cell? ⟨w.heap.size,3,none⟩=some (.int .i64 g.d):=R3.out.cell 3;have q3_4:wB.cell? ⟨w.heap.size,4,none⟩=some (.slice AU nU cU):=R3.out.cell 4;have q3_5:wB.cell? ⟨w.heap.size,5,none⟩=some (.slice AL nL cL):=R3.out.cell 5;have q5_0:wB.cell? ⟨w.heap.size+1,0,none⟩=some (.int .i64 p.1):=R5.out.cell 0;have q5_1:wB.cell? ⟨w.heap.size+1,1,none⟩=some (.int .i64 p.2):=R5.out.cell 1;have H4:=hide h4;clear h4;clear hbel)|(obtain ⟨hz11,hz12,hzb,hzs⟩:=rows2 wB (viwC 0 (.slice none 0 0)) (prC (0,0)) 47 49;refine wpList_storeW rfl 47 (.tmp 11) (.tmp 38) rfl 2 viw_size (wB.heap.size) 47 rfl (viwC 0 (.slice none 0 0)) (viwC S.2.1.1 (.slice A4 S.2.1.2.length c4)) rfl hz11 rfl rfl (viwC_one _ _ _ _) ?_;intro wS9 hr9 hg9 hs9;replace hzb:=hzb.grown hg9 hzb.size (pu4 (by omega));replace hz12:=hz12.grown hg9 (pu5 (by omega));have hz11:=hr9;clear hg9 hs9 hr9)|(refine wpList_storeW rfl 49 (.tmp 12) (.tmp 39) rfl 2 plc_size (wB.heap.size+1) 49 rfl (prC (0,0)) (prC S.2.2) rfl hz12 rfl rfl (prC_one _) ?_;intro wS10 hr10 hg10 hs10;replace hzb:=hzb.grown hg10 hzb.size (pu4 (by omega));replace hz11:=hz11.grown hg10 (pu5 (by omega));have hz12:=hr10;clear q8_0 q8_1 q9_0 q9_1 q3_0 q3_1 q3_2 q3_3 q3_4 q3_5 q5_0 q5_1;replace HB:=hide (HB.out.trans (hzb.mono HB.out.size));replace R3:=hide (R3.out.on hzb);replace R5:=hide (R5.out.on hzb);replace HU:=hide (HU.out.under hzb (by omega));replace HL:=hide (HL.out.under hzb (by omega));replace HN:=hide (HN.out.below (hzb.mono (by omega)));replace H3:=hide (H3.out.under hzb (by omega));replace R8:=hide (R8.out.on hzb);replace R9:=hide (R9.out.on hzb);replace H4:=hide (H4.out.under hzb (by omega));have hsz11:=hzb.size;have q8_0:wS10.cell? ⟨wA.heap.size,0,none⟩=some (.int .i64 S.2.1.1):=R8.out.cell 0;have q8_1:wS10.cell? ⟨wA.heap.size,1,none⟩=some (.slice A3 S.2.1.2.length c3):=R8.out.cell 1;have q9_0:wS10.cell? ⟨wA.heap.size+1,0,none⟩=some (.int .i64 S.2.2.1):=R9.out.cell 0;have q9_1:wS10.cell? ⟨wA.heap.size+1,1,none⟩=some (.int .i64 S.2.2.2):=R9.out.cell 1;have q3_0:wS10.cell? ⟨w.heap.size,0,none⟩=some (.int .i64 g.a):=R3.out.cell 0;have q3_1:wS10.cell? ⟨w.heap.size,1,none⟩=some (.int .i64 g.b):=R3.out.cell 1;have q3_2:wS10.cell? ⟨w.heap.size,2,none⟩=some (.int .i64 g.c):=R3.out.cell 2;have q3_3:wS10.cell? ⟨w.heap.size,3,none⟩=some (.int .i64 g.d):=R3.out.cell 3;have q3_4:wS10.cell? ⟨w.heap.size,4,none⟩=some (.slice AU nU cU):=R3.out.cell 4;have q3_5:wS10.cell? ⟨w.heap.size,5,none⟩=some (.slice AL nL cL):=R3.out.cell 5;have q5_0:wS10.cell? ⟨w.heap.size+1,0,none⟩=some (.int .i64 p.1):=R5.out.cell 0;have q5_1:wS10.cell? ⟨w.heap.size+1,1,none⟩=some (.int .i64 p.2):=R5.out.cell 1;have R11:=hide hz11;have hlt9:=hz11.lt;have R12:=hide hz12;have hlt10:=hz12.lt;have q11_0:wS10.cell? ⟨wB.heap.size,0,none⟩=some (.int .i64 S.2.1.1):=R11.out.cell 0;have q11_1:wS10.cell? ⟨wB.heap.size,1,none⟩=some (.slice A4 S.2.1.2.length c4):=R11.out.cell 1;have q12_0:wS10.cell? ⟨wB.heap.size+1,0,none⟩=some (.int .i64 S.2.2.1):=R12.out.cell 0;have q12_1:wS10.cell? ⟨wB.heap.size+1,1,none⟩=some (.int .i64 S.2.2.2):=R12.out.cell 1;clear hzb hzs hz11 hz12;clear hg10 hs10))
 refine wp_region_planN (fun w'=>Below wS10.heap.size wS10 w') [(0,true),(1,true),(2,true),(3,true),(4,true),(5,true),(6,true),(7,true),(8,true),(9,true),(10,true),(11,true),(12,true),(13,true),(14,true),(15,true),(16,true),(17,true),(18,true),(19,true),(20,true),(21,true),(22,true),(23,true),(24,true),(25,true),(26,true),(28,true),(29,true),(27,false),(30,false),(31,false),(32,true),(33,true)] (by kernel_rfl) (by kernel_rfl) (by kernel_rfl) (by kernel_rfl) rfl (fun _ _ _ _ _ h=>h) (below_drew (below_self wS10)) (fun hHeld=>?_)
 simp only [planOps,List.filterMap_cons,List.filterMap_nil,List.getElem?_toArray,List.getElem?_cons_succ,List.getElem?_cons_zero,Option.map_some]
 iterate 2
  refine wpPlan_take (v:=?_) (by kernel_rfl) (fun wS hSw=>?_) ?_
  rotate_left
  ·(try dsimp only at hSw);go_simp;(try with_reducible rfl)
  (try simp only [Act.put,pu1,pu2,pu3])
 refine wpPlan_take (v:=?_) (by kernel_rfl) (fun wS hSw=>?_) ?_
 rotate_left
 ·(try dsimp only at hSw);have qx:(S.1 != S.1)=false:=(by simp);go_simp;(try with_reducible rfl)
 (try simp only [Act.put,pu1,pu2,pu3])
 iterate 2
  refine wpPlan_take (v:=?_) (by kernel_rfl) (fun wS hSw=>?_) ?_
  rotate_left
  ·(try dsimp only at hSw);go_simp;(try with_reducible rfl)
  (try simp only [Act.put,pu1,pu2,pu3])
 refine wpPlan_take (v:=?_) (by kernel_rfl) (fun wS hSw=>?_) ?_
 rotate_left
 ·have qx:=((R8.out.on hSw).cell 0).trans (show (viwC S.2.1.1 (.slice A3 S.2.1.2.length c3))[0]?=some (.int .i64 S.2.1.1) from rfl);go_simp;(try with_reducible rfl)
 (try simp only [Act.put,pu1,pu2,pu3])
 refine wpPlan_take (v:=?_) (by kernel_rfl) (fun wS hSw=>?_) ?_
 rotate_left
 ·(try dsimp only at hSw);go_simp;(try with_reducible rfl)
 (try simp only [Act.put,pu1,pu2,pu3])
 refine wpPlan_take (v:=?_) (by kernel_rfl) (fun wS hSw=>?_) ?_
 rotate_left
 ·have qx:=((R11.out.on hSw).cell 0).trans (show (viwC S.2.1.1 (.slice A4 S.2.1.2.length c4))[0]?=some (.int .i64 S.2.1.1) from rfl);go_simp;(try with_reducible rfl)
 (try simp only [Act.put,pu1,pu2,pu3])
 refine wpPlan_take (v:=?_) (by kernel_rfl) (fun wS hSw=>?_) ?_
 rotate_left
 ·(try dsimp only at hSw);have qx:(S.2.1.1 != S.2.1.1)=false:=(by simp);go_simp;(try with_reducible rfl)
 (try simp only [Act.put,pu1,pu2,pu3])
 iterate 3
  refine wpPlan_take (v:=?_) (by kernel_rfl) (fun wS hSw=>?_) ?_
  rotate_left
  ·(try dsimp only at hSw);go_simp;(try with_reducible rfl)
  (try simp only [Act.put,pu1,pu2,pu3])
 refine wpPlan_take (v:=?_) (by kernel_rfl) (fun wS hSw=>?_) ?_
 rotate_left
 ·have qx:=((R8.out.on hSw).cell 1).trans (show (viwC S.2.1.1 (.slice A3 S.2.1.2.length c3))[1]?=some (.slice A3 S.2.1.2.length c3) from rfl);go_simp;(try with_reducible rfl)
 (try simp only [Act.put,pu1,pu2,pu3])
 iterate 2
  refine wpPlan_take (v:=?_) (by kernel_rfl) (fun wS hSw=>?_) ?_
  rotate_left
  ·(try dsimp only at hSw);go_simp;(try with_reducible rfl)
  (try simp only [Act.put,pu1,pu2,pu3])
 refine wpPlan_take (v:=?_) (by kernel_rfl) (fun wS hSw=>?_) ?_
 rotate_left
 ·have qx:=((R11.out.on hSw).cell 1).trans (show (viwC S.2.1.1 (.slice A4 S.2.1.2.length c4))[1]?=some (.slice A4 S.2.1.2.length c4) from rfl);go_simp;(try with_reducible rfl)
 (try simp only [Act.put,pu1,pu2,pu3])
 refine wpPlan_take (v:=?_) (by kernel_rfl) (fun wS hSw=>?_) ?_
 rotate_left
 ·(try dsimp only at hSw);go_simp;(try with_reducible rfl)
 (try simp only [Act.put,pu1,pu2,pu3])
 refine wpPlan_take (v:=?_) (by kernel_rfl) (fun wS hSw=>?_) ?_
 rotate_left
 ·(try dsimp only at hSw);have qx:((S.2.1.2.length:Int) != (S.2.1.2.length:Int))=false:=(by simp);go_simp;(try with_reducible rfl)
 (try simp only [Act.put,pu1,pu2,pu3])
 iterate 2
  refine wpPlan_take (v:=?_) (by kernel_rfl) (fun wS hSw=>?_) ?_
  rotate_left
  ·(try dsimp only at hSw);go_simp;(try with_reducible rfl)
  (try simp only [Act.put,pu1,pu2,pu3])
 refine wpPlan_take (v:=?_) (by kernel_rfl) (fun wS hSw=>?_) ?_
 rotate_left
 ·refine execOp_load (x:=.tmp 9) (k:=2) (g:=wA.heap.size+1) (off:=0) (cs:=(prC S.2.2)) ?_ plc_agg plc_size ?_ (fun j v hv=>by rw [Nat.zero_add];exact ((R9.out.on hSw).cell j).trans hv) rfl <;> rfl
 (try simp only [Act.put,pu1,pu2,pu3])
 refine wpPlan_take (v:=?_) (by kernel_rfl) (fun wS hSw=>?_) ?_
 rotate_left
 ·refine execOp_load (x:=.tmp 12) (k:=2) (g:=wB.heap.size+1) (off:=0) (cs:=(prC S.2.2)) ?_ plc_agg plc_size ?_ (fun j v hv=>by rw [Nat.zero_add];exact ((R12.out.on hSw).cell j).trans hv) rfl <;> rfl
 (try simp only [Act.put,pu1,pu2,pu3])
 refine wpPlan_take (v:=?_) (by kernel_rfl) (fun wS hSw=>?_) ?_
 rotate_left
 ·(try simp only [prC]);have qx:=neq_plc S.2.2.1 S.2.2.2 wS;go_simp;(try with_reducible rfl)
 (try simp only [Act.put,pu1,pu2,pu3])
 iterate 2
  refine wpPlan_take (v:=?_) (by kernel_rfl) (fun wS hSw=>?_) ?_
  rotate_left
  ·(try dsimp only at hSw);go_simp;(try with_reducible rfl)
  (try simp only [Act.put,pu1,pu2,pu3])
 refine wpPlan_take (v:=?_) (by kernel_rfl) (fun wS hSw=>?_) ?_
 rotate_left
 ·refine execOp_load (x:=.tmp 3) (k:=6) (g:=w.heap.size) (off:=0) (cs:=(stkC g (.slice AU nU cU) (.slice AL nL cL))) ?_ stk_agg stk_size ?_ (fun j v hv=>by rw [Nat.zero_add];exact ((R3.out.on hSw).cell j).trans hv) rfl <;> rfl
 (try simp only [Act.put,pu1,pu2,pu3])
 refine wpPlan_take (v:=?_) (by kernel_rfl) (fun wS hSw=>?_) ?_
 rotate_left
 ·refine execOp_load (x:=.tmp 5) (k:=2) (g:=w.heap.size+1) (off:=0) (cs:=(prC p)) ?_ plc_agg plc_size ?_ (fun j v hv=>by rw [Nat.zero_add];exact ((R5.out.on hSw).cell j).trans hv) rfl <;> rfl
 (try simp only [Act.put,pu1,pu2,pu3])
 refine wpPlan_take (v:=?_) (by kernel_rfl) (fun wS hSw=>?_) ?_
 rotate_left
 ·refine execOp_load (x:=.tmp 3) (k:=6) (g:=w.heap.size) (off:=0) (cs:=(stkC g (.slice AU nU cU) (.slice AL nL cL))) ?_ stk_agg stk_size ?_ (fun j v hv=>by rw [Nat.zero_add];exact ((R3.out.on hSw).cell j).trans hv) rfl <;> rfl
 (try simp only [Act.put,pu1,pu2,pu3])
 refine wpPlan_take (v:=?_) (by kernel_rfl) (fun wS hSw=>?_) ?_
 rotate_left
 ·refine execOp_load (x:=.tmp 5) (k:=2) (g:=w.heap.size+1) (off:=0) (cs:=(prC p)) ?_ plc_agg plc_size ?_ (fun j v hv=>by rw [Nat.zero_add];exact ((R5.out.on hSw).cell j).trans hv) rfl <;> rfl
 (try simp only [Act.put,pu1,pu2,pu3])
 refine wpPlan_call (by kernel_rfl) (fun K hK=>?_)
 have hOld:=hide hHeld
 clear hHeld
 go_simp
 go_at_call 24
 refine (MBytes_any HBY.out (B:=w.heap.size) _ (HU.out.under hOld.out (by omega)) (HL.out.under hOld.out (by omega)) (by have:=hOld.out.size;omega) HF.out HFU.out).mono ?_
 rintro e w' ⟨A6,c6,rfl,h6,hbel⟩
 have H6:=hide h6
 clear h6
 refine hK.out _ _ (hOld.out.trans (hbel.mono hOld.out.size)) (fun hHeld=>?_)
 clear hK K
 (try simp only [Act.put,pu1,pu2,pu3])
 refine wpPlan_call (by kernel_rfl) (fun K hK=>?_)
 have hOld:=hide hHeld
 clear hHeld
 go_simp
 go_at_call 25
 refine (RMBytes_any HBY.out (B:=w.heap.size) _ (HU.out.under hOld.out (by omega)) (HL.out.under hOld.out (by omega)) (by have:=hOld.out.size;omega) HF.out HFU.out).mono ?_
 rintro e w' ⟨A7,n7,c7,rfl,h7,hbel⟩
 have H7:=hide (und_up h7 (by have:=hOld.out.size;have:=hbel.size;omega))
 have H6b:=hide (H6.out.bs.below hbel)
 clear h7 H6
 refine hK.out _ _ (hOld.out.trans (hbel.mono hOld.out.size)) (fun hHeld=>?_)
 clear hK K
 (try simp only [Act.put,pu1,pu2,pu3])
 refine wpPlan_call (by kernel_rfl) (fun K hK=>?_)
 have hOld:=hide hHeld
 clear hHeld
 go_simp
 go_at_call 23
 refine (BEqual_b (l:=L) (k:=L) (b:=true) _ H6b.out (Bs.of_rd H7.out) (by simp)).mono ?_
 rintro e w' ⟨rfl,rfl⟩
 clear H6b H7
 refine hK.out _ _ (hOld.out) (fun hHeld=>?_)
 clear hK K
 (try simp only [Act.put,pu1,pu2,pu3])
 iterate 2
  refine wpPlan_take (v:=?_) (by kernel_rfl) (fun wS hSw=>?_) ?_
  rotate_left
  ·(try dsimp only at hSw);go_simp;(try with_reducible rfl)
  (try simp only [Act.put,pu1,pu2,pu3])
 refine wpPlan_end ?_
 have hh:=hHeld
 clear hHeld q8_0 q11_0 q8_1 q11_1 q9_0 q9_1 q12_0 q12_1 q3_0 q3_1 q3_2 q3_3 q3_4 q3_5 q5_0 q5_1
 rename World=>w7
 replace HB:=hide (HB.out.trans (hh.mono HB.out.size))
 replace R3:=hide (R3.out.on hh)
 replace HU:=hide (HU.out.under hh (by omega))
 replace HL:=hide (HL.out.under hh (by omega))
 replace HN:=hide (HN.out.below (hh.mono (by omega)))
 have hsz12:=hh.size
 have q3_0:w7.cell? ⟨w.heap.size,0,none⟩=some (.int .i64 g.a):=R3.out.cell 0
 have q3_1:w7.cell? ⟨w.heap.size,1,none⟩=some (.int .i64 g.b):=R3.out.cell 1
 have q3_2:w7.cell? ⟨w.heap.size,2,none⟩=some (.int .i64 g.c):=R3.out.cell 2
 have q3_3:w7.cell? ⟨w.heap.size,3,none⟩=some (.int .i64 g.d):=R3.out.cell 3
 have q3_4:w7.cell? ⟨w.heap.size,4,none⟩=some (.slice AU nU cU):=R3.out.cell 4
 have q3_5:w7.cell? ⟨w.heap.size,5,none⟩=some (.slice AL nL cL):=R3.out.cell 5
 clear hh
 go_wp2_with fail
 go_upto_region 7 with fail
 go_cut [13,14] from 74 to 80 (fun v13 v14 wx=>∃(g7:Nat) (A9:Option Addr) (n9 c9:Nat) (C9:Option Addr) (m9 d9:Nat),v13=.pointer (some ⟨g7,0,none⟩)∧v14=.bool r∧w7.heap.size≤g7∧RowL wx g7 61 (seenC k (.slice A9 n9 c9) (.slice C9 m9 d9))∧RdE Enc.byte wx (Under wx.heap.size) A9 n9 d∧RdE Enc.text wx (Under wx.heap.size) C9 m9 nm∧Below w7.heap.size w7 wx)
 case first =>
  refine wp_region_G (fun w'=>Below (w7.heap.size) w7 w') (.take 0 (.take 1 (.alt 2 (.alt 3 (.take 4 (.take 5 (.take 6 (.alt 7 (.alt 8 (.take 9 .leaf) .stop) .stop)))) (.alt 7 (.alt 3 (.take 4 (.take 5 (.take 6 (.alt 8 (.take 9 .leaf) .stop)))) .stop) .stop)) (.alt 7 (.alt 2 (.alt 3 (.take 4 (.take 5 (.take 6 (.alt 8 (.take 9 .leaf) .stop)))) .stop) .stop) .stop)))) (by kernel_rfl) (by kernel_rfl) (by kernel_rfl) (by kernel_rfl) rfl (fun _ _ _ _ _ h=>h) (below_drew (below_self w7)) (fun hHeld=>?_)
  generalize w7.drew=wd at *
  simp only [PT.map,List.getElem?_toArray,List.getElem?_cons_succ,List.getElem?_cons_zero]
  refine wpPT_take (v:=?_) (by kernel_rfl) (fun wS hSw=>?_) ?_
  rotate_left
  ·refine execOp_load (x:=.tmp 3) (k:=6) (g:=w.heap.size) (off:=0) (cs:=stkC g (.slice AU nU cU) (.slice AL nL cL)) ?_ stk_agg stk_size ?_ (fun j v hv=>by rw [Nat.zero_add];exact ((R3.out.on hSw).cell j).trans hv) rfl <;> rfl
  (try simp only [Act.put,pu1,pu2,pu3])
  refine wpPT_take (v:=?_) (by kernel_rfl) (fun wS hSw=>?_) ?_
  rotate_left
  ·(try dsimp only at hSw);go_simp;(try with_reducible rfl)
  (try simp only [Act.put,pu1,pu2,pu3])
  refine wpPT_alt (by kernel_rfl) (fun K hK=>?_) ?_
  ·skip
   have hOld:=hide hHeld
   clear hHeld
   go_simp
   go_at_call 27
   refine (PJoin_any (l:=names) _ ((HN.out.below (hOld.out.mono (by omega))).more (by have:=hOld.out.size;omega)) (by omega) hNc (by omega)).mono ?_
   rintro e w' ⟨rfl,hbel⟩
   have hb':=hbel.mono (B':=w7.heap.size) (by have:=hOld.out.size;omega)
   clear hbel
   refine hK.out _ _ (hOld.out.trans hb') (fun hHeld=>?_)
   clear hK K
   (try simp only [Act.put,pu1,pu2,pu3])
   refine wpPT_alt (by kernel_rfl) (fun K hK=>?_) ?_
   ·skip
    have hOld:=hide hHeld
    clear hHeld
    go_simp
    go_at_call 26
    refine (MOf_r HO.out (B:=w.heap.size) _ (HU.out.under hOld.out (by omega)) (HL.out.under hOld.out (by omega)) (by have:=hOld.out.size;omega) HF.out HFU.out hsl).mono ?_
    rintro e w' ⟨A9,n9,c9,C9,m9,d9,lo,hi,rfl,hlo,hhi,h9,k9,hbel⟩
    have hb':=hbel.mono (B':=w7.heap.size) (by have:=hOld.out.size;omega)
    (try have hgl:=R7.out.lt)
    have H9:=hide (show OffR _ _ _ _ _ _ _ _ from And.intro h9 hhi)
    clear h9
    have K9:=hide (show OffR _ _ _ _ _ _ _ _ from And.intro k9 hhi)
    clear k9
    clear hbel
    refine hK.out _ _ (hOld.out.trans hb') (fun hHeld=>?_)
    clear hK K
    (try simp only [Act.put,pu1,pu2,pu3])
    iterate 3
     refine wpPT_take (v:=?_) (by kernel_rfl) (fun wS hSw=>?_) ?_
     rotate_left
     ·(try dsimp only at hSw);go_simp;(try with_reducible rfl)
     (try simp only [Act.put,pu1,pu2,pu3])
    refine wpPT_alt (by kernel_rfl) (fun K hK=>?_) ?_
    rotate_left
    ·exact wpPT_stop
    have hOld:=hide hHeld
    clear hHeld
    unfold Oper.wp execOp
    go_simp
    have hal:=below_new (below_self w') (.cells #[.int .i64 0,.slice none 0 0,.slice none 0 0] 61)
    have hb':=hal.mono (B':=w7.heap.size) (by have:=hOld.out.size;omega)
    have HFN:=hide (show RowL (w'.alloc (.cells #[.int .i64 0,.slice none 0 0,.slice none 0 0] 61)) w'.heap.size 61 (seenC 0 (.slice none 0 0) (.slice none 0 0)) from RowL.new w' 61 (seenC 0 (.slice none 0 0) (.slice none 0 0)))
    have g7l:w7.heap.size≤w'.heap.size:=hOld.out.size
    refine hK.out _ _ (hOld.out.trans hb') (fun hHeld=>?_)
    clear hK K
    have H9':=hide (off_on H9.out hal (by first|omega|(have:=hOld.out.size;omega)|(have:=R7.out.lt;omega)))
    clear H9
    have H9:=H9'
    clear H9'
    have K9':=hide (off_on K9.out hal (by first|omega|(have:=hOld.out.size;omega)|(have:=R7.out.lt;omega)))
    clear K9
    have K9:=K9'
    clear K9'
    have R7:=HFN
    clear hal hb' hOld HFN
    generalize w'.alloc (.cells #[.int .i64 0,.slice none 0 0,.slice none 0 0] 61)=z2 at *
    generalize w'.heap.size=g7 at *
    (try simp only [Act.put,pu1,pu2,pu3])
    refine wpPT_alt (by kernel_rfl) (fun K hK=>?_) ?_
    rotate_left
    ·exact wpPT_stop
    have hOld:=hide hHeld
    clear hHeld
    refine wp_storeC 61 (.tmp 13) (.tmp 79) rfl 3 seen_size g7 0 61 rfl (seenC 0 (.slice none 0 0) (.slice none 0 0)) (seenC k (.slice A9 n9 c9) (.slice C9 m9 d9)) rfl R7.out rfl (by exact Nat.le_refl _) (seenC_one _ _ _ _ _ _ _) ?_
    intro w' hr' hg' hs'
    rw [splice_all (seenC 0 (.slice none 0 0) (.slice none 0 0)) (seenC k (.slice A9 n9 c9) (.slice C9 m9 d9)) rfl] at hr'
    refine hK.out _ _ (hOld.out.grown hg' (by have:=hOld.out.size;omega) (pu4 (by omega))) (fun hHeld=>?_)
    clear hK K
    have H9':=hide (off_grown H9.out hg' (by first|omega|(have:=hOld.out.size;omega)|(have:=R7.out.lt;omega)) (by omega))
    clear H9
    have H9:=H9'
    clear H9'
    have K9':=hide (off_grown K9.out hg' (by first|omega|(have:=hOld.out.size;omega)|(have:=R7.out.lt;omega)) (by omega))
    clear K9
    have K9:=K9'
    clear K9'
    clear R7
    have R7:=hide hr'
    clear hg' hs' hr' hOld
    (try simp only [Act.put])
    refine wpPT_take (v:=?_) (by kernel_rfl) (fun wS hSw=>?_) ?_
    rotate_left
    ·(try dsimp only at hSw);go_simp;(try with_reducible rfl)
    (try simp only [Act.put,pu1,pu2,pu3])
    refine wpPT_leaf ?_
    have HBX:=hide hHeld
    clear hHeld
    go_wp2_with fail
    go_meet
    case rel=>exact ⟨_,_,_,_,_,_,_,rfl,rfl,by omega,R7.out,off_und H9.out (by first|omega|(have:=HBX.out.size;omega)|(have:=R7.out.lt;omega)),off_und K9.out (by first|omega|(have:=HBX.out.size;omega)|(have:=R7.out.lt;omega)),HBX.out⟩
   refine wpPT_alt (by kernel_rfl) (fun K hK=>?_) ?_
   ·skip
    have hOld:=hide hHeld
    clear hHeld
    unfold Oper.wp execOp
    go_simp
    have hal:=below_new (below_self w') (.cells #[.int .i64 0,.slice none 0 0,.slice none 0 0] 61)
    have hb':=hal.mono (B':=w7.heap.size) (by have:=hOld.out.size;omega)
    have HFN:=hide (show RowL (w'.alloc (.cells #[.int .i64 0,.slice none 0 0,.slice none 0 0] 61)) w'.heap.size 61 (seenC 0 (.slice none 0 0) (.slice none 0 0)) from RowL.new w' 61 (seenC 0 (.slice none 0 0) (.slice none 0 0)))
    have g7l:w7.heap.size≤w'.heap.size:=hOld.out.size
    refine hK.out _ _ (hOld.out.trans hb') (fun hHeld=>?_)
    clear hK K
    have R7:=HFN
    clear hal hb' hOld HFN
    generalize w'.alloc (.cells #[.int .i64 0,.slice none 0 0,.slice none 0 0] 61)=z1 at *
    generalize w'.heap.size=g7 at *
    (try simp only [Act.put,pu1,pu2,pu3])
    refine wpPT_alt (by kernel_rfl) (fun K hK=>?_) ?_
    rotate_left
    ·exact wpPT_stop
    have hOld:=hide hHeld
    clear hHeld
    go_simp
    go_at_call 26
    refine (MOf_r HO.out (B:=w.heap.size) _ (HU.out.under hOld.out (by omega)) (HL.out.under hOld.out (by omega)) (by have:=hOld.out.size;omega) HF.out HFU.out hsl).mono ?_
    rintro e w' ⟨A9,n9,c9,C9,m9,d9,lo,hi,rfl,hlo,hhi,h9,k9,hbel⟩
    have hb':=hbel.mono (B':=w7.heap.size) (by have:=hOld.out.size;omega)
    (try have hgl:=R7.out.lt)
    have H9:=hide (show OffR _ _ _ _ _ _ _ _ from And.intro h9 hhi)
    clear h9
    have K9:=hide (show OffR _ _ _ _ _ _ _ _ from And.intro k9 hhi)
    clear k9
    have R7':=hide (R7.out.on hbel)
    clear R7
    have R7:=R7'
    clear R7'
    clear hbel
    refine hK.out _ _ (hOld.out.trans hb') (fun hHeld=>?_)
    clear hK K
    (try simp only [Act.put,pu1,pu2,pu3])
    iterate 3
     refine wpPT_take (v:=?_) (by kernel_rfl) (fun wS hSw=>?_) ?_
     rotate_left
     ·(try dsimp only at hSw);go_simp;(try with_reducible rfl)
     (try simp only [Act.put,pu1,pu2,pu3])
    refine wpPT_alt (by kernel_rfl) (fun K hK=>?_) ?_
    rotate_left
    ·exact wpPT_stop
    have hOld:=hide hHeld
    clear hHeld
    refine wp_storeC 61 (.tmp 13) (.tmp 79) rfl 3 seen_size g7 0 61 rfl (seenC 0 (.slice none 0 0) (.slice none 0 0)) (seenC k (.slice A9 n9 c9) (.slice C9 m9 d9)) rfl R7.out rfl (by exact Nat.le_refl _) (seenC_one _ _ _ _ _ _ _) ?_
    intro w' hr' hg' hs'
    rw [splice_all (seenC 0 (.slice none 0 0) (.slice none 0 0)) (seenC k (.slice A9 n9 c9) (.slice C9 m9 d9)) rfl] at hr'
    refine hK.out _ _ (hOld.out.grown hg' (by have:=hOld.out.size;omega) (pu4 (by omega))) (fun hHeld=>?_)
    clear hK K
    have H9':=hide (off_grown H9.out hg' (by first|omega|(have:=hOld.out.size;omega)|(have:=R7.out.lt;omega)) (by omega))
    clear H9
    have H9:=H9'
    clear H9'
    have K9':=hide (off_grown K9.out hg' (by first|omega|(have:=hOld.out.size;omega)|(have:=R7.out.lt;omega)) (by omega))
    clear K9
    have K9:=K9'
    clear K9'
    clear R7
    have R7:=hide hr'
    clear hg' hs' hr' hOld
    (try simp only [Act.put])
    refine wpPT_take (v:=?_) (by kernel_rfl) (fun wS hSw=>?_) ?_
    rotate_left
    ·(try dsimp only at hSw);go_simp;(try with_reducible rfl)
    (try simp only [Act.put,pu1,pu2,pu3])
    refine wpPT_leaf ?_
    have HBX:=hide hHeld
    clear hHeld
    go_wp2_with fail
    go_meet
    case rel=>exact ⟨_,_,_,_,_,_,_,rfl,rfl,by omega,R7.out,off_und H9.out (by first|omega|(have:=HBX.out.size;omega)|(have:=R7.out.lt;omega)),off_und K9.out (by first|omega|(have:=HBX.out.size;omega)|(have:=R7.out.lt;omega)),HBX.out⟩
   exact wpPT_stop
  refine wpPT_alt (by kernel_rfl) (fun K hK=>?_) ?_
  ·skip
   have hOld:=hide hHeld
   clear hHeld
   unfold Oper.wp execOp
   go_simp
   have hal:=below_new (below_self wd) (.cells #[.int .i64 0,.slice none 0 0,.slice none 0 0] 61)
   have hb':=hal.mono (B':=w7.heap.size) (by have:=hOld.out.size;omega)
   have HFN:=hide (show RowL (wd.alloc (.cells #[.int .i64 0,.slice none 0 0,.slice none 0 0] 61)) wd.heap.size 61 (seenC 0 (.slice none 0 0) (.slice none 0 0)) from RowL.new wd 61 (seenC 0 (.slice none 0 0) (.slice none 0 0)))
   have g7l:w7.heap.size≤wd.heap.size:=hOld.out.size
   refine hK.out _ _ (hOld.out.trans hb') (fun hHeld=>?_)
   clear hK K
   have R7:=HFN
   clear hal hb' hOld HFN
   generalize wd.alloc (.cells #[.int .i64 0,.slice none 0 0,.slice none 0 0] 61)=z0 at *
   generalize wd.heap.size=g7 at *
   (try simp only [Act.put,pu1,pu2,pu3])
   refine wpPT_alt (by kernel_rfl) (fun K hK=>?_) ?_
   rotate_left
   ·exact wpPT_stop
   have hOld:=hide hHeld
   clear hHeld
   go_simp
   go_at_call 27
   refine (PJoin_any (l:=names) _ ((HN.out.below (hOld.out.mono (by omega))).more (by have:=hOld.out.size;omega)) (by omega) hNc (by omega)).mono ?_
   rintro e w' ⟨rfl,hbel⟩
   have hb':=hbel.mono (B':=w7.heap.size) (by have:=hOld.out.size;omega)
   have R7':=hide (R7.out.on hbel)
   clear R7
   have R7:=R7'
   clear R7'
   clear hbel
   refine hK.out _ _ (hOld.out.trans hb') (fun hHeld=>?_)
   clear hK K
   (try simp only [Act.put,pu1,pu2,pu3])
   refine wpPT_alt (by kernel_rfl) (fun K hK=>?_) ?_
   rotate_left
   ·exact wpPT_stop
   have hOld:=hide hHeld
   clear hHeld
   go_simp
   go_at_call 26
   refine (MOf_r HO.out (B:=w.heap.size) _ (HU.out.under hOld.out (by omega)) (HL.out.under hOld.out (by omega)) (by have:=hOld.out.size;omega) HF.out HFU.out hsl).mono ?_
   rintro e w' ⟨A9,n9,c9,C9,m9,d9,lo,hi,rfl,hlo,hhi,h9,k9,hbel⟩
   have hb':=hbel.mono (B':=w7.heap.size) (by have:=hOld.out.size;omega)
   (try have hgl:=R7.out.lt)
   have H9:=hide (show OffR _ _ _ _ _ _ _ _ from And.intro h9 hhi)
   clear h9
   have K9:=hide (show OffR _ _ _ _ _ _ _ _ from And.intro k9 hhi)
   clear k9
   have R7':=hide (R7.out.on hbel)
   clear R7
   have R7:=R7'
   clear R7'
   clear hbel
   refine hK.out _ _ (hOld.out.trans hb') (fun hHeld=>?_)
   clear hK K
   (try simp only [Act.put,pu1,pu2,pu3])
   iterate 3
    refine wpPT_take (v:=?_) (by kernel_rfl) (fun wS hSw=>?_) ?_
    rotate_left
    ·(try dsimp only at hSw);go_simp;(try with_reducible rfl)
    (try simp only [Act.put,pu1,pu2,pu3])
   refine wpPT_alt (by kernel_rfl) (fun K hK=>?_) ?_
   rotate_left
   ·exact wpPT_stop
   have hOld:=hide hHeld
   clear hHeld
   refine wp_storeC 61 (.tmp 13) (.tmp 79) rfl 3 seen_size g7 0 61 rfl (seenC 0 (.slice none 0 0) (.slice none 0 0)) (seenC k (.slice A9 n9 c9) (.slice C9 m9 d9)) rfl R7.out rfl (by exact Nat.le_refl _) (seenC_one _ _ _ _ _ _ _) ?_
   intro w' hr' hg' hs'
   rw [splice_all (seenC 0 (.slice none 0 0) (.slice none 0 0)) (seenC k (.slice A9 n9 c9) (.slice C9 m9 d9)) rfl] at hr'
   refine hK.out _ _ (hOld.out.grown hg' (by have:=hOld.out.size;omega) (pu4 (by omega))) (fun hHeld=>?_)
   clear hK K
   have H9':=hide (off_grown H9.out hg' (by first|omega|(have:=hOld.out.size;omega)|(have:=R7.out.lt;omega)) (by omega))
   clear H9
   have H9:=H9'
   clear H9'
   have K9':=hide (off_grown K9.out hg' (by first|omega|(have:=hOld.out.size;omega)|(have:=R7.out.lt;omega)) (by omega))
   clear K9
   have K9:=K9'
   clear K9'
   clear R7
   have R7:=hide hr'
   clear hg' hs' hr' hOld
   (try simp only [Act.put])
   refine wpPT_take (v:=?_) (by kernel_rfl) (fun wS hSw=>?_) ?_
   rotate_left
   ·(try dsimp only at hSw);go_simp;(try with_reducible rfl)
   (try simp only [Act.put,pu1,pu2,pu3])
   refine wpPT_leaf ?_
   have HBX:=hide hHeld
   clear hHeld
   go_wp2_with fail
   go_meet
   case rel=>exact ⟨_,_,_,_,_,_,_,rfl,rfl,by omega,R7.out,off_und H9.out (by first|omega|(have:=HBX.out.size;omega)|(have:=R7.out.lt;omega)),off_und K9.out (by first|omega|(have:=HBX.out.size;omega)|(have:=R7.out.lt;omega)),HBX.out⟩
  exact wpPT_stop
 case rest =>
 obtain ⟨g13,A8,n8,c8,C8,m8,d8,rfl,rfl,hg13,hr13,hd13,hn13,hbx⟩:=hcut
 rename World=>w8
 have hbxs:=hbx.size
 replace HB:=hide (HB.out.trans (hbx.mono HB.out.size))
 replace R3:=hide (R3.out.on hbx)
 replace HU:=hide (HU.out.under hbx (by omega))
 replace HL:=hide (HL.out.under hbx (by omega))
 replace HN:=hide (HN.out.below (hbx.mono (by omega)))
 have R13:=hide hr13
 have HD1:=hide hd13
 have HN1:=hide hn13
 have hg13l:=hr13.lt
 clear hbx hr13 hd13 hn13
 go_upto_region 8 with fail
 go_cut [15,16] from 81 to 87 (fun v15 v16 wx=>∃(g7:Nat) (A9:Option Addr) (n9 c9:Nat) (C9:Option Addr) (m9 d9:Nat),v15=.pointer (some ⟨g7,0,none⟩)∧v16=.bool r∧w8.heap.size≤g7∧RowL wx g7 61 (seenC k (.slice A9 n9 c9) (.slice C9 m9 d9))∧RdE Enc.byte wx (Under wx.heap.size) A9 n9 d∧RdE Enc.text wx (Under wx.heap.size) C9 m9 nm∧Below w8.heap.size w8 wx)
 case first =>
  refine wp_region_G (fun w'=>Below (w8.heap.size) w8 w') (.take 0 (.take 1 (.alt 2 (.alt 3 (.take 4 (.take 5 (.take 6 (.alt 7 (.alt 8 (.take 9 .leaf) .stop) .stop)))) (.alt 7 (.alt 3 (.take 4 (.take 5 (.take 6 (.alt 8 (.take 9 .leaf) .stop)))) .stop) .stop)) (.alt 7 (.alt 2 (.alt 3 (.take 4 (.take 5 (.take 6 (.alt 8 (.take 9 .leaf) .stop)))) .stop) .stop) .stop)))) (by kernel_rfl) (by kernel_rfl) (by kernel_rfl) (by kernel_rfl) rfl (fun _ _ _ _ _ h=>h) (below_drew (below_self w8)) (fun hHeld=>?_)
  generalize w8.drew=wd at *
  simp only [PT.map,List.getElem?_toArray,List.getElem?_cons_succ,List.getElem?_cons_zero]
  refine wpPT_take (v:=?_) (by kernel_rfl) (fun wS hSw=>?_) ?_
  rotate_left
  ·refine execOp_load (x:=.tmp 3) (k:=6) (g:=w.heap.size) (off:=0) (cs:=stkC g (.slice AU nU cU) (.slice AL nL cL)) ?_ stk_agg stk_size ?_ (fun j v hv=>by rw [Nat.zero_add];exact ((R3.out.on hSw).cell j).trans hv) rfl <;> rfl
  (try simp only [Act.put,pu1,pu2,pu3])
  refine wpPT_take (v:=?_) (by kernel_rfl) (fun wS hSw=>?_) ?_
  rotate_left
  ·(try dsimp only at hSw);go_simp;(try with_reducible rfl)
  (try simp only [Act.put,pu1,pu2,pu3])
  refine wpPT_alt (by kernel_rfl) (fun K hK=>?_) ?_
  ·skip
   have hOld:=hide hHeld
   clear hHeld
   go_simp
   go_at_call 27
   refine (PJoin_any (l:=names) _ ((HN.out.below (hOld.out.mono (by omega))).more (by have:=hOld.out.size;omega)) (by omega) hNc (by omega)).mono ?_
   rintro e w' ⟨rfl,hbel⟩
   have hb':=hbel.mono (B':=w8.heap.size) (by have:=hOld.out.size;omega)
   clear hbel
   refine hK.out _ _ (hOld.out.trans hb') (fun hHeld=>?_)
   clear hK K
   (try simp only [Act.put,pu1,pu2,pu3])
   refine wpPT_alt (by kernel_rfl) (fun K hK=>?_) ?_
   ·skip
    have hOld:=hide hHeld
    clear hHeld
    go_simp
    go_at_call 28
    refine (RMOf_r HO.out (B:=w.heap.size) _ (HU.out.under hOld.out (by omega)) (HL.out.under hOld.out (by omega)) (by have:=hOld.out.size;omega) HF.out HFU.out hsl).mono ?_
    rintro e w' ⟨A9,n9,c9,C9,m9,d9,lo,hi,rfl,hlo,hhi,h9,k9,hbel⟩
    have hb':=hbel.mono (B':=w8.heap.size) (by have:=hOld.out.size;omega)
    (try have hgl:=R7.out.lt)
    have H9:=hide (show OffR _ _ _ _ _ _ _ _ from And.intro h9 hhi)
    clear h9
    have K9:=hide (show OffR _ _ _ _ _ _ _ _ from And.intro k9 hhi)
    clear k9
    clear hbel
    refine hK.out _ _ (hOld.out.trans hb') (fun hHeld=>?_)
    clear hK K
    (try simp only [Act.put,pu1,pu2,pu3])
    iterate 3
     refine wpPT_take (v:=?_) (by kernel_rfl) (fun wS hSw=>?_) ?_
     rotate_left
     ·(try dsimp only at hSw);go_simp;(try with_reducible rfl)
     (try simp only [Act.put,pu1,pu2,pu3])
    refine wpPT_alt (by kernel_rfl) (fun K hK=>?_) ?_
    rotate_left
    ·exact wpPT_stop
    have hOld:=hide hHeld
    clear hHeld
    unfold Oper.wp execOp
    go_simp
    have hal:=below_new (below_self w') (.cells #[.int .i64 0,.slice none 0 0,.slice none 0 0] 61)
    have hb':=hal.mono (B':=w8.heap.size) (by have:=hOld.out.size;omega)
    have HFN:=hide (show RowL (w'.alloc (.cells #[.int .i64 0,.slice none 0 0,.slice none 0 0] 61)) w'.heap.size 61 (seenC 0 (.slice none 0 0) (.slice none 0 0)) from RowL.new w' 61 (seenC 0 (.slice none 0 0) (.slice none 0 0)))
    have g7l:w8.heap.size≤w'.heap.size:=hOld.out.size
    refine hK.out _ _ (hOld.out.trans hb') (fun hHeld=>?_)
    clear hK K
    have H9':=hide (off_on H9.out hal (by first|omega|(have:=hOld.out.size;omega)|(have:=R7.out.lt;omega)))
    clear H9
    have H9:=H9'
    clear H9'
    have K9':=hide (off_on K9.out hal (by first|omega|(have:=hOld.out.size;omega)|(have:=R7.out.lt;omega)))
    clear K9
    have K9:=K9'
    clear K9'
    have R7:=HFN
    clear hal hb' hOld HFN
    generalize w'.alloc (.cells #[.int .i64 0,.slice none 0 0,.slice none 0 0] 61)=z2 at *
    generalize w'.heap.size=g7 at *
    (try simp only [Act.put,pu1,pu2,pu3])
    refine wpPT_alt (by kernel_rfl) (fun K hK=>?_) ?_
    rotate_left
    ·exact wpPT_stop
    have hOld:=hide hHeld
    clear hHeld
    refine wp_storeC 61 (.tmp 15) (.tmp 86) rfl 3 seen_size g7 0 61 rfl (seenC 0 (.slice none 0 0) (.slice none 0 0)) (seenC k (.slice A9 n9 c9) (.slice C9 m9 d9)) rfl R7.out rfl (by exact Nat.le_refl _) (seenC_one _ _ _ _ _ _ _) ?_
    intro w' hr' hg' hs'
    rw [splice_all (seenC 0 (.slice none 0 0) (.slice none 0 0)) (seenC k (.slice A9 n9 c9) (.slice C9 m9 d9)) rfl] at hr'
    refine hK.out _ _ (hOld.out.grown hg' (by have:=hOld.out.size;omega) (pu4 (by omega))) (fun hHeld=>?_)
    clear hK K
    have H9':=hide (off_grown H9.out hg' (by first|omega|(have:=hOld.out.size;omega)|(have:=R7.out.lt;omega)) (by omega))
    clear H9
    have H9:=H9'
    clear H9'
    have K9':=hide (off_grown K9.out hg' (by first|omega|(have:=hOld.out.size;omega)|(have:=R7.out.lt;omega)) (by omega))
    clear K9
    have K9:=K9'
    clear K9'
    clear R7
    have R7:=hide hr'
    clear hg' hs' hr' hOld
    (try simp only [Act.put])
    refine wpPT_take (v:=?_) (by kernel_rfl) (fun wS hSw=>?_) ?_
    rotate_left
    ·(try dsimp only at hSw);go_simp;(try with_reducible rfl)
    (try simp only [Act.put,pu1,pu2,pu3])
    refine wpPT_leaf ?_
    have HBX:=hide hHeld
    clear hHeld
    go_wp2_with fail
    go_meet
    case rel=>exact ⟨_,_,_,_,_,_,_,rfl,rfl,by omega,R7.out,off_und H9.out (by first|omega|(have:=HBX.out.size;omega)|(have:=R7.out.lt;omega)),off_und K9.out (by first|omega|(have:=HBX.out.size;omega)|(have:=R7.out.lt;omega)),HBX.out⟩
   refine wpPT_alt (by kernel_rfl) (fun K hK=>?_) ?_
   ·skip
    have hOld:=hide hHeld
    clear hHeld
    unfold Oper.wp execOp
    go_simp
    have hal:=below_new (below_self w') (.cells #[.int .i64 0,.slice none 0 0,.slice none 0 0] 61)
    have hb':=hal.mono (B':=w8.heap.size) (by have:=hOld.out.size;omega)
    have HFN:=hide (show RowL (w'.alloc (.cells #[.int .i64 0,.slice none 0 0,.slice none 0 0] 61)) w'.heap.size 61 (seenC 0 (.slice none 0 0) (.slice none 0 0)) from RowL.new w' 61 (seenC 0 (.slice none 0 0) (.slice none 0 0)))
    have g7l:w8.heap.size≤w'.heap.size:=hOld.out.size
    refine hK.out _ _ (hOld.out.trans hb') (fun hHeld=>?_)
    clear hK K
    have R7:=HFN
    clear hal hb' hOld HFN
    generalize w'.alloc (.cells #[.int .i64 0,.slice none 0 0,.slice none 0 0] 61)=z1 at *
    generalize w'.heap.size=g7 at *
    (try simp only [Act.put,pu1,pu2,pu3])
    refine wpPT_alt (by kernel_rfl) (fun K hK=>?_) ?_
    rotate_left
    ·exact wpPT_stop
    have hOld:=hide hHeld
    clear hHeld
    go_simp
    go_at_call 28
    refine (RMOf_r HO.out (B:=w.heap.size) _ (HU.out.under hOld.out (by omega)) (HL.out.under hOld.out (by omega)) (by have:=hOld.out.size;omega) HF.out HFU.out hsl).mono ?_
    rintro e w' ⟨A9,n9,c9,C9,m9,d9,lo,hi,rfl,hlo,hhi,h9,k9,hbel⟩
    have hb':=hbel.mono (B':=w8.heap.size) (by have:=hOld.out.size;omega)
    (try have hgl:=R7.out.lt)
    have H9:=hide (show OffR _ _ _ _ _ _ _ _ from And.intro h9 hhi)
    clear h9
    have K9:=hide (show OffR _ _ _ _ _ _ _ _ from And.intro k9 hhi)
    clear k9
    have R7':=hide (R7.out.on hbel)
    clear R7
    have R7:=R7'
    clear R7'
    clear hbel
    refine hK.out _ _ (hOld.out.trans hb') (fun hHeld=>?_)
    clear hK K
    (try simp only [Act.put,pu1,pu2,pu3])
    iterate 3
     refine wpPT_take (v:=?_) (by kernel_rfl) (fun wS hSw=>?_) ?_
     rotate_left
     ·(try dsimp only at hSw);go_simp;(try with_reducible rfl)
     (try simp only [Act.put,pu1,pu2,pu3])
    refine wpPT_alt (by kernel_rfl) (fun K hK=>?_) ?_
    rotate_left
    ·exact wpPT_stop
    have hOld:=hide hHeld
    clear hHeld
    refine wp_storeC 61 (.tmp 15) (.tmp 86) rfl 3 seen_size g7 0 61 rfl (seenC 0 (.slice none 0 0) (.slice none 0 0)) (seenC k (.slice A9 n9 c9) (.slice C9 m9 d9)) rfl R7.out rfl (by exact Nat.le_refl _) (seenC_one _ _ _ _ _ _ _) ?_
    intro w' hr' hg' hs'
    rw [splice_all (seenC 0 (.slice none 0 0) (.slice none 0 0)) (seenC k (.slice A9 n9 c9) (.slice C9 m9 d9)) rfl] at hr'
    refine hK.out _ _ (hOld.out.grown hg' (by have:=hOld.out.size;omega) (pu4 (by omega))) (fun hHeld=>?_)
    clear hK K
    have H9':=hide (off_grown H9.out hg' (by first|omega|(have:=hOld.out.size;omega)|(have:=R7.out.lt;omega)) (by omega))
    clear H9
    have H9:=H9'
    clear H9'
    have K9':=hide (off_grown K9.out hg' (by first|omega|(have:=hOld.out.size;omega)|(have:=R7.out.lt;omega)) (by omega))
    clear K9
    have K9:=K9'
    clear K9'
    clear R7
    have R7:=hide hr'
    clear hg' hs' hr' hOld
    (try simp only [Act.put])
    refine wpPT_take (v:=?_) (by kernel_rfl) (fun wS hSw=>?_) ?_
    rotate_left
    ·(try dsimp only at hSw);go_simp;(try with_reducible rfl)
    (try simp only [Act.put,pu1,pu2,pu3])
    refine wpPT_leaf ?_
    have HBX:=hide hHeld
    clear hHeld
    go_wp2_with fail
    go_meet
    case rel=>exact ⟨_,_,_,_,_,_,_,rfl,rfl,by omega,R7.out,off_und H9.out (by first|omega|(have:=HBX.out.size;omega)|(have:=R7.out.lt;omega)),off_und K9.out (by first|omega|(have:=HBX.out.size;omega)|(have:=R7.out.lt;omega)),HBX.out⟩
   exact wpPT_stop
  refine wpPT_alt (by kernel_rfl) (fun K hK=>?_) ?_
  ·skip
   have hOld:=hide hHeld
   clear hHeld
   unfold Oper.wp execOp
   go_simp
   have hal:=below_new (below_self wd) (.cells #[.int .i64 0,.slice none 0 0,.slice none 0 0] 61)
   have hb':=hal.mono (B':=w8.heap.size) (by have:=hOld.out.size;omega)
   have HFN:=hide (show RowL (wd.alloc (.cells #[.int .i64 0,.slice none 0 0,.slice none 0 0] 61)) wd.heap.size 61 (seenC 0 (.slice none 0 0) (.slice none 0 0)) from RowL.new wd 61 (seenC 0 (.slice none 0 0) (.slice none 0 0)))
   have g7l:w8.heap.size≤wd.heap.size:=hOld.out.size
   refine hK.out _ _ (hOld.out.trans hb') (fun hHeld=>?_)
   clear hK K
   have R7:=HFN
   clear hal hb' hOld HFN
   generalize wd.alloc (.cells #[.int .i64 0,.slice none 0 0,.slice none 0 0] 61)=z0 at *
   generalize wd.heap.size=g7 at *
   (try simp only [Act.put,pu1,pu2,pu3])
   refine wpPT_alt (by kernel_rfl) (fun K hK=>?_) ?_
   rotate_left
   ·exact wpPT_stop
   have hOld:=hide hHeld
   clear hHeld
   go_simp
   go_at_call 27
   refine (PJoin_any (l:=names) _ ((HN.out.below (hOld.out.mono (by omega))).more (by have:=hOld.out.size;omega)) (by omega) hNc (by omega)).mono ?_
   rintro e w' ⟨rfl,hbel⟩
   have hb':=hbel.mono (B':=w8.heap.size) (by have:=hOld.out.size;omega)
   have R7':=hide (R7.out.on hbel)
   clear R7
   have R7:=R7'
   clear R7'
   clear hbel
   refine hK.out _ _ (hOld.out.trans hb') (fun hHeld=>?_)
   clear hK K
   (try simp only [Act.put,pu1,pu2,pu3])
   refine wpPT_alt (by kernel_rfl) (fun K hK=>?_) ?_
   rotate_left
   ·exact wpPT_stop
   have hOld:=hide hHeld
   clear hHeld
   go_simp
   go_at_call 28
   refine (RMOf_r HO.out (B:=w.heap.size) _ (HU.out.under hOld.out (by omega)) (HL.out.under hOld.out (by omega)) (by have:=hOld.out.size;omega) HF.out HFU.out hsl).mono ?_
   rintro e w' ⟨A9,n9,c9,C9,m9,d9,lo,hi,rfl,hlo,hhi,h9,k9,hbel⟩
   have hb':=hbel.mono (B':=w8.heap.size) (by have:=hOld.out.size;omega)
   (try have hgl:=R7.out.lt)
   have H9:=hide (show OffR _ _ _ _ _ _ _ _ from And.intro h9 hhi)
   clear h9
   have K9:=hide (show OffR _ _ _ _ _ _ _ _ from And.intro k9 hhi)
   clear k9
   have R7':=hide (R7.out.on hbel)
   clear R7
   have R7:=R7'
   clear R7'
   clear hbel
   refine hK.out _ _ (hOld.out.trans hb') (fun hHeld=>?_)
   clear hK K
   (try simp only [Act.put,pu1,pu2,pu3])
   iterate 3
    refine wpPT_take (v:=?_) (by kernel_rfl) (fun wS hSw=>?_) ?_
    rotate_left
    ·(try dsimp only at hSw);go_simp;(try with_reducible rfl)
    (try simp only [Act.put,pu1,pu2,pu3])
   refine wpPT_alt (by kernel_rfl) (fun K hK=>?_) ?_
   rotate_left
   ·exact wpPT_stop
   have hOld:=hide hHeld
   clear hHeld
   refine wp_storeC 61 (.tmp 15) (.tmp 86) rfl 3 seen_size g7 0 61 rfl (seenC 0 (.slice none 0 0) (.slice none 0 0)) (seenC k (.slice A9 n9 c9) (.slice C9 m9 d9)) rfl R7.out rfl (by exact Nat.le_refl _) (seenC_one _ _ _ _ _ _ _) ?_
   intro w' hr' hg' hs'
   rw [splice_all (seenC 0 (.slice none 0 0) (.slice none 0 0)) (seenC k (.slice A9 n9 c9) (.slice C9 m9 d9)) rfl] at hr'
   refine hK.out _ _ (hOld.out.grown hg' (by have:=hOld.out.size;omega) (pu4 (by omega))) (fun hHeld=>?_)
   clear hK K
   have H9':=hide (off_grown H9.out hg' (by first|omega|(have:=hOld.out.size;omega)|(have:=R7.out.lt;omega)) (by omega))
   clear H9
   have H9:=H9'
   clear H9'
   have K9':=hide (off_grown K9.out hg' (by first|omega|(have:=hOld.out.size;omega)|(have:=R7.out.lt;omega)) (by omega))
   clear K9
   have K9:=K9'
   clear K9'
   clear R7
   have R7:=hide hr'
   clear hg' hs' hr' hOld
   (try simp only [Act.put])
   refine wpPT_take (v:=?_) (by kernel_rfl) (fun wS hSw=>?_) ?_
   rotate_left
   ·(try dsimp only at hSw);go_simp;(try with_reducible rfl)
   (try simp only [Act.put,pu1,pu2,pu3])
   refine wpPT_leaf ?_
   have HBX:=hide hHeld
   clear hHeld
   go_wp2_with fail
   go_meet
   case rel=>exact ⟨_,_,_,_,_,_,_,rfl,rfl,by omega,R7.out,off_und H9.out (by first|omega|(have:=HBX.out.size;omega)|(have:=R7.out.lt;omega)),off_und K9.out (by first|omega|(have:=HBX.out.size;omega)|(have:=R7.out.lt;omega)),HBX.out⟩
  exact wpPT_stop
 case rest =>
 obtain ⟨g15,A9,n9,c9,C9,m9,d9,rfl,rfl,hg15,hr15,hd15,hn15,hbx⟩:=hcut
 rename World=>w9
 have hbys:=hbx.size
 replace HB:=hide (HB.out.trans (hbx.mono HB.out.size))
 replace R13:=hide (R13.out.on hbx)
 replace HD1:=hide (und_up (HD1.out.under hbx (Nat.le_refl _)) hbx.size)
 replace HN1:=hide (und_up (HN1.out.under hbx (Nat.le_refl _)) hbx.size)
 have R15:=hide hr15
 have HD2:=hide hd15
 have HN2:=hide hn15
 have hm8:m8≤1000:=by have:=HN1.out.1;omega
 have hn8:n8≤1000:=by have:=HD1.out.1;omega
 have hrr:(r==r)=true:=by simp
 clear hbx hr15 hd15 hn15
 go_wp2_with (first|(refine wpList_loadW rfl 61 (.tmp 13) rfl 3 seen_agg seen_size (g13) 61 rfl (seenC k (.slice A8 n8 c8) (.slice C8 m8 d8)) R13.out rfl ?_)|(refine wpList_loadW rfl 61 (.tmp 15) rfl 3 seen_agg seen_size (g15) 61 rfl (seenC k (.slice A9 n9 c9) (.slice C9 m9 d9)) R15.out rfl ?_)|(go_at_call 29;refine (RMSame_any (S:=(k,d,nm)) (R:=(k,d,nm)) (b:=true) (by simp) w9 (Bs.of_rd HD1.out) (Bs.of_rd HD2.out) (txt_rd HN1.out) (txt_rd HN2.out) (by omega) (by omega)).mono ?_;rintro e1 wS ⟨rfl,hbel⟩;replace HB:=hide (HB.out.trans (hbel.mono HB.out.size));have hsz2:=hbel.size;clear hbel)|(go_at_call 20;refine (awake18_any _).mono ?_;rintro e98 wz ⟨rfl,hbz⟩;replace HB:=hide (HB.out.trans (hbz.mono HB.out.size));clear hbz))
 go_ret
 exact LawOk.of HB.out
end Go.Proofs.YthdoimgbbabcaaaGreat

