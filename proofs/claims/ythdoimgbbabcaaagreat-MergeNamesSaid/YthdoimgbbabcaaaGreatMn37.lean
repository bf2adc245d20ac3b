import Derived.Test.YthdoimgbbabcaaaGreatMn36

namespace Go.Proofs.YthdoimgbbabcaaaGreat
open Go.RowKit Go.Shelf Plain

theorem of_root (up:List NodV) (ls:List (List NodV)):ofM up ls [47]=((1,[],namesV up ls (rootV up ls)),true):=by
 unfold ofM
 rw [show splitB [47]=true from rfl,show splitS [47]=[] from rfl]
 rfl
set_option linter.unusedSimpArgs false in
set_option maxRecDepth 100000 in
set_option maxHeartbeats 32000000 in
theorem law_MergeNames {g:GeoQ} {AU AL AN:Option Addr} {nU cU nL cL nN cN:Nat} {up:List NodV} {ls:List (List NodV)} {names:List (List UInt8)} {last:List UInt8} (w:World) (hu:RdE nodEn w (Under w.heap.size) AU nU up) (h:RdE layEn w (Under w.heap.size) AL nL ls) (hfu:FineN up) (hfl:∀ns∈ls,FineN ns) (hn:Rd st w w.heap.size AN nN names) :
  Calls Tryz.prog 5 #[.agg (stkC g (.slice AU nU cU) (.slice AL nL cL)).toArray,.slice AN nN cN,.string ⟨last.toArray⟩] w (LawOk w):=by
 obtain ⟨W1,hW1⟩:∃W1,(w.alloc (.cells (stkC g (.slice AU nU cU) (.slice AL nL cL)).toArray 29))=W1:=⟨_,rfl⟩
 obtain ⟨r0,hb1,hs1⟩:=rowA1 w _ _ hW1
 have hW1':(w.alloc (.cells #[.int .i64 g.a,.int .i64 g.b,.int .i64 g.c,.int .i64 g.d,.slice AU nU cU,.slice AL nL cL] 29))=W1:=hW1
 have R3:=hide r0
 have HB:=hide hb1
 have hsz0:=hb1.size
 have HU:=hide (hu.under hb1 (Nat.le_refl _))
 have HL:=hide (h.under hb1 (Nat.le_refl _))
 have HN:=hide ((rd_txt hn).under hb1 (Nat.le_refl _))
 have HFN:=hide hfu
 have HFL:=hide hfl
 unfold stkC
 clear r0 hb1 hW1 hu h hfu hfl hn
 go_enter Tryz.func5,Tryz.ntmps5
 go_wp2_with (first|(refine wpList_loadW rfl 29 (.tmp 3) rfl 6 stk_agg stk_size (w.heap.size) 29 rfl (stkC g (.slice AU nU cU) (.slice AL nL cL)) R3.out rfl ?_))
 clear hW1'
 refine (PStack_any W1 (und_up HU.out (by omega)) (und_up HL.out (by omega)) HFN.out HFL.out).mono ?_
 rintro e w2 ⟨p0,rfl,hb2,hq⟩
 have HQP:=hide hq
 replace HB:=hide (HB.out.trans (hb2.mono HB.out.size))
 replace R3:=hide (R3.out.on hb2)
 replace HU:=hide (HU.out.under hb2 (by omega))
 replace HL:=hide (HL.out.under hb2 (by omega))
 replace HN:=hide (HN.out.under hb2 (by omega))
 have hsz1:=hb2.size
 clear hq hb2
 cases p0
 ·go_wp2_with (go_at_call 20;refine (awake18_any _).mono ?_;rintro e98 wz ⟨rfl,hbz⟩;replace HB:=hide (HB.out.trans (hbz.mono HB.out.size));clear hbz)
  go_ret
  exact LawOk.of HB.out
 by_cases hk8:(8:Int) < (nN:Int)
 ·have dk8:decide ((8:Int) < (nN:Int))=true:=decide_eq_true hk8
  go_wp2_with (go_at_call 20;refine (awake18_any _).mono ?_;rintro e98 wz ⟨rfl,hbz⟩;replace HB:=hide (HB.out.trans (hbz.mono HB.out.size));clear hbz)
  go_ret
  exact LawOk.of HB.out
 have dk8:decide ((8:Int) < (nN:Int))=false:=decide_eq_false hk8
 by_cases hk:(40:Int) < (last.length:Int)
 ·have dk:decide ((40:Int) < (last.length:Int))=true:=decide_eq_true hk
  go_wp2_with (go_at_call 20;refine (awake18_any _).mono ?_;rintro e98 wz ⟨rfl,hbz⟩;replace HB:=hide (HB.out.trans (hbz.mono HB.out.size));clear hbz)
  go_ret
  exact LawOk.of HB.out
 have dk:decide ((40:Int) < (last.length:Int))=false:=decide_eq_false hk
 obtain ⟨hF,hfew⟩:=HQP.out (by first|rfl|trivial)
 have HF:=hide hF
 have HFU:=hide (show FewU up from ⟨by have:=hfew.1;omega,hfew.2⟩)
 have hN8:nN≤8:=by omega
 have HO:=hide (of_root up ls)
 obtain ⟨S,hS⟩:∃S,atM up ls (names++[last])=S:=⟨_,rfl⟩
 have HS:=hide hS
 obtain ⟨R,hR⟩:∃R,atM up ls names=R:=⟨_,rfl⟩
 have HR:=hide hR
 have HSR:=hide (show S=goM up ls R last from by rw [←hS,at_snoc,hR])
 have hRl:R.2.1.2.length≤1000:=by rw [←hR];have:=at_few up ls names;have:=hF.1;omega
 clear hF hfew HQP HFN HFL hS hR hk8 hk
 go_wp2_with (first|(refine wpList_loadW rfl 29 (.tmp 3) rfl 6 stk_agg stk_size (w.heap.size) 29 rfl (stkC g (.slice AU nU cU) (.slice AL nL cL)) R3.out rfl ?_)|(go_at_call 26;refine (MOf_q HO.out w2 HU.out HL.out (by omega) HF.out HFU.out (by decide)).mono ?_;rintro e2 wr ⟨A9,n9,c9,C9,m9,d9,rfl,h9,k9,hbel⟩;clear h9 k9;replace HB:=hide (HB.out.trans (hbel.mono HB.out.size));replace R3:=hide (R3.out.on hbel);replace HU:=hide (HU.out.under hbel (by omega));replace HL:=hide (HL.out.under hbel (by omega));replace HN:=hide (HN.out.under hbel (by omega));have hsz3:=hbel.size;clear hbel)|(refine wpList_storeW rfl 61 (.tmp 7) (.tmp 35) rfl 3 seen_size (wr.heap.size) 61 rfl (seenC 0 (.slice none 0 0) (.slice none 0 0)) (seenC 1 (.slice A9 n9 c9) (.slice C9 m9 d9)) rfl (RowL.new wr 61 (seenC 0 (.slice none 0 0) (.slice none 0 0))) rfl rfl (seenC_one _ _ _ _ _ _ _) ?_;intro wS4 hr4 hg4 hs4;have hzb:=below_stored' hg4;replace HB:=hide (HB.out.trans (hzb.mono HB.out.size));replace R3:=hide (R3.out.on hzb);replace HU:=hide (HU.out.under hzb (by omega));replace HL:=hide (HL.out.under hzb (by omega));replace HN:=hide (HN.out.under hzb (by omega));have hsz5:=hzb.size;have R7:=hide hr4;have hlt4:=hr4.lt;have q7_0:wS4.cell? ⟨wr.heap.size,0,none⟩=some (.int .i64 1):=R7.out.cell 0;clear hzb hr4;clear hg4 hs4))
 clear R7
 rename World=>wr
 go_upto_region 6 with fail
 go_cut [9,10,11] from 44 to 55 (fun v9 v10 v11 wx=>∃(g10 g11:Nat) (A9:Option Addr) (c9:Nat),v9=.int .i64 S.1∧v10=.pointer (some ⟨g10,0,none⟩)∧v11=.pointer (some ⟨g11,0,none⟩)∧wr.heap.size≤g10∧RowL wx g10 47 (viwC S.2.1.1 (.slice A9 S.2.1.2.length c9))∧Below wr.heap.size wr wx)
 case first =>
  refine wp_region_L (fun a0 L a' w'=>∃(u45 u46 u47 u48 u49 u50 u51 u52 u44 u53 u54 u55 u10 u11 u9:Value) (p46:Nat) (A48:Option Addr) (c48 p50:Nat) (A51:Option Addr) (c51 g10 g11:Nat) (A9:Option Addr) (c9:Nat),a'=puts a0 [(45,u45),(46,u46),(47,u47),(48,u48),(49,u49),(50,u50),(51,u51),(52,u52),(44,u44),(53,u53),(54,u54),(55,u55),(10,u10),(11,u11),(9,u9)]∧NmF wr L u46 u48 u50 u51 u10 u11 p46 A48 c48 p50 A51 c51 g10 g11 nN names last S A9 c9 w'∧(L 0→u45=.agg (stkC g (.slice AU nU cU) (.slice AL nL cL)).toArray)∧(L 2→u47=.slice AN nN cN)∧(L 4→u49=.string ⟨last.toArray⟩)∧(L 7→u52=(.tuple #[.int .i64 S.1,.agg (viwC S.2.1.1 (.slice A9 S.2.1.2.length c9)).toArray,.agg (prC S.2.2).toArray]))∧(L 8→u44=(.tuple #[.int .i64 S.1,.agg (viwC S.2.1.1 (.slice A9 S.2.1.2.length c9)).toArray,.agg (prC S.2.2).toArray]))∧(L 9→u53=.int .i64 S.1)∧(L 10→u54=.agg (viwC S.2.1.1 (.slice A9 S.2.1.2.length c9)).toArray)∧(L 11→u55=.agg (prC S.2.2).toArray)∧(L 14→u9=.int .i64 S.1)) (by kernel_rfl) (by kernel_rfl) (by kernel_rfl) ?_ ?_ ?_
  ·exact fun f hf=>⟨f 45,f 46,f 47,f 48,f 49,f 50,f 51,f 52,f 44,f 53,f 54,f 55,f 10,f 11,f 9,0,none,0,0,none,0,0,0,none,0,(hf [45,46,47,48,49,50,51,52,44,53,54,55,10,11,9]).symm,NmF.start (below_drew (below_self wr)),fun h=>h.elim,fun h=>h.elim,fun h=>h.elim,fun h=>h.elim,fun h=>h.elim,fun h=>h.elim,fun h=>h.elim,fun h=>h.elim,fun h=>h.elim⟩
  ·simp only [ForOps,Nat.reduceAdd]
   refine ⟨?_,?_,?_,?_,?_,?_,?_,?_,?_,?_,?_,?_,?_,?_,?_,?_,?_,trivial⟩
   ·intro L a' w' hLi hw hJ0 K hK
    obtain ⟨u45,u46,u47,u48,u49,u50,u51,u52,u44,u53,u54,u55,u10,u11,u9,p46,A48,c48,p50,A51,c51,g10,g11,A9,c9,ha,hJ,v0,v2,v4,v7,v8,v9,v10,v11,v14⟩:=hJ0
    simp only [puts,Act.put,List.setIfInBounds_toArray,List.set_cons_zero,List.set_cons_succ] at ha
    subst ha
    have R3w:=R3.out.on hJ.hb
    refine wp_val (v:=.agg (stkC g (.slice AU nU cU) (.slice AL nL cL)).toArray) (w':=w') ?_ ?_
    ·refine execOp_load (x:=.tmp 3) (k:=6) (g:=w.heap.size) (off:=0) (cs:=(stkC g (.slice AU nU cU) (.slice AL nL cL))) ?_ stk_agg stk_size ?_ (fun j v hv=>by rw [Nat.zero_add];exact (R3w.cell j).trans hv) rfl <;> rfl
    simp only [puts,Act.put,List.setIfInBounds_toArray,List.set_cons_zero,List.set_cons_succ]
    exact hK.out _ _ ⟨(.agg (stkC g (.slice AU nU cU) (.slice AL nL cL)).toArray),u46,u47,u48,u49,u50,u51,u52,u44,u53,u54,u55,u10,u11,u9,p46,A48,c48,p50,A51,c51,g10,g11,A9,c9,by simp only [puts,Act.put,List.setIfInBounds_toArray,List.set_cons_zero,List.set_cons_succ],hJ.more (by decide),fun _=>rfl,fun LP=>v2 (or_of (by decide) LP),fun LP=>v4 (or_of (by decide) LP),fun LP=>v7 (or_of (by decide) LP),fun LP=>v8 (or_of (by decide) LP),fun LP=>v9 (or_of (by decide) LP),fun LP=>v10 (or_of (by decide) LP),fun LP=>v11 (or_of (by decide) LP),fun LP=>v14 (or_of (by decide) LP)⟩
   ·intro L a' w' hLi hw hJ0 K hK
    obtain ⟨u45,u46,u47,u48,u49,u50,u51,u52,u44,u53,u54,u55,u10,u11,u9,p46,A48,c48,p50,A51,c51,g10,g11,A9,c9,ha,hJ,v0,v2,v4,v7,v8,v9,v10,v11,v14⟩:=hJ0
    simp only [puts,Act.put,List.setIfInBounds_toArray,List.set_cons_zero,List.set_cons_succ] at ha
    subst ha
    unfold Oper.wp execOp
    go_simp
    have hbz:=below_new (below_self w') (.cells #[] 9)
    have hm:=hJ.on hbz
    exact hK.out _ _ ⟨u45,(.slice (some ⟨w'.heap.size,0,none⟩) 0 0),u47,u48,u49,u50,u51,u52,u44,u53,u54,u55,u10,u11,u9,w'.heap.size,A48,c48,p50,A51,c51,g10,g11,A9,c9,by simp only [puts,Act.put,List.setIfInBounds_toArray,List.set_cons_zero,List.set_cons_succ],{hb:=hm.hb,f1:=fun _=>rfl,r1:=fun _ _=>(OwE.empty Enc.text w' 9).rebase hJ.hb.size,f3:=fun LP=>hm.f3 (or_of (by decide) LP),r3:=fun LP N6=>hm.r3 (or_of (by decide) LP) (fun q=>N6 (.inr q)),f5:=fun LP=>hm.f5 (or_of (by decide) LP),r5:=fun LP N6=>hm.r5 (or_of (by decide) LP) (fun q=>N6 (.inr q)),l5:=fun LP=>hm.l5 (or_of (by decide) LP),d3:=fun LP N6 L5=>hm.d3 (or_of (by decide) LP) (fun q=>N6 (.inr q)) (or_of (by decide) L5),d1:=fun _ _ L5=>Nat.ne_of_gt (hJ.l5 (or_of (by decide) L5)),f6:=fun LP=>hm.f6 (or_of (by decide) LP),r6:=fun LP N7=>hm.r6 (or_of (by decide) LP) (fun q=>N7 (.inr q)),f12:=fun LP=>hm.f12 (or_of (by decide) LP),b12:=fun LP=>hm.b12 (or_of (by decide) LP),r12:=fun LP N15=>hm.r12 (or_of (by decide) LP) (fun q=>N15 (.inr q)),f13:=fun LP=>hm.f13 (or_of (by decide) LP),b13:=fun LP=>hm.b13 (or_of (by decide) LP),r13:=fun LP N16=>hm.r13 (or_of (by decide) LP) (fun q=>N16 (.inr q)),o8:=fun LP=>.inr (hm.o8 (or_of (by decide) LP)),o10:=fun LP=>.inr (hm.o10 (or_of (by decide) LP)),o15:=fun LP=>.inr (hm.o15 (or_of (by decide) LP)),p15:=fun LP=>.inr (hm.p15 (or_of (by decide) LP)),r15:=fun LP=>hm.r15 (or_of (by decide) LP),p16:=fun LP=>.inr (hm.p16 (or_of (by decide) LP)),r16:=fun LP=>hm.r16 (or_of (by decide) LP)},fun LP=>v0 (or_of (by decide) LP),fun LP=>v2 (or_of (by decide) LP),fun LP=>v4 (or_of (by decide) LP),fun LP=>v7 (or_of (by decide) LP),fun LP=>v8 (or_of (by decide) LP),fun LP=>v9 (or_of (by decide) LP),fun LP=>v10 (or_of (by decide) LP),fun LP=>v11 (or_of (by decide) LP),fun LP=>v14 (or_of (by decide) LP)⟩
   ·intro L a' w' hLi hw hJ0 K hK
    obtain ⟨u45,u46,u47,u48,u49,u50,u51,u52,u44,u53,u54,u55,u10,u11,u9,p46,A48,c48,p50,A51,c51,g10,g11,A9,c9,ha,hJ,v0,v2,v4,v7,v8,v9,v10,v11,v14⟩:=hJ0
    simp only [puts,Act.put,List.setIfInBounds_toArray,List.set_cons_zero,List.set_cons_succ] at ha
    subst ha
    unfold Oper.wp execOp
    go_simp
    exact hK.out _ _ ⟨u45,u46,(.slice AN nN cN),u48,u49,u50,u51,u52,u44,u53,u54,u55,u10,u11,u9,p46,A48,c48,p50,A51,c51,g10,g11,A9,c9,by simp only [puts,Act.put,List.setIfInBounds_toArray,List.set_cons_zero,List.set_cons_succ],hJ.more (by decide),fun LP=>v0 (or_of (by decide) LP),fun _=>rfl,fun LP=>v4 (or_of (by decide) LP),fun LP=>v7 (or_of (by decide) LP),fun LP=>v8 (or_of (by decide) LP),fun LP=>v9 (or_of (by decide) LP),fun LP=>v10 (or_of (by decide) LP),fun LP=>v11 (or_of (by decide) LP),fun LP=>v14 (or_of (by decide) LP)⟩
   ·intro L a' w' hLi hw hJ0 K hK
    obtain ⟨u45,u46,u47,u48,u49,u50,u51,u52,u44,u53,u54,u55,u10,u11,u9,p46,A48,c48,p50,A51,c51,g10,g11,A9,c9,ha,hJ,v0,v2,v4,v7,v8,v9,v10,v11,v14⟩:=hJ0
    simp only [puts,Act.put,List.setIfInBounds_toArray,List.set_cons_zero,List.set_cons_succ] at ha
    subst ha
    have h1:L 1:=hw 1 (by decide)
    have h2:L 2:=hw 2 (by decide)
    obtain rfl:=hJ.f1 h1
    obtain rfl:=v2 h2
    have hr1:=hJ.r1 h1 hLi
    have hp:=hr1.baseB _ rfl
    refine wp_append_lit0 w' (.tmp 46) (.tmp 47) 54 rfl wr.heap.size 9 (.string ⟨#[]⟩) 16 Tryz.underlying54 str_infoE rfl (by decide) p46 rfl hr1 (Under w.heap.size) AN nN cN names rfl (HN.out.under hJ.hb (by omega)) (fun b hb=>⟨⟨by have hb':b < w.heap.size:=hb;have:=hJ.hb.size;omega,fun _ _ _ _=>rfl⟩,fun a ha=>by cases ha;have hb':b < w.heap.size:=hb;exact (fun e=>by subst e;exact absurd hp (by show ¬wr.heap.size≤b;omega))⟩) (by omega) (by omega) hJ.hb.size fun A' c' w'' ho hbz hblk=>?_
    have hm:=hJ.on hbz
    simp only [puts,Act.put,List.setIfInBounds_toArray,List.set_cons_zero,List.set_cons_succ]
    exact hK.out _ _ ⟨u45,(.slice (some ⟨p46,0,none⟩) 0 0),(.slice AN nN cN),(.slice A' nN c'),u49,u50,u51,u52,u44,u53,u54,u55,u10,u11,u9,p46,A',c',p50,A51,c51,g10,g11,A9,c9,by simp only [puts,Act.put,List.setIfInBounds_toArray,List.set_cons_zero,List.set_cons_succ],{hb:=hm.hb,f1:=fun LP=>hm.f1 (or_of (by decide) LP),r1:=fun LP N3=>absurd (.inl rfl) N3,f3:=fun _=>rfl,r3:=fun _ _=>ho,f5:=fun LP=>hm.f5 (or_of (by decide) LP),r5:=fun LP N6=>hm.r5 (or_of (by decide) LP) (fun q=>N6 (.inr q)),l5:=fun LP=>hm.l5 (or_of (by decide) LP),d3:=fun _ _ L5 a ha e=>by have q5:=or_of (by decide) L5;have q1:=hJ.l5 q5;have q2:=hJ.d1 h1 hLi q5;rcases hblk a ha with q|q <;> omega,d1:=fun LP N3=>absurd (.inl rfl) N3,f6:=fun LP=>hm.f6 (or_of (by decide) LP),r6:=fun LP N7=>hm.r6 (or_of (by decide) LP) (fun q=>N7 (.inr q)),f12:=fun LP=>hm.f12 (or_of (by decide) LP),b12:=fun LP=>hm.b12 (or_of (by decide) LP),r12:=fun LP N15=>hm.r12 (or_of (by decide) LP) (fun q=>N15 (.inr q)),f13:=fun LP=>hm.f13 (or_of (by decide) LP),b13:=fun LP=>hm.b13 (or_of (by decide) LP),r13:=fun LP N16=>hm.r13 (or_of (by decide) LP) (fun q=>N16 (.inr q)),o8:=fun LP=>.inr (hm.o8 (or_of (by decide) LP)),o10:=fun LP=>.inr (hm.o10 (or_of (by decide) LP)),o15:=fun LP=>.inr (hm.o15 (or_of (by decide) LP)),p15:=fun LP=>.inr (hm.p15 (or_of (by decide) LP)),r15:=fun LP=>hm.r15 (or_of (by decide) LP),p16:=fun LP=>.inr (hm.p16 (or_of (by decide) LP)),r16:=fun LP=>hm.r16 (or_of (by decide) LP)},fun LP=>v0 (or_of (by decide) LP),fun LP=>v2 (or_of (by decide) LP),fun LP=>v4 (or_of (by decide) LP),fun LP=>v7 (or_of (by decide) LP),fun LP=>v8 (or_of (by decide) LP),fun LP=>v9 (or_of (by decide) LP),fun LP=>v10 (or_of (by decide) LP),fun LP=>v11 (or_of (by decide) LP),fun LP=>v14 (or_of (by decide) LP)⟩
   ·intro L a' w' hLi hw hJ0 K hK
    obtain ⟨u45,u46,u47,u48,u49,u50,u51,u52,u44,u53,u54,u55,u10,u11,u9,p46,A48,c48,p50,A51,c51,g10,g11,A9,c9,ha,hJ,v0,v2,v4,v7,v8,v9,v10,v11,v14⟩:=hJ0
    simp only [puts,Act.put,List.setIfInBounds_toArray,List.set_cons_zero,List.set_cons_succ] at ha
    subst ha
    unfold Oper.wp execOp
    go_simp
    exact hK.out _ _ ⟨u45,u46,u47,u48,(.string ⟨last.toArray⟩),u50,u51,u52,u44,u53,u54,u55,u10,u11,u9,p46,A48,c48,p50,A51,c51,g10,g11,A9,c9,by simp only [puts,Act.put,List.setIfInBounds_toArray,List.set_cons_zero,List.set_cons_succ],hJ.more (by decide),fun LP=>v0 (or_of (by decide) LP),fun LP=>v2 (or_of (by decide) LP),fun _=>rfl,fun LP=>v7 (or_of (by decide) LP),fun LP=>v8 (or_of (by decide) LP),fun LP=>v9 (or_of (by decide) LP),fun LP=>v10 (or_of (by decide) LP),fun LP=>v11 (or_of (by decide) LP),fun LP=>v14 (or_of (by decide) LP)⟩
   ·intro L a' w' hLi hw hJ0 K hK
    obtain ⟨u45,u46,u47,u48,u49,u50,u51,u52,u44,u53,u54,u55,u10,u11,u9,p46,A48,c48,p50,A51,c51,g10,g11,A9,c9,ha,hJ,v0,v2,v4,v7,v8,v9,v10,v11,v14⟩:=hJ0
    simp only [puts,Act.put,List.setIfInBounds_toArray,List.set_cons_zero,List.set_cons_succ] at ha
    subst ha
    have h4:L 4:=hw 4 (by decide)
    obtain rfl:=v4 h4
    unfold Oper.wp execOp
    go_simp
    have hbz:=below_new (below_self w') (.cells #[.string ⟨last.toArray⟩] 9)
    have hm:=hJ.on hbz
    exact hK.out _ _ ⟨u45,u46,u47,u48,(.string ⟨last.toArray⟩),(.slice (some ⟨w'.heap.size,0,none⟩) 1 1),u51,u52,u44,u53,u54,u55,u10,u11,u9,p46,A48,c48,w'.heap.size,A51,c51,g10,g11,A9,c9,by simp only [puts,Act.put,List.setIfInBounds_toArray,List.set_cons_zero,List.set_cons_succ],{hb:=hm.hb,f1:=fun LP=>hm.f1 (or_of (by decide) LP),r1:=fun LP N3=>hm.r1 (or_of (by decide) LP) (fun q=>N3 (.inr q)),f3:=fun LP=>hm.f3 (or_of (by decide) LP),r3:=fun LP N6=>hm.r3 (or_of (by decide) LP) (fun q=>N6 (.inr q)),f5:=fun _=>rfl,r5:=fun _ _=>(enc_lit1 (text_R last) w' 9 (Nat.le_refl _)).mono (fun _ _=>rfl) (fun b hb=>by have h2:=hb.2;simp at h2;omega),l5:=fun _=>by simp,d3:=fun LP N6 _ a ha=>Nat.ne_of_lt ((hJ.r3 (or_of (by decide) LP) (fun q=>N6 (.inr q))).ltB a ha),d1:=fun LP N3 _=>Nat.ne_of_lt ((hJ.r1 (or_of (by decide) LP) (fun q=>N3 (.inr q))).ltB _ rfl),f6:=fun LP=>hm.f6 (or_of (by decide) LP),r6:=fun LP N7=>hm.r6 (or_of (by decide) LP) (fun q=>N7 (.inr q)),f12:=fun LP=>hm.f12 (or_of (by decide) LP),b12:=fun LP=>hm.b12 (or_of (by decide) LP),r12:=fun LP N15=>hm.r12 (or_of (by decide) LP) (fun q=>N15 (.inr q)),f13:=fun LP=>hm.f13 (or_of (by decide) LP),b13:=fun LP=>hm.b13 (or_of (by decide) LP),r13:=fun LP N16=>hm.r13 (or_of (by decide) LP) (fun q=>N16 (.inr q)),o8:=fun LP=>.inr (hm.o8 (or_of (by decide) LP)),o10:=fun LP=>.inr (hm.o10 (or_of (by decide) LP)),o15:=fun LP=>.inr (hm.o15 (or_of (by decide) LP)),p15:=fun LP=>.inr (hm.p15 (or_of (by decide) LP)),r15:=fun LP=>hm.r15 (or_of (by decide) LP),p16:=fun LP=>.inr (hm.p16 (or_of (by decide) LP)),r16:=fun LP=>hm.r16 (or_of (by decide) LP)},fun LP=>v0 (or_of (by decide) LP),fun LP=>v2 (or_of (by decide) LP),fun LP=>v4 (or_of (by decide) LP),fun LP=>v7 (or_of (by decide) LP),fun LP=>v8 (or_of (by decide) LP),fun LP=>v9 (or_of (by decide) LP),fun LP=>v10 (or_of (by decide) LP),fun LP=>v11 (or_of (by decide) LP),fun LP=>v14 (or_of (by decide) LP)⟩
   ·intro L a' w' hLi hw hJ0 K hK
    obtain ⟨u45,u46,u47,u48,u49,u50,u51,u52,u44,u53,u54,u55,u10,u11,u9,p46,A48,c48,p50,A51,c51,g10,g11,A9,c9,ha,hJ,v0,v2,v4,v7,v8,v9,v10,v11,v14⟩:=hJ0
    simp only [puts,Act.put,List.setIfInBounds_toArray,List.set_cons_zero,List.set_cons_succ] at ha
    subst ha
    have h3:L 3:=hw 3 (by decide)
    have h5:L 5:=hw 5 (by decide)
    obtain rfl:=hJ.f3 h3
    obtain rfl:=hJ.f5 h5
    have hr3:=hJ.r3 h3 hLi
    have hl5:=hJ.l5 h5
    refine wp_append_OwK w' (.tmp 48) (.tmp 50) 54 rfl wr.heap.size 9 (.string ⟨#[]⟩) 16 Tryz.underlying54 str_infoE rfl (by decide) A48 nN c48 names rfl hr3 (fun b=>b=p50) (some ⟨p50,0,none⟩) 1 1 [last] rfl (hJ.r5 h5 hLi) (fun b hb=>⟨⟨by have e:b=p50:=hb;omega,fun _ _ _ _=>rfl⟩,fun a ha e=>hJ.d3 h3 hLi h5 a ha (by have e2:b=p50:=hb;rw [←e2,e])⟩) (by omega) (nN+1) rfl (by omega) (by omega) hJ.hb.size fun A' c' w'' ho hb2 _ hg=>?_
    simp only [puts,Act.put,List.setIfInBounds_toArray,List.set_cons_zero,List.set_cons_succ]
    exact hK.out _ _ ⟨u45,u46,u47,(.slice A48 nN c48),u49,(.slice (some ⟨p50,0,none⟩) 1 1),(.slice A' (nN+1) c'),u52,u44,u53,u54,u55,u10,u11,u9,p46,A48,c48,p50,A',c',g10,g11,A9,c9,by simp only [puts,Act.put,List.setIfInBounds_toArray,List.set_cons_zero,List.set_cons_succ],{hb:=hJ.hb.trans hb2,f1:=fun LP=>hJ.f1 (or_of (by decide) LP),r1:=fun LP N3=>absurd (.inr h3) N3,f3:=fun LP=>hJ.f3 (or_of (by decide) LP),r3:=fun LP N6=>absurd (.inl rfl) N6,f5:=fun LP=>hJ.f5 (or_of (by decide) LP),r5:=fun LP N6=>absurd (.inl rfl) N6,l5:=fun LP=>Nat.lt_of_lt_of_le (hJ.l5 (or_of (by decide) LP)) hg.size,d3:=fun LP N6=>absurd (.inl rfl) N6,d1:=fun LP N3=>absurd (.inr h3) N3,f6:=fun _=>rfl,r6:=fun _ _=>ho,f12:=fun LP=>hJ.f12 (or_of (by decide) LP),b12:=fun LP=>hJ.b12 (or_of (by decide) LP),r12:=fun LP N15=>(hJ.r12 (or_of (by decide) LP) (fun q=>N15 (.inr q))).grown hg (OwE.rowApart hr3 (hJ.r12 (or_of (by decide) LP) (fun q=>N15 (.inr q))) (by decide)),f13:=fun LP=>hJ.f13 (or_of (by decide) LP),b13:=fun LP=>hJ.b13 (or_of (by decide) LP),r13:=fun LP N16=>(hJ.r13 (or_of (by decide) LP) (fun q=>N16 (.inr q))).grown hg (OwE.rowApart hr3 (hJ.r13 (or_of (by decide) LP) (fun q=>N16 (.inr q))) (by decide)),o8:=fun LP=>.inr (hJ.o8 (or_of (by decide) LP)),o10:=fun LP=>.inr (hJ.o10 (or_of (by decide) LP)),o15:=fun LP=>.inr (hJ.o15 (or_of (by decide) LP)),p15:=fun LP=>.inr (hJ.p15 (or_of (by decide) LP)),r15:=fun LP=>(hJ.r15 (or_of (by decide) LP)).grown hg (OwE.rowApart hr3 (hJ.r15 (or_of (by decide) LP)) (by decide)),p16:=fun LP=>.inr (hJ.p16 (or_of (by decide) LP)),r16:=fun LP=>(hJ.r16 (or_of (by decide) LP)).grown hg (OwE.rowApart hr3 (hJ.r16 (or_of (by decide) LP)) (by decide))},fun LP=>v0 (or_of (by decide) LP),fun LP=>v2 (or_of (by decide) LP),fun LP=>v4 (or_of (by decide) LP),fun LP=>v7 (or_of (by decide) LP),fun LP=>v8 (or_of (by decide) LP),fun LP=>v9 (or_of (by decide) LP),fun LP=>v10 (or_of (by decide) LP),fun LP=>v11 (or_of (by decide) LP),fun LP=>v14 (or_of (by decide) LP)⟩
   ·intro L a' w' hLi hw hJ0 K hK
    obtain ⟨u45,u46,u47,u48,u49,u50,u51,u52,u44,u53,u54,u55,u10,u11,u9,p46,A48,c48,p50,A51,c51,g10,g11,A9,c9,ha,hJ,v0,v2,v4,v7,v8,v9,v10,v11,v14⟩:=hJ0
    simp only [puts,Act.put,List.setIfInBounds_toArray,List.set_cons_zero,List.set_cons_succ] at ha
    subst ha
    have h0:L 0:=hw 0 (by decide)
    have h6:L 6:=hw 6 (by decide)
    obtain rfl:=v0 h0
    obtain rfl:=hJ.f6 h6
    have hr6:=hJ.r6 h6 hLi
    go_simp
    go_at_call 21
    refine (MAt_any HS.out w' (HU.out.under hJ.hb (by omega)) (HL.out.under hJ.hb (by omega)) (by have:=hJ.hb.size;omega) HF.out HFU.out (txt_rd ((hr6.rd rfl).plain)) (Nat.le_refl _) (by omega)).mono ?_
    rintro e w'' ⟨A9',c9',rfl,-,hbz⟩
    have hm:=hJ.on hbz
    simp only [puts,Act.put,List.setIfInBounds_toArray,List.set_cons_zero,List.set_cons_succ]
    exact hK.out _ _ ⟨(.agg (stkC g (.slice AU nU cU) (.slice AL nL cL)).toArray),u46,u47,u48,u49,u50,(.slice A51 (nN+1) c51),(.tuple #[.int .i64 S.1,.agg (viwC S.2.1.1 (.slice A9' S.2.1.2.length c9')).toArray,.agg (prC S.2.2).toArray]),u44,u53,u54,u55,u10,u11,u9,p46,A48,c48,p50,A51,c51,g10,g11,A9',c9',by simp only [puts,Act.put,List.setIfInBounds_toArray,List.set_cons_zero,List.set_cons_succ],{hb:=hm.hb,f1:=fun LP=>hm.f1 (or_of (by decide) LP),r1:=fun LP N3=>hm.r1 (or_of (by decide) LP) (fun q=>N3 (.inr q)),f3:=fun LP=>hm.f3 (or_of (by decide) LP),r3:=fun LP N6=>hm.r3 (or_of (by decide) LP) (fun q=>N6 (.inr q)),f5:=fun LP=>hm.f5 (or_of (by decide) LP),r5:=fun LP N6=>hm.r5 (or_of (by decide) LP) (fun q=>N6 (.inr q)),l5:=fun LP=>hm.l5 (or_of (by decide) LP),d3:=fun LP N6 L5=>hm.d3 (or_of (by decide) LP) (fun q=>N6 (.inr q)) (or_of (by decide) L5),d1:=fun LP N3 L5=>hm.d1 (or_of (by decide) LP) (fun q=>N3 (.inr q)) (or_of (by decide) L5),f6:=fun LP=>hm.f6 (or_of (by decide) LP),r6:=fun LP N7=>absurd (.inl rfl) N7,f12:=fun LP=>hm.f12 (or_of (by decide) LP),b12:=fun LP=>hm.b12 (or_of (by decide) LP),r12:=fun LP N15=>hm.r12 (or_of (by decide) LP) (fun q=>N15 (.inr q)),f13:=fun LP=>hm.f13 (or_of (by decide) LP),b13:=fun LP=>hm.b13 (or_of (by decide) LP),r13:=fun LP N16=>hm.r13 (or_of (by decide) LP) (fun q=>N16 (.inr q)),o8:=fun _=>.inl rfl,o10:=fun _=>.inl rfl,o15:=fun _=>.inl rfl,p15:=fun LP=>.inr (hm.p15 (or_of (by decide) LP)),r15:=fun LP=>absurd (hJ.o15 (or_of (by decide) LP)) hLi,p16:=fun LP=>.inr (hm.p16 (or_of (by decide) LP)),r16:=fun LP=>hm.r16 (or_of (by decide) LP)},fun LP=>v0 (or_of (by decide) LP),fun LP=>v2 (or_of (by decide) LP),fun LP=>v4 (or_of (by decide) LP),fun _=>rfl,fun LP=>absurd (hJ.o8 (or_of (by decide) LP)) hLi,fun LP=>v9 (or_of (by decide) LP),fun LP=>absurd (hJ.o10 (or_of (by decide) LP)) hLi,fun LP=>v11 (or_of (by decide) LP),fun LP=>v14 (or_of (by decide) LP)⟩
   ·intro L a' w' hLi hw hJ0 K hK
    obtain ⟨u45,u46,u47,u48,u49,u50,u51,u52,u44,u53,u54,u55,u10,u11,u9,p46,A48,c48,p50,A51,c51,g10,g11,A9,c9,ha,hJ,v0,v2,v4,v7,v8,v9,v10,v11,v14⟩:=hJ0
    simp only [puts,Act.put,List.setIfInBounds_toArray,List.set_cons_zero,List.set_cons_succ] at ha
    subst ha
    have h7:L 7:=hw 7 (by decide)
    obtain rfl:=v7 h7
    unfold Oper.wp execOp
    go_simp
    exact hK.out _ _ ⟨u45,u46,u47,u48,u49,u50,u51,(.tuple #[.int .i64 S.1,.agg (viwC S.2.1.1 (.slice A9 S.2.1.2.length c9)).toArray,.agg (prC S.2.2).toArray]),(.tuple #[.int .i64 S.1,.agg (viwC S.2.1.1 (.slice A9 S.2.1.2.length c9)).toArray,.agg (prC S.2.2).toArray]),u53,u54,u55,u10,u11,u9,p46,A48,c48,p50,A51,c51,g10,g11,A9,c9,by simp only [puts,Act.put,List.setIfInBounds_toArray,List.set_cons_zero,List.set_cons_succ],{hb:=hJ.hb,f1:=fun LP=>hJ.f1 (or_of (by decide) LP),r1:=fun LP N3=>hJ.r1 (or_of (by decide) LP) (fun q=>N3 (.inr q)),f3:=fun LP=>hJ.f3 (or_of (by decide) LP),r3:=fun LP N6=>hJ.r3 (or_of (by decide) LP) (fun q=>N6 (.inr q)),f5:=fun LP=>hJ.f5 (or_of (by decide) LP),r5:=fun LP N6=>hJ.r5 (or_of (by decide) LP) (fun q=>N6 (.inr q)),l5:=fun LP=>hJ.l5 (or_of (by decide) LP),d3:=fun LP N6 L5=>hJ.d3 (or_of (by decide) LP) (fun q=>N6 (.inr q)) (or_of (by decide) L5),d1:=fun LP N3 L5=>hJ.d1 (or_of (by decide) LP) (fun q=>N3 (.inr q)) (or_of (by decide) L5),f6:=fun LP=>hJ.f6 (or_of (by decide) LP),r6:=fun LP N7=>hJ.r6 (or_of (by decide) LP) (fun q=>N7 (.inr q)),f12:=fun LP=>hJ.f12 (or_of (by decide) LP),b12:=fun LP=>hJ.b12 (or_of (by decide) LP),r12:=fun LP N15=>hJ.r12 (or_of (by decide) LP) (fun q=>N15 (.inr q)),f13:=fun LP=>hJ.f13 (or_of (by decide) LP),b13:=fun LP=>hJ.b13 (or_of (by decide) LP),r13:=fun LP N16=>hJ.r13 (or_of (by decide) LP) (fun q=>N16 (.inr q)),o8:=fun _=>.inr h7,o10:=fun LP=>.inr (hJ.o10 (or_of (by decide) LP)),o15:=fun LP=>.inr (hJ.o15 (or_of (by decide) LP)),p15:=fun LP=>.inr (hJ.p15 (or_of (by decide) LP)),r15:=fun LP=>hJ.r15 (or_of (by decide) LP),p16:=fun LP=>.inr (hJ.p16 (or_of (by decide) LP)),r16:=fun LP=>hJ.r16 (or_of (by decide) LP)},fun LP=>v0 (or_of (by decide) LP),fun LP=>v2 (or_of (by decide) LP),fun LP=>v4 (or_of (by decide) LP),fun LP=>v7 (or_of (by decide) LP),fun _=>rfl,fun LP=>v9 (or_of (by decide) LP),fun LP=>v10 (or_of (by decide) LP),fun LP=>v11 (or_of (by decide) LP),fun LP=>v14 (or_of (by decide) LP)⟩
   ·intro L a' w' hLi hw hJ0 K hK
    obtain ⟨u45,u46,u47,u48,u49,u50,u51,u52,u44,u53,u54,u55,u10,u11,u9,p46,A48,c48,p50,A51,c51,g10,g11,A9,c9,ha,hJ,v0,v2,v4,v7,v8,v9,v10,v11,v14⟩:=hJ0
    simp only [puts,Act.put,List.setIfInBounds_toArray,List.set_cons_zero,List.set_cons_succ] at ha
    subst ha
    have h8:L 8:=hw 8 (by decide)
    obtain rfl:=v8 h8
    unfold Oper.wp execOp
    go_simp
    exact hK.out _ _ ⟨u45,u46,u47,u48,u49,u50,u51,u52,(.tuple #[.int .i64 S.1,.agg (viwC S.2.1.1 (.slice A9 S.2.1.2.length c9)).toArray,.agg (prC S.2.2).toArray]),(.int .i64 S.1),u54,u55,u10,u11,u9,p46,A48,c48,p50,A51,c51,g10,g11,A9,c9,by simp only [puts,Act.put,List.setIfInBounds_toArray,List.set_cons_zero,List.set_cons_succ],hJ.more (by decide),fun LP=>v0 (or_of (by decide) LP),fun LP=>v2 (or_of (by decide) LP),fun LP=>v4 (or_of (by decide) LP),fun LP=>v7 (or_of (by decide) LP),fun LP=>v8 (or_of (by decide) LP),fun _=>rfl,fun LP=>v10 (or_of (by decide) LP),fun LP=>v11 (or_of (by decide) LP),fun LP=>v14 (or_of (by decide) LP)⟩
   ·intro L a' w' hLi hw hJ0 K hK
    obtain ⟨u45,u46,u47,u48,u49,u50,u51,u52,u44,u53,u54,u55,u10,u11,u9,p46,A48,c48,p50,A51,c51,g10,g11,A9,c9,ha,hJ,v0,v2,v4,v7,v8,v9,v10,v11,v14⟩:=hJ0
    simp only [puts,Act.put,List.setIfInBounds_toArray,List.set_cons_zero,List.set_cons_succ] at ha
    subst ha
    have h8:L 8:=hw 8 (by decide)
    obtain rfl:=v8 h8
    unfold Oper.wp execOp
    go_simp
    exact hK.out _ _ ⟨u45,u46,u47,u48,u49,u50,u51,u52,(.tuple #[.int .i64 S.1,.agg (viwC S.2.1.1 (.slice A9 S.2.1.2.length c9)).toArray,.agg (prC S.2.2).toArray]),u53,(.agg (viwC S.2.1.1 (.slice A9 S.2.1.2.length c9)).toArray),u55,u10,u11,u9,p46,A48,c48,p50,A51,c51,g10,g11,A9,c9,by simp only [puts,Act.put,List.setIfInBounds_toArray,List.set_cons_zero,List.set_cons_succ],{hb:=hJ.hb,f1:=fun LP=>hJ.f1 (or_of (by decide) LP),r1:=fun LP N3=>hJ.r1 (or_of (by decide) LP) (fun q=>N3 (.inr q)),f3:=fun LP=>hJ.f3 (or_of (by decide) LP),r3:=fun LP N6=>hJ.r3 (or_of (by decide) LP) (fun q=>N6 (.inr q)),f5:=fun LP=>hJ.f5 (or_of (by decide) LP),r5:=fun LP N6=>hJ.r5 (or_of (by decide) LP) (fun q=>N6 (.inr q)),l5:=fun LP=>hJ.l5 (or_of (by decide) LP),d3:=fun LP N6 L5=>hJ.d3 (or_of (by decide) LP) (fun q=>N6 (.inr q)) (or_of (by decide) L5),d1:=fun LP N3 L5=>hJ.d1 (or_of (by decide) LP) (fun q=>N3 (.inr q)) (or_of (by decide) L5),f6:=fun LP=>hJ.f6 (or_of (by decide) LP),r6:=fun LP N7=>hJ.r6 (or_of (by decide) LP) (fun q=>N7 (.inr q)),f12:=fun LP=>hJ.f12 (or_of (by decide) LP),b12:=fun LP=>hJ.b12 (or_of (by decide) LP),r12:=fun LP N15=>hJ.r12 (or_of (by decide) LP) (fun q=>N15 (.inr q)),f13:=fun LP=>hJ.f13 (or_of (by decide) LP),b13:=fun LP=>hJ.b13 (or_of (by decide) LP),r13:=fun LP N16=>hJ.r13 (or_of (by decide) LP) (fun q=>N16 (.inr q)),o8:=fun LP=>.inr (hJ.o8 (or_of (by decide) LP)),o10:=fun _=>.inr (hJ.o8 h8),o15:=fun LP=>.inr (hJ.o15 (or_of (by decide) LP)),p15:=fun LP=>.inr (hJ.p15 (or_of (by decide) LP)),r15:=fun LP=>hJ.r15 (or_of (by decide) LP),p16:=fun LP=>.inr (hJ.p16 (or_of (by decide) LP)),r16:=fun LP=>hJ.r16 (or_of (by decide) LP)},fun LP=>v0 (or_of (by decide) LP),fun LP=>v2 (or_of (by decide) LP),fun LP=>v4 (or_of (by decide) LP),fun LP=>v7 (or_of (by decide) LP),fun LP=>v8 (or_of (by decide) LP),fun LP=>v9 (or_of (by decide) LP),fun _=>rfl,fun LP=>v11 (or_of (by decide) LP),fun LP=>v14 (or_of (by decide) LP)⟩
   ·intro L a' w' hLi hw hJ0 K hK
    obtain ⟨u45,u46,u47,u48,u49,u50,u51,u52,u44,u53,u54,u55,u10,u11,u9,p46,A48,c48,p50,A51,c51,g10,g11,A9,c9,ha,hJ,v0,v2,v4,v7,v8,v9,v10,v11,v14⟩:=hJ0
    simp only [puts,Act.put,List.setIfInBounds_toArray,List.set_cons_zero,List.set_cons_succ] at ha
    subst ha
    have h8:L 8:=hw 8 (by decide)
    obtain rfl:=v8 h8
    unfold Oper.wp execOp
    go_simp
    exact hK.out _ _ ⟨u45,u46,u47,u48,u49,u50,u51,u52,(.tuple #[.int .i64 S.1,.agg (viwC S.2.1.1 (.slice A9 S.2.1.2.length c9)).toArray,.agg (prC S.2.2).toArray]),u53,u54,(.agg (prC S.2.2).toArray),u10,u11,u9,p46,A48,c48,p50,A51,c51,g10,g11,A9,c9,by simp only [puts,Act.put,List.setIfInBounds_toArray,List.set_cons_zero,List.set_cons_succ],hJ.more (by decide),fun LP=>v0 (or_of (by decide) LP),fun LP=>v2 (or_of (by decide) LP),fun LP=>v4 (or_of (by decide) LP),fun LP=>v7 (or_of (by decide) LP),fun LP=>v8 (or_of (by decide) LP),fun LP=>v9 (or_of (by decide) LP),fun LP=>v10 (or_of (by decide) LP),fun _=>rfl,fun LP=>v14 (or_of (by decide) LP)⟩
   ·intro L a' w' hLi hw hJ0 K hK
    obtain ⟨u45,u46,u47,u48,u49,u50,u51,u52,u44,u53,u54,u55,u10,u11,u9,p46,A48,c48,p50,A51,c51,g10,g11,A9,c9,ha,hJ,v0,v2,v4,v7,v8,v9,v10,v11,v14⟩:=hJ0
    simp only [puts,Act.put,List.setIfInBounds_toArray,List.set_cons_zero,List.set_cons_succ] at ha
    subst ha
    unfold Oper.wp execOp
    go_simp
    have hbz:=below_new (below_self w') (.cells (viwC 0 (.slice none 0 0)).toArray 47)
    have hm:=hJ.on hbz
    exact hK.out _ _ ⟨u45,u46,u47,u48,u49,u50,u51,u52,u44,u53,u54,u55,(.pointer (some ⟨w'.heap.size,0,none⟩)),u11,u9,p46,A48,c48,p50,A51,c51,w'.heap.size,g11,A9,c9,by simp only [puts,Act.put,List.setIfInBounds_toArray,List.set_cons_zero,List.set_cons_succ],{hb:=hm.hb,f1:=fun LP=>hm.f1 (or_of (by decide) LP),r1:=fun LP N3=>hm.r1 (or_of (by decide) LP) (fun q=>N3 (.inr q)),f3:=fun LP=>hm.f3 (or_of (by decide) LP),r3:=fun LP N6=>hm.r3 (or_of (by decide) LP) (fun q=>N6 (.inr q)),f5:=fun LP=>hm.f5 (or_of (by decide) LP),r5:=fun LP N6=>hm.r5 (or_of (by decide) LP) (fun q=>N6 (.inr q)),l5:=fun LP=>hm.l5 (or_of (by decide) LP),d3:=fun LP N6 L5=>hm.d3 (or_of (by decide) LP) (fun q=>N6 (.inr q)) (or_of (by decide) L5),d1:=fun LP N3 L5=>hm.d1 (or_of (by decide) LP) (fun q=>N3 (.inr q)) (or_of (by decide) L5),f6:=fun LP=>hm.f6 (or_of (by decide) LP),r6:=fun LP N7=>hm.r6 (or_of (by decide) LP) (fun q=>N7 (.inr q)),f12:=fun _=>rfl,b12:=fun _=>hJ.hb.size,r12:=fun _ _=>RowL.new w' 47 (viwC 0 (.slice none 0 0)),f13:=fun LP=>hm.f13 (or_of (by decide) LP),b13:=fun LP=>hm.b13 (or_of (by decide) LP),r13:=fun LP N16=>hm.r13 (or_of (by decide) LP) (fun q=>N16 (.inr q)),o8:=fun LP=>.inr (hm.o8 (or_of (by decide) LP)),o10:=fun LP=>.inr (hm.o10 (or_of (by decide) LP)),o15:=fun LP=>.inr (hm.o15 (or_of (by decide) LP)),p15:=fun _=>.inl rfl,r15:=fun LP=>absurd (hJ.p15 (or_of (by decide) LP)) hLi,p16:=fun LP=>.inr (hm.p16 (or_of (by decide) LP)),r16:=fun LP=>hm.r16 (or_of (by decide) LP)},fun LP=>v0 (or_of (by decide) LP),fun LP=>v2 (or_of (by decide) LP),fun LP=>v4 (or_of (by decide) LP),fun LP=>v7 (or_of (by decide) LP),fun LP=>v8 (or_of (by decide) LP),fun LP=>v9 (or_of (by decide) LP),fun LP=>v10 (or_of (by decide) LP),fun LP=>v11 (or_of (by decide) LP),fun LP=>v14 (or_of (by decide) LP)⟩
   ·intro L a' w' hLi hw hJ0 K hK
    obtain ⟨u45,u46,u47,u48,u49,u50,u51,u52,u44,u53,u54,u55,u10,u11,u9,p46,A48,c48,p50,A51,c51,g10,g11,A9,c9,ha,hJ,v0,v2,v4,v7,v8,v9,v10,v11,v14⟩:=hJ0
    simp only [puts,Act.put,List.setIfInBounds_toArray,List.set_cons_zero,List.set_cons_succ] at ha
    subst ha
    unfold Oper.wp execOp
    go_simp
    have hbz:=below_new (below_self w') (.cells (prC (0,0)).toArray 49)
    have hm:=hJ.on hbz
    exact hK.out _ _ ⟨u45,u46,u47,u48,u49,u50,u51,u52,u44,u53,u54,u55,u10,(.pointer (some ⟨w'.heap.size,0,none⟩)),u9,p46,A48,c48,p50,A51,c51,g10,w'.heap.size,A9,c9,by simp only [puts,Act.put,List.setIfInBounds_toArray,List.set_cons_zero,List.set_cons_succ],{hb:=hm.hb,f1:=fun LP=>hm.f1 (or_of (by decide) LP),r1:=fun LP N3=>hm.r1 (or_of (by decide) LP) (fun q=>N3 (.inr q)),f3:=fun LP=>hm.f3 (or_of (by decide) LP),r3:=fun LP N6=>hm.r3 (or_of (by decide) LP) (fun q=>N6 (.inr q)),f5:=fun LP=>hm.f5 (or_of (by decide) LP),r5:=fun LP N6=>hm.r5 (or_of (by decide) LP) (fun q=>N6 (.inr q)),l5:=fun LP=>hm.l5 (or_of (by decide) LP),d3:=fun LP N6 L5=>hm.d3 (or_of (by decide) LP) (fun q=>N6 (.inr q)) (or_of (by decide) L5),d1:=fun LP N3 L5=>hm.d1 (or_of (by decide) LP) (fun q=>N3 (.inr q)) (or_of (by decide) L5),f6:=fun LP=>hm.f6 (or_of (by decide) LP),r6:=fun LP N7=>hm.r6 (or_of (by decide) LP) (fun q=>N7 (.inr q)),f12:=fun LP=>hm.f12 (or_of (by decide) LP),b12:=fun LP=>hm.b12 (or_of (by decide) LP),r12:=fun LP N15=>hm.r12 (or_of (by decide) LP) (fun q=>N15 (.inr q)),f13:=fun _=>rfl,b13:=fun _=>hJ.hb.size,r13:=fun _ _=>RowL.new w' 49 (prC (0,0)),o8:=fun LP=>.inr (hm.o8 (or_of (by decide) LP)),o10:=fun LP=>.inr (hm.o10 (or_of (by decide) LP)),o15:=fun LP=>.inr (hm.o15 (or_of (by decide) LP)),p15:=fun LP=>.inr (hm.p15 (or_of (by decide) LP)),r15:=fun LP=>hm.r15 (or_of (by decide) LP),p16:=fun _=>.inl rfl,r16:=fun LP=>absurd (hJ.p16 (or_of (by decide) LP)) hLi},fun LP=>v0 (or_of (by decide) LP),fun LP=>v2 (or_of (by decide) LP),fun LP=>v4 (or_of (by decide) LP),fun LP=>v7 (or_of (by decide) LP),fun LP=>v8 (or_of (by decide) LP),fun LP=>v9 (or_of (by decide) LP),fun LP=>v10 (or_of (by decide) LP),fun LP=>v11 (or_of (by decide) LP),fun LP=>v14 (or_of (by decide) LP)⟩
   ·intro L a' w' hLi hw hJ0 K hK
    obtain ⟨u45,u46,u47,u48,u49,u50,u51,u52,u44,u53,u54,u55,u10,u11,u9,p46,A48,c48,p50,A51,c51,g10,g11,A9,c9,ha,hJ,v0,v2,v4,v7,v8,v9,v10,v11,v14⟩:=hJ0
    simp only [puts,Act.put,List.setIfInBounds_toArray,List.set_cons_zero,List.set_cons_succ] at ha
    subst ha
    have h9:L 9:=hw 9 (by decide)
    obtain rfl:=v9 h9
    unfold Oper.wp execOp
    go_simp
    exact hK.out _ _ ⟨u45,u46,u47,u48,u49,u50,u51,u52,u44,(.int .i64 S.1),u54,u55,u10,u11,(.int .i64 S.1),p46,A48,c48,p50,A51,c51,g10,g11,A9,c9,by simp only [puts,Act.put,List.setIfInBounds_toArray,List.set_cons_zero,List.set_cons_succ],hJ.more (by decide),fun LP=>v0 (or_of (by decide) LP),fun LP=>v2 (or_of (by decide) LP),fun LP=>v4 (or_of (by decide) LP),fun LP=>v7 (or_of (by decide) LP),fun LP=>v8 (or_of (by decide) LP),fun LP=>v9 (or_of (by decide) LP),fun LP=>v10 (or_of (by decide) LP),fun LP=>v11 (or_of (by decide) LP),fun _=>rfl⟩
   ·intro L a' w' hLi hw hJ0 K hK
    obtain ⟨u45,u46,u47,u48,u49,u50,u51,u52,u44,u53,u54,u55,u10,u11,u9,p46,A48,c48,p50,A51,c51,g10,g11,A9,c9,ha,hJ,v0,v2,v4,v7,v8,v9,v10,v11,v14⟩:=hJ0
    simp only [puts,Act.put,List.setIfInBounds_toArray,List.set_cons_zero,List.set_cons_succ] at ha
    subst ha
    have h12:L 12:=hw 12 (by decide)
    have h10:L 10:=hw 10 (by decide)
    have h3:L 3:=hw 3 (by decide)
    have h6:L 6:=hw 6 (by decide)
    have h7:L 7:=hw 7 (by decide)
    obtain rfl:=hJ.f12 h12
    obtain rfl:=v10 h10
    have hrz:=hJ.r12 h12 hLi
    have hbg:=hJ.b12 h12
    refine wp_storeC 47 (.tmp 10) (.tmp 54) rfl 2 viw_size g10 0 47 rfl (viwC 0 (.slice none 0 0)) (viwC S.2.1.1 (.slice A9 S.2.1.2.length c9)) rfl hrz rfl (by exact Nat.le_refl _) (viwC_one _ _ _ _) ?_
    intro w'' hr hg hs
    rw [splice_all (viwC 0 (.slice none 0 0)) (viwC S.2.1.1 (.slice A9 S.2.1.2.length c9)) rfl] at hr
    simp only [Act.put]
    exact hK.out _ _ ⟨u45,u46,u47,u48,u49,u50,u51,u52,u44,u53,(.agg (viwC S.2.1.1 (.slice A9 S.2.1.2.length c9)).toArray),u55,(.pointer (some ⟨g10,0,none⟩)),u11,u9,p46,A48,c48,p50,A51,c51,g10,g11,A9,c9,by simp only [puts,Act.put,List.setIfInBounds_toArray,List.set_cons_zero,List.set_cons_succ],{hb:=hJ.hb.grown hg hJ.hb.size (pu4 (by omega)),f1:=fun LP=>hJ.f1 (or_of (by decide) LP),r1:=fun LP N3=>absurd (.inr h3) N3,f3:=fun LP=>hJ.f3 (or_of (by decide) LP),r3:=fun LP N6=>absurd (.inr h6) N6,f5:=fun LP=>hJ.f5 (or_of (by decide) LP),r5:=fun LP N6=>absurd (.inr h6) N6,l5:=fun LP=>Nat.lt_of_lt_of_le (hJ.l5 (or_of (by decide) LP)) hg.size,d3:=fun LP N6=>absurd (.inr h6) N6,d1:=fun LP N3=>absurd (.inr h3) N3,f6:=fun LP=>hJ.f6 (or_of (by decide) LP),r6:=fun LP N7=>absurd (.inr h7) N7,f12:=fun LP=>hJ.f12 (or_of (by decide) LP),b12:=fun LP=>hJ.b12 (or_of (by decide) LP),r12:=fun LP N15=>absurd (.inl rfl) N15,f13:=fun LP=>hJ.f13 (or_of (by decide) LP),b13:=fun LP=>hJ.b13 (or_of (by decide) LP),r13:=fun LP N16=>(hJ.r13 (or_of (by decide) LP) (fun q=>N16 (.inr q))).grown hg (fun e=>rowl_ne (hJ.r13 (or_of (by decide) LP) (fun q=>N16 (.inr q))) hrz (by decide) (Option.some.inj e)),o8:=fun LP=>.inr (hJ.o8 (or_of (by decide) LP)),o10:=fun LP=>.inr (hJ.o10 (or_of (by decide) LP)),o15:=fun _=>.inr h7,p15:=fun _=>.inr h12,r15:=fun _=>hr,p16:=fun LP=>.inr (hJ.p16 (or_of (by decide) LP)),r16:=fun LP=>(hJ.r16 (or_of (by decide) LP)).grown hg (fun e=>rowl_ne (hJ.r16 (or_of (by decide) LP)) hrz (by decide) (Option.some.inj e))},fun LP=>v0 (or_of (by decide) LP),fun LP=>v2 (or_of (by decide) LP),fun LP=>v4 (or_of (by decide) LP),fun LP=>v7 (or_of (by decide) LP),fun LP=>v8 (or_of (by decide) LP),fun LP=>v9 (or_of (by decide) LP),fun LP=>v10 (or_of (by decide) LP),fun LP=>v11 (or_of (by decide) LP),fun LP=>v14 (or_of (by decide) LP)⟩
   ·intro L a' w' hLi hw hJ0 K hK
    obtain ⟨u45,u46,u47,u48,u49,u50,u51,u52,u44,u53,u54,u55,u10,u11,u9,p46,A48,c48,p50,A51,c51,g10,g11,A9,c9,ha,hJ,v0,v2,v4,v7,v8,v9,v10,v11,v14⟩:=hJ0
    simp only [puts,Act.put,List.setIfInBounds_toArray,List.set_cons_zero,List.set_cons_succ] at ha
    subst ha
    have h13:L 13:=hw 13 (by decide)
    have h11:L 11:=hw 11 (by decide)
    have h3:L 3:=hw 3 (by decide)
    have h6:L 6:=hw 6 (by decide)
    have h7:L 7:=hw 7 (by decide)
    have h15:L 15:=hw 15 (by decide)
    obtain rfl:=hJ.f13 h13
    obtain rfl:=v11 h11
    have hrz:=hJ.r13 h13 hLi
    have hbg:=hJ.b13 h13
    refine wp_storeC 49 (.tmp 11) (.tmp 55) rfl 2 plc_size g11 0 49 rfl (prC (0,0)) (prC S.2.2) rfl hrz rfl (by exact Nat.le_refl _) (prC_one _) ?_
    intro w'' hr hg hs
    rw [splice_all (prC (0,0)) (prC S.2.2) rfl] at hr
    simp only [Act.put]
    exact hK.out _ _ ⟨u45,u46,u47,u48,u49,u50,u51,u52,u44,u53,u54,(.agg (prC S.2.2).toArray),u10,(.pointer (some ⟨g11,0,none⟩)),u9,p46,A48,c48,p50,A51,c51,g10,g11,A9,c9,by simp only [puts,Act.put,List.setIfInBounds_toArray,List.set_cons_zero,List.set_cons_succ],{hb:=hJ.hb.grown hg hJ.hb.size (pu4 (by omega)),f1:=fun LP=>hJ.f1 (or_of (by decide) LP),r1:=fun LP N3=>absurd (.inr h3) N3,f3:=fun LP=>hJ.f3 (or_of (by decide) LP),r3:=fun LP N6=>absurd (.inr h6) N6,f5:=fun LP=>hJ.f5 (or_of (by decide) LP),r5:=fun LP N6=>absurd (.inr h6) N6,l5:=fun LP=>Nat.lt_of_lt_of_le (hJ.l5 (or_of (by decide) LP)) hg.size,d3:=fun LP N6=>absurd (.inr h6) N6,d1:=fun LP N3=>absurd (.inr h3) N3,f6:=fun LP=>hJ.f6 (or_of (by decide) LP),r6:=fun LP N7=>absurd (.inr h7) N7,f12:=fun LP=>hJ.f12 (or_of (by decide) LP),b12:=fun LP=>hJ.b12 (or_of (by decide) LP),r12:=fun LP N15=>absurd (.inr h15) N15,f13:=fun LP=>hJ.f13 (or_of (by decide) LP),b13:=fun LP=>hJ.b13 (or_of (by decide) LP),r13:=fun LP N16=>absurd (.inl rfl) N16,o8:=fun LP=>.inr (hJ.o8 (or_of (by decide) LP)),o10:=fun LP=>.inr (hJ.o10 (or_of (by decide) LP)),o15:=fun LP=>.inr (hJ.o15 (or_of (by decide) LP)),p15:=fun LP=>.inr (hJ.p15 (or_of (by decide) LP)),r15:=fun LP=>(hJ.r15 (or_of (by decide) LP)).grown hg (fun e=>rowl_ne (hJ.r15 (or_of (by decide) LP)) hrz (by decide) (Option.some.inj e)),p16:=fun _=>.inr h13,r16:=fun _=>hr},fun LP=>v0 (or_of (by decide) LP),fun LP=>v2 (or_of (by decide) LP),fun LP=>v4 (or_of (by decide) LP),fun LP=>v7 (or_of (by decide) LP),fun LP=>v8 (or_of (by decide) LP),fun LP=>v9 (or_of (by decide) LP),fun LP=>v10 (or_of (by decide) LP),fun LP=>v11 (or_of (by decide) LP),fun LP=>v14 (or_of (by decide) LP)⟩
  ·intro L a' w' hall hJ0
   obtain ⟨u45,u46,u47,u48,u49,u50,u51,u52,u44,u53,u54,u55,u10,u11,u9,p46,A48,c48,p50,A51,c51,g10,g11,A9,c9,ha,hJ,v0,v2,v4,v7,v8,v9,v10,v11,v14⟩:=hJ0
   simp only [puts,Act.put,List.setIfInBounds_toArray,List.set_cons_zero,List.set_cons_succ] at ha
   subst ha
   have hall':∀k,k < 17→L k:=hall
   obtain rfl:=v14 (hall' 14 (by omega))
   obtain rfl:=hJ.f12 (hall' 12 (by omega))
   obtain rfl:=hJ.f13 (hall' 13 (by omega))
   have hr15:=hJ.r15 (hall' 15 (by omega))
   have hb12:=hJ.b12 (hall' 12 (by omega))
   have hbJ:=hJ.hb
   go_wp2_with fail
   go_meet
   case rel=>exact ⟨g10,g11,A9,c9,rfl,rfl,rfl,hb12,hr15,hbJ⟩
 case rest =>
 obtain ⟨g10,g11,A9,c9,rfl,rfl,rfl,hg10,hr10,hbx⟩:=hcut
 have hbxs:=hbx.size
 replace HB:=hide (HB.out.trans (hbx.mono HB.out.size))
 replace R3:=hide (R3.out.on hbx)
 replace HU:=hide (HU.out.under hbx (by omega))
 replace HL:=hide (HL.out.under hbx (by omega))
 replace HN:=hide (HN.out.under hbx (by omega))
 have R10:=hide hr10
 have hg10l:=hr10.lt
 clear hbx hr10
 rename World=>wx
 have q10_0:wx.cell? ⟨g10,0,none⟩=some (.int .i64 S.2.1.1):=R10.out.cell 0
 by_cases hr1:R.1=1
 rotate_left
 ·have e1:(R.1 != 1)=true:=by simpa using hr1
  have hs0:S=noStep:=by have:=HSR.out;unfold goM at this;rw [if_neg hr1] at this;exact this
  have e2:(S.1==0)=true:=by rw [hs0];rfl
  have e3:(S.2.1.1==0)=true:=by rw [hs0];rfl
  clear hs0
  go_wp2_with (first|(refine wpList_loadW rfl 29 (.tmp 3) rfl 6 stk_agg stk_size (w.heap.size) 29 rfl (stkC g (.slice AU nU cU) (.slice AL nL cL)) R3.out rfl ?_)|(go_at_call 21;refine (MAt_any HR.out wx HU.out HL.out (by omega) HF.out HFU.out (txt_rd HN.out) (by omega) (by omega)).mono ?_;rintro e101 wA ⟨A3,c3,rfl,h3,hbel⟩;replace h3:=fr_under h3;clear q10_0;replace HB:=hide (HB.out.trans (hbel.mono HB.out.size));replace R3:=hide (R3.out.on hbel);replace R10:=hide (R10.out.on hbel);replace HU:=hide (HU.out.under hbel (by omega));replace HL:=hide (HL.out.under hbel (by omega));replace HN:=hide (HN.out.under hbel (by omega));have hsz102:=hbel.size;have q10_0:wA.cell? ⟨g10,0,none⟩=some (.int .i64 S.2.1.1):=R10.out.cell 0;have H3:=hide h3;clear h3;clear hbel)|(obtain ⟨hz13,hz14,hzb,hzs⟩:=rows2 wA (viwC 0 (.slice none 0 0)) (prC (0,0)) 47 49;refine wpList_storeW rfl 47 (.tmp 13) (.tmp 61) rfl 2 viw_size (wA.heap.size) 47 rfl (viwC 0 (.slice none 0 0)) (viwC R.2.1.1 (.slice A3 R.2.1.2.length c3)) rfl hz13 rfl rfl (viwC_one _ _ _ _) ?_;intro wS103 hr103 hg103 hs103;replace hzb:=hzb.grown hg103 hzb.size (pu4 (by omega));replace hz14:=hz14.grown hg103 (pu5 (by omega));have hz13:=hr103;clear hg103 hs103 hr103)|(refine wpList_storeW rfl 49 (.tmp 14) (.tmp 62) rfl 2 plc_size (wA.heap.size+1) 49 rfl (prC (0,0)) (prC R.2.2) rfl hz14 rfl rfl (prC_one _) ?_;intro wS104 hr104 hg104 hs104;replace hzb:=hzb.grown hg104 hzb.size (pu4 (by omega));replace hz13:=hz13.grown hg104 (pu5 (by omega));have hz14:=hr104;clear q10_0;replace HB:=hide (HB.out.trans (hzb.mono HB.out.size));replace R3:=hide (R3.out.on hzb);replace R10:=hide (R10.out.on hzb);replace HU:=hide (HU.out.under hzb (by omega));replace HL:=hide (HL.out.under hzb (by omega));replace HN:=hide (HN.out.under hzb (by omega));replace H3:=hide (H3.out.under hzb (by omega));have hsz105:=hzb.size;have q10_0:wS104.cell? ⟨g10,0,none⟩=some (.int .i64 S.2.1.1):=R10.out.cell 0;have R13:=hide hz13;have hlt103:=hz13.lt;have R14:=hide hz14;have hlt104:=hz14.lt;clear hzb hzs hz13 hz14;clear hg104 hs104)|(go_at_call 20;refine (awake18_any _).mono ?_;rintro e98 wz ⟨rfl,hbz⟩;replace HB:=hide (HB.out.trans (hbz.mono HB.out.size));clear hbz))
  go_ret
  exact LawOk.of HB.out
 have e1:(R.1 != 1)=false:=by simpa using hr1
 obtain ⟨NL,hNL⟩:∃NL,namesV up ls R.2.1=NL:=⟨_,rfl⟩
 have HNV:=hide (show namesV up ls (R.2.1.1,R.2.1.2)=NL from hNL)
 have HSM:=hide (show decide (last∈NL)=(S.1 != 0) from by
  have h1:=shown_mem (up:=up) (ls:=ls) (u:=R.2.1.1) (vl:=R.2.1.2) (nm:=last)
  rw [HNV.out] at h1
  rw [h1,HSR.out]
  unfold goM
  rw [if_pos hr1])
 have hNL1:NL.length≤1000:=by rw [←hNL,←HR.out];exact names_few HF.out HFU.out (at_few up ls names)
 clear hNL
 go_wp2_with (first|(refine wpList_loadW rfl 29 (.tmp 3) rfl 6 stk_agg stk_size (w.heap.size) 29 rfl (stkC g (.slice AU nU cU) (.slice AL nL cL)) R3.out rfl ?_)|(go_at_call 21;refine (MAt_any HR.out wx HU.out HL.out (by omega) HF.out HFU.out (txt_rd HN.out) (by omega) (by omega)).mono ?_;rintro e101 wA ⟨A3,c3,rfl,h3,hbel⟩;replace h3:=fr_under h3;clear q10_0;replace HB:=hide (HB.out.trans (hbel.mono HB.out.size));replace R3:=hide (R3.out.on hbel);replace R10:=hide (R10.out.on hbel);replace HU:=hide (HU.out.under hbel (by omega));replace HL:=hide (HL.out.under hbel (by omega));replace HN:=hide (HN.out.under hbel (by omega));have hsz102:=hbel.size;have q10_0:wA.cell? ⟨g10,0,none⟩=some (.int .i64 S.2.1.1):=R10.out.cell 0;have H3:=hide h3;clear h3;clear hbel)|(obtain ⟨hz13,hz14,hzb,hzs⟩:=rows2 wA (viwC 0 (.slice none 0 0)) (prC (0,0)) 47 49;refine wpList_storeW rfl 47 (.tmp 13) (.tmp 61) rfl 2 viw_size (wA.heap.size) 47 rfl (viwC 0 (.slice none 0 0)) (viwC R.2.1.1 (.slice A3 R.2.1.2.length c3)) rfl hz13 rfl rfl (viwC_one _ _ _ _) ?_;intro wS103 hr103 hg103 hs103;replace hzb:=hzb.grown hg103 hzb.size (pu4 (by omega));replace hz14:=hz14.grown hg103 (pu5 (by omega));have hz13:=hr103;clear hg103 hs103 hr103)|(refine wpList_storeW rfl 49 (.tmp 14) (.tmp 62) rfl 2 plc_size (wA.heap.size+1) 49 rfl (prC (0,0)) (prC R.2.2) rfl hz14 rfl rfl (prC_one _) ?_;intro wS104 hr104 hg104 hs104;replace hzb:=hzb.grown hg104 hzb.size (pu4 (by omega));replace hz13:=hz13.grown hg104 (pu5 (by omega));have hz14:=hr104;clear q10_0;replace HB:=hide (HB.out.trans (hzb.mono HB.out.size));replace R3:=hide (R3.out.on hzb);replace R10:=hide (R10.out.on hzb);replace HU:=hide (HU.out.under hzb (by omega));replace HL:=hide (HL.out.under hzb (by omega));replace HN:=hide (HN.out.under hzb (by omega));replace H3:=hide (H3.out.under hzb (by omega));have hsz105:=hzb.size;have q10_0:wS104.cell? ⟨g10,0,none⟩=some (.int .i64 S.2.1.1):=R10.out.cell 0;have R13:=hide hz13;have hlt103:=hz13.lt;have R14:=hide hz14;have hlt104:=hz14.lt;clear hzb hzs hz13 hz14;clear hg104 hs104)|(refine wpList_loadW rfl 29 (.tmp 3) rfl 6 stk_agg stk_size (w.heap.size) 29 rfl (stkC g (.slice AU nU cU) (.slice AL nL cL)) R3.out rfl ?_)|(refine wpList_loadW rfl 47 (.tmp 13) rfl 2 viw_agg viw_size (wA.heap.size) 47 rfl (viwC R.2.1.1 (.slice A3 R.2.1.2.length c3)) R13.out rfl ?_)|(go_at_call 19;refine (VNames_e (u:=R.2.1.1) (cV:=c3) HNV.out wS104 HU.out HL.out (by omega) HF.out HFU.out H3.out (by omega) (by omega)).mono ?_;rintro e106 wN ⟨A6,n6,c6,rfl,h6,hbel⟩;clear q10_0;replace HB:=hide (HB.out.trans (hbel.mono HB.out.size));replace R3:=hide (R3.out.on hbel);replace R10:=hide (R10.out.on hbel);replace HU:=hide (HU.out.under hbel (by omega));replace HL:=hide (HL.out.under hbel (by omega));replace HN:=hide (HN.out.under hbel (by omega));replace H3:=hide (H3.out.under hbel (by omega));replace R13:=hide (R13.out.on hbel);replace R14:=hide (R14.out.on hbel);have hsz107:=hbel.size;have q10_0:wN.cell? ⟨g10,0,none⟩=some (.int .i64 S.2.1.1):=R10.out.cell 0;have HOX:=hide h6;clear h6;clear hbel))
 have hNn:NL.length=n6:=HOX.out.rd.len
 have HX:=hide HOX.out.rd
 have hn6:n6≤1000:=by omega
 clear q10_0
 go_loopw [15,79] (fun v15 v79 wz=>∃j:Nat,j≤n6∧v79=.int .i64 j∧v15=.bool (decide (last∈NL.take j))∧Below wN.heap.size wN wz) (fun _ v79 _=>n6 - (intOf v79).toNat)
 case atStart=>exact ⟨0,by omega,rfl,by simp,below_self _⟩
 case round =>
  obtain ⟨j,hj,rfl,rfl,hbr⟩:=hrel
  have HBR:=hide hbr
  by_cases hlt:j < n6
  ·obtain ⟨x,hx⟩:∃x,NL[j]?=some x:=⟨_,List.getElem?_eq_getElem (by omega)⟩
   obtain ⟨bS,oS,hA6,hbS,hcS⟩:=HX.out.2 (by omega)
   have qx:wr.cell? ⟨bS,oS+j,none⟩=some (.string ⟨x.toArray⟩):=(hbr.cell (p:=⟨bS,oS+j,none⟩) hbS).trans (hcS j x hx)
   subst hA6
   have hjn:(j:Int) < (n6:Int):=by omega
   obtain ⟨b,hb⟩:∃b,decide (last∈NL.take j)=b:=⟨_,rfl⟩
   have HT:=hide (show decide (last∈NL.take (j+1))=(b||x==last) from by
    rw [←hb,List.take_add_one,hx,Option.toList_some,Bool.eq_iff_iff,Bool.or_eq_true,decide_eq_true_eq,decide_eq_true_eq,beq_iff_eq,List.mem_append,List.mem_singleton]
    exact or_congr Iff.rfl eq_comm)
   rw [hb]
   clear hx hcS hb hbr
   cases b with
   | true =>
    go_wp2_with fail
    go_roundw
    case rel=>exact ⟨j+1,by omega,by go_num,by rw [HT.out];rfl,HBR.out⟩
    case measure=>simp [intOf];omega
   | false =>
    by_cases hxl:x=last
    ·have e5:(x==last)=true:=by simpa using hxl
     subst hxl
     go_wp2_with fail
     go_roundw
     case rel=>exact ⟨j+1,by omega,by go_num,by rw [HT.out];simp,HBR.out⟩
     case measure=>simp [intOf];omega
    ·have e5:(x==last)=false:=by simpa using hxl
     go_wp2_with fail
     go_roundw
     case rel=>exact ⟨j+1,by omega,by go_num,by rw [HT.out,e5];rfl,HBR.out⟩
     case measure=>simp [intOf];omega
  ·obtain rfl:n6=j:=by omega
   have hnlt:¬((n6:Int) < (n6:Int)):=by omega
   have hsm:=HSM.out
   rw [List.take_of_length_le (l:=NL) (by omega),hsm]
   have e4:((S.1 != 0)==(S.1 != 0))=true:=by simp
   replace HB:=hide (HB.out.trans (HBR.out.mono HB.out.size))
   clear hsm hbr
   go_wp2_with (go_at_call 20;refine (awake18_any _).mono ?_;rintro e98 wz ⟨rfl,hbz⟩;replace HB:=hide (HB.out.trans (hbz.mono HB.out.size));clear hbz)
   go_ret
   exact LawOk.of HB.out
end Go.Proofs.YthdoimgbbabcaaaGreat

