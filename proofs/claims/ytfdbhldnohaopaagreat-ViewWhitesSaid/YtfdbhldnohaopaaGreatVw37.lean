import Derived.Test.YtfdbhldnohaopaaGreatVw31
import Derived.Test.YtfdbhldnohaopaaGreatVw35
import Derived.Test.YtfdbhldnohaopaaGreatVw36

namespace Go.Proofs.YtfdbhldnohaopaaGreat
open Go.RowKit Go.Shelf Plain

theorem nods_size:∀w,(Go.sizeOf 24).run Tryz.prog w=.ok 1 w:=fun w=>by kernel_rfl
theorem white_R (w:World) (D:Nat→Prop):nodEn.R w D (nodC whiteN (.slice none 0 0) (.slice none 0 0)) whiteN:=⟨none,0,0,none,0,0,rfl,Nat.le_refl _,RdE.none_ _ _ _ _,Nat.le_refl _,RdE.none_ _ _ _ _⟩
theorem names_fewX {up:List NodV} {ls:List (List NodV)} {v:ViewV} (hF:FewL ls) (hup:FewX up) (h:v.2.length≤1000):(namesV up ls v).length≤100000:=by
 refine Nat.le_trans (List.length_filter_le _ _) (Nat.le_trans (sortS_length _) ?_)
 unfold allV
 rw [List.length_append,List.length_map]
 have h1:(namesL ls v.2).length≤16*v.2.length:=Nat.le_trans (List.length_filter_le _ _) (Nat.le_trans (sortS_length _) (allN_len hF v.2))
 have h2:=entB_lenX hup.2 v.1
 omega
theorem rootV_few (up:List NodV) {ls:List (List NodV)} (hF:FewL ls):(rootV up ls).2.length≤1000:=by
 have h1:=rootsL_len ls 0
 have h2:=hF.1
 show (if opqD (nodAt up 1)=true then [] else rootsL ls 0).length≤1000
 split
 ·simp
 ·omega
theorem rowl_neV {w:World} {g g' t t':Nat} {cs cs':List Value} (h:RowL w g t cs) (h':RowL w g' t' cs') (ht:t≠t'):g≠g':=by
 rintro rfl
 have:=Option.some.inj ((show w.heap[g]?=_ from h).symm.trans h')
 injection this with _ h2 _
 exact ht h2
theorem eq_plcV (a b:Int) (W:World):(binOp .eql 49 (.agg #[.int .i64 a,.int .i64 b]) (.agg #[.int .i64 a,.int .i64 b])).run Tryz.prog W=.ok (.bool true) W:=by
 simp [go_sem]
theorem OwE.one_ent (e:EntV) (w:World) (T:Nat):OwE entEn (w.alloc (.cells #[.int .i64 e.slot,.int .i64 e.ino,.string ⟨e.name.toArray⟩] T)) w.heap.size T (some ⟨w.heap.size,0,none⟩) 1 1 [e] :=
 ⟨[cellsE e],World.ownsRow_lit w #[.int .i64 e.slot,.int .i64 e.ino,.string ⟨e.name.toArray⟩] 1 (Nat.le_refl _) (by simp [maxLen]) rfl,⟨rfl,fun i cs x h1 h2=>by
  have hi:i=0:=by have:=(List.getElem?_eq_some_iff.1 h1).1;simpa using this
  subst hi
  obtain rfl:cellsE e=cs:=by simpa using h1
  obtain rfl:e=x:=by simpa using h2
  exact ent_R e _ _⟩,rfl⟩
theorem OwE.entB {w:World} {base n c:Nat} {A:Option Addr} {l:List EntV} {T:Nat} (h:OwE entEn w base T A n c l):RdE entEn w (fun b=>base≤b∧b < w.heap.size) A n l:=by
 have h1:=(h.rd rfl).plain
 refine ⟨h1.1,fun hn=>?_⟩
 obtain ⟨b,o,e,hb,hc⟩:=h1.2 hn
 exact ⟨b,o,e,⟨h.baseP _ e,hb⟩,fun i x hx=>by obtain ⟨cs,hR,hcs⟩:=hc i x hx;exact ⟨cs,ent_any hR,hcs⟩⟩
set_option maxRecDepth 100000 in
set_option maxHeartbeats 8000000 in
theorem law_ViewWhites {g:GeoQ} {AU AL:Option Addr} {nU cU nL cL:Nat} {up:List NodV} {ls:List (List NodV)} {nm ot:List UInt8} (w:World) (hu:RdE nodEn w (Under w.heap.size) AU nU up) (h:RdE layEn w (Under w.heap.size) AL nL ls) (hfu:FineN up) (hfl:∀ns∈ls,FineN ns) :
  Calls Tryz.prog 3 #[.agg (stkC g (.slice AU nU cU) (.slice AL nL cL)).toArray,.string ⟨nm.toArray⟩,.string ⟨ot.toArray⟩] w (LawOk w):=by
 obtain ⟨W1,hW1⟩:∃W1,(w.alloc (.cells (stkC g (.slice AU nU cU) (.slice AL nL cL)).toArray 29))=W1:=⟨_,rfl⟩
 obtain ⟨r0,hb1,hs1⟩:=rowA1 w _ _ hW1
 have hW1':(w.alloc (.cells #[.int .i64 g.a,.int .i64 g.b,.int .i64 g.c,.int .i64 g.d,.slice AU nU cU,.slice AL nL cL] 29))=W1:=hW1
 have R3:=hide r0
 have HB:=hide hb1
 have hsz0:=hb1.size
 have HU:=hide (hu.under hb1 (Nat.le_refl _))
 have HL:=hide (h.under hb1 (Nat.le_refl _))
 have HFN:=hide hfu
 have HFL:=hide hfl
 have q3_4:W1.cell? ⟨w.heap.size,4,none⟩=some (.slice AU nU cU):=R3.out.cell 4
 unfold stkC
 have hs1':w.heap.size+1≤W1.heap.size:=by omega
 clear r0 hb1 hW1 hu h hfu hfl hs1
 go_enter Tryz.func3,Tryz.ntmps3
 go_wp2_with (first|(refine wpList_loadW rfl 29 (.tmp 3) rfl 6 stk_agg stk_size (w.heap.size) 29 rfl (stkC g (.slice AU nU cU) (.slice AL nL cL)) R3.out rfl ?_))
 clear hW1'
 refine (PStackM_any (by omega) W1 (und_up HU.out (by omega)) (und_up HL.out (by omega)) HFN.out HFL.out).mono ?_
 rintro e w2 ⟨p,rfl,hb2,hq⟩
 have HQ:=hide hq
 clear q3_4
 replace HB:=hide (HB.out.trans (hb2.mono HB.out.size))
 replace R3:=hide (R3.out.on hb2)
 replace HU:=hide (HU.out.under hb2 (by omega))
 replace HL:=hide (HL.out.under hb2 (by omega))
 have hsz1:=hb2.size
 have q3_4:w2.cell? ⟨w.heap.size,4,none⟩=some (.slice AU nU cU):=R3.out.cell 4
 clear hq hb2
 cases p
 ·go_wp2_with (go_at_call 11;refine (awake17_any _).mono ?_;rintro e98 wz ⟨rfl,hbz⟩;replace HB:=hide (HB.out.trans (hbz.mono HB.out.size));clear hbz)
  go_ret
  exact LawOk.of HB.out
 by_cases hk1:(40:Int) < (nm.length:Int)
 ·have dk1:decide ((40:Int) < (nm.length:Int))=true:=decide_eq_true hk1
  go_wp2_with (go_at_call 11;refine (awake17_any _).mono ?_;rintro e98 wz ⟨rfl,hbz⟩;replace HB:=hide (HB.out.trans (hbz.mono HB.out.size));clear hbz)
  go_ret
  exact LawOk.of HB.out
 have dk1:decide ((40:Int) < (nm.length:Int))=false:=decide_eq_false hk1
 by_cases hk2:(40:Int) < (ot.length:Int)
 ·have dk2:decide ((40:Int) < (ot.length:Int))=true:=decide_eq_true hk2
  go_wp2_with (go_at_call 11;refine (awake17_any _).mono ?_;rintro e98 wz ⟨rfl,hbz⟩;replace HB:=hide (HB.out.trans (hbz.mono HB.out.size));clear hbz)
  go_ret
  exact LawOk.of HB.out
 have dk2:decide ((40:Int) < (ot.length:Int))=false:=decide_eq_false hk2
 by_cases hne:nm=ot
 ·have dne:(nm==ot)=true:=by simpa using hne
  subst hne
  go_wp2_with (go_at_call 11;refine (awake17_any _).mono ?_;rintro e98 wz ⟨rfl,hbz⟩;replace HB:=hide (HB.out.trans (hbz.mono HB.out.size));clear hbz)
  go_ret
  exact LawOk.of HB.out
 have dne:(nm==ot)=false:=by simpa using hne
 by_cases h0:nU=0
 ·have d0:((nU:Int)==0)=true:=by simp [h0]
  go_wp2_with (go_at_call 11;refine (awake17_any _).mono ?_;rintro e98 wz ⟨rfl,hbz⟩;replace HB:=hide (HB.out.trans (hbz.mono HB.out.size));clear hbz)
  go_ret
  exact LawOk.of HB.out
 have d0:((nU:Int)==0)=false:=by simp;omega
 obtain ⟨hF,hfew⟩:=HQ.out (by first|rfl|trivial)
 have HF:=hide hF
 have HFEW:=hide hfew
 clear hF hfew HQ HFN HFL
 obtain ⟨bU,oU,hAU,hbU,hcU⟩:=HU.out.2 (by omega)
 obtain ⟨x0,hx0⟩:∃x,up[0]?=some x:=⟨_,List.getElem?_eq_getElem (by have:=HU.out.1;omega)⟩
 obtain ⟨cs0,⟨A0,n0,k0,C0,m0,d0c,rfl,hn0,hd0,hm0,he0⟩,hc0⟩:=hcU 0 x0 hx0
 subst hAU
 have qk:w2.cell? ⟨bU,oU,none⟩=some (.int .i64 x0.k):=by simpa using hc0 0 (.int .i64 x0.k) rfl
 have hN1:nodAt up 1=x0:=by
  have:=List.getElem?_eq_some_iff.1 hx0
  obtain ⟨h1,h2⟩:=this
  unfold nodAt
  rw [if_pos (by omega)]
  show (up[0]?).getD nod0=x0
  rw [hx0];rfl
 by_cases hd:x0.k=1
 rotate_left
 ·have dd:(x0.k != 1)=true:=by simpa using hd
  go_wp2_with (go_at_call 11;refine (awake17_any _).mono ?_;rintro e98 wz ⟨rfl,hbz⟩;replace HB:=hide (HB.out.trans (hbz.mono HB.out.size));clear hbz)
  go_ret
  exact LawOk.of HB.out
 have dd:(x0.k != 1)=false:=by simpa using hd
 obtain ⟨N1,hN1'⟩:∃N1,nU+1=N1:=⟨_,rfl⟩
 have HN1:=hide hN1'
 have hN1a:nU < N1:=by omega
 have hN1b:N1≤nU+1:=by omega
 clear hN1'
 go_wp2_with (first|(refine wpList_loadW rfl 29 (.tmp 3) rfl 6 stk_agg stk_size (w.heap.size) 29 rfl (stkC g (.slice (some ⟨bU,oU,none⟩) nU cU) (.slice AL nL cL)) R3.out rfl ?_)|(refine wpList_storeW rfl 29 (.tmp 7) (.tmp 53) rfl 6 stk_size (w2.heap.size) 29 rfl (stkC ⟨0,0,0,0⟩ (.slice none 0 0) (.slice none 0 0)) (stkC g (.slice (some ⟨bU,oU,none⟩) nU cU) (.slice AL nL cL)) rfl (RowL.new w2 29 (stkC ⟨0,0,0,0⟩ (.slice none 0 0) (.slice none 0 0))) rfl rfl (stkC_one _ _ _ _ _ _ _) ?_;intro wS2 hr2 hg2 hs2;have hzb:=below_stored' hg2;clear q3_4;replace HB:=hide (HB.out.trans (hzb.mono HB.out.size));replace R3:=hide (R3.out.on hzb);replace HU:=hide (HU.out.under hzb (by omega));replace HL:=hide (HL.out.under hzb (by omega));have hsz3:=hzb.size;have q3_4:wS2.cell? ⟨w.heap.size,4,none⟩=some (.slice (some ⟨bU,oU,none⟩) nU cU):=R3.out.cell 4;have R7:=hide hr2;have hlt2:=hr2.lt;have q7_4:wS2.cell? ⟨w2.heap.size,4,none⟩=some (.slice (some ⟨bU,oU,none⟩) nU cU):=R7.out.cell 4;have q7_0:wS2.cell? ⟨w2.heap.size,0,none⟩=some (.int .i64 g.a):=R7.out.cell 0;have q7_1:wS2.cell? ⟨w2.heap.size,1,none⟩=some (.int .i64 g.b):=R7.out.cell 1;have q7_2:wS2.cell? ⟨w2.heap.size,2,none⟩=some (.int .i64 g.c):=R7.out.cell 2;have q7_3:wS2.cell? ⟨w2.heap.size,3,none⟩=some (.int .i64 g.d):=R7.out.cell 3;have q7_5:wS2.cell? ⟨w2.heap.size,5,none⟩=some (.slice AL nL cL):=R7.out.cell 5;clear hzb hr2;clear hg2 hs2)|(go_at_call 12;refine (CloneNod_d wS2 HU.out (by omega) (by have:=HU.out.1;have:=HFEW.out.1;omega)).mono ?_;rintro e1 wC ⟨A8,c8,rfl,h8,hbel⟩;have H8:=hide h8;have HBC:=hide hbel;have hszC:=hbel.size;clear h8 hbel)|(at_builtin;refine wpList_append_OwD (E:=nodEn) _ rfl (.tmp 57) (.tmp 59) 24 rfl wS2.heap.size 38 (.agg nodZ.toArray) 144 Tryz.underlying24 nodw_info rfl (by decide) (Under w.heap.size) A8 nU c8 up rfl (H8.out.grown (grown_below (below_new (below_self wC) _)) (by simp)) _ (some ⟨wC.heap.size,0,none⟩) 1 1 [whiteN] rfl (enc_lit1 white_R wC 38 (Nat.le_refl _)) (fun b hb=>⟨hb.2,fun a ha e=>by have:=H8.out.lt a ha;have:=hb.1;omega⟩) N1 HN1.out (by have:=HU.out.1;have:=HFEW.out.1;omega) (by have:=HU.out.1;have:=HFEW.out.1;omega) (by simp;omega) ?_;intro A9 c9 wA h9 hbA;have H9:=hide h9;have hbel:=HBC.out.trans (((below_new (below_self wC) (.cells (nodC whiteN (.slice none 0 0) (.slice none 0 0)).toArray 38)).mono HBC.out.size).trans hbA);clear h9 hbA H8 HBC;clear q3_4 q7_4 q7_0 q7_1 q7_2 q7_3 q7_5;replace HB:=hide (HB.out.trans (hbel.mono HB.out.size));replace R3:=hide (R3.out.on hbel);replace HU:=hide (HU.out.under hbel (by omega));replace HL:=hide (HL.out.under hbel (by omega));replace R7:=hide (R7.out.on hbel);have hsz4:=hbel.size;have q3_4:wA.cell? ⟨w.heap.size,4,none⟩=some (.slice (some ⟨bU,oU,none⟩) nU cU):=R3.out.cell 4;have q7_4:wA.cell? ⟨w2.heap.size,4,none⟩=some (.slice (some ⟨bU,oU,none⟩) nU cU):=R7.out.cell 4;have q7_0:wA.cell? ⟨w2.heap.size,0,none⟩=some (.int .i64 g.a):=R7.out.cell 0;have q7_1:wA.cell? ⟨w2.heap.size,1,none⟩=some (.int .i64 g.b):=R7.out.cell 1;have q7_2:wA.cell? ⟨w2.heap.size,2,none⟩=some (.int .i64 g.c):=R7.out.cell 2;have q7_3:wA.cell? ⟨w2.heap.size,3,none⟩=some (.int .i64 g.d):=R7.out.cell 3;have q7_5:wA.cell? ⟨w2.heap.size,5,none⟩=some (.slice AL nL cL):=R7.out.cell 5;clear hbel)|(refine wpList_storeV rfl 24 (.tmp 62) (.tmp 60) rfl nods_size w2.heap.size 4 29 rfl (.slice A9 N1 c9) rfl rfl rfl (stkC g (.slice (some ⟨bU,oU,none⟩) nU cU) (.slice AL nL cL)) R7.out (by show 4 < 6;omega) ?_;intro wT hrT hgT hsT))
 have hszT:wA.heap.size≤wT.heap.size:=by omega
 obtain ⟨g9,hA9,hg9,hg9l⟩:=H9.out.some_ (by omega)
 subst hA9
 have hR7':RowL wT w2.heap.size 29 (stkC g (.slice (some ⟨g9,0,none⟩) N1 c9) (.slice AL nL cL)):=hrT
 have HR7:=hide hR7'
 have HR3:=hide (R3.out.grown hgT (pu5 (by omega)))
 have HX9:=hide (H9.out.grown hgT (fun k hk=>by
  have hk':=Option.some.inj hk
  subst hk'
  refine ⟨fun hD=>?_,fun a ha=>?_⟩
  ·rcases hD with hD|hD
   ·have:w2.heap.size < w.heap.size:=hD
    omega
   ·omega
  ·cases ha
   show g9≠w2.heap.size
   omega))
 have HBT:=hide (HB.out.grown hgT (by omega) (pu4 (by omega)))
 have HUT:=hide (und_grown HU.out hgT (by omega) (by omega))
 have HLT:=hide (und_grown HL.out hgT (by omega) (by omega))
 obtain ⟨b2,o2,hA2,-,hcT⟩:=HUT.out.2 (by omega)
 cases hA2
 obtain ⟨csT,⟨A1,n1,k1,C1,m1,d1,rfl,-,-,hm1,he1⟩,hc1⟩:=hcT 0 x0 hx0
 have HE1:=hide (he1:RdE entEn wT (Under w.heap.size) C1 m1 x0.ents)
 have HQE:=hide (show wT.cell? ⟨bU,oU+5,none⟩=some (.slice C1 m1 d1) from by simpa using hc1 5 (.slice C1 m1 d1) rfl)
 have hx0e:x0.ents.length≤16:=(HFEW.out.2 x0 (List.mem_of_getElem? hx0)).2.2.2.2.1
 have hm16:m1≤16:=by have:=he1.1;omega
 obtain ⟨N2,hN2'⟩:∃N2,1+m1=N2:=⟨_,rfl⟩
 have HN2:=hide hN2'
 have hN2a:N2≤17:=by omega
 have hN2b:0 < N2:=by omega
 have hbU9:bU < w.heap.size:=hbU
 have hU0:0 < nU:=by omega
 have hX0:0 < N1:=by omega
 have hlow:w.heap.size≤wT.heap.size:=by omega
 clear hN2' hrT hgT hR7' R3 H9 HB HU HL R7 he1 hc1 hcT hsT he0 hd0 hc0 hcU
 (try simp only [Act.put])
 refine wp_region_planP (fun w'=>Below wT.heap.size wT w') [(0,true),(1,true),(2,true),(3,true),(4,true),(5,true),(6,true),(7,true),(8,true),(10,true),(11,true),(12,true),(13,true),(14,true),(15,true),(9,false),(16,false),(17,true),(18,true)] 19 (by kernel_rfl) (by kernel_rfl) (by kernel_rfl) (by kernel_rfl) (by kernel_rfl) rfl (fun _ _ _ _ _ h=>h) (below_drew (below_self wT)) (fun hHeld=>?_)
 simp only [planOps,List.filterMap_cons,List.filterMap_nil,List.getElem?_toArray,List.getElem?_cons_succ,List.getElem?_cons_zero,Option.map_some]
 iterate 2
  refine wpPlan_take (v:=?_) (by kernel_rfl) (fun wS hSw=>?_) ?_
  rotate_left
  ·(try dsimp only at hSw);go_simp;(try with_reducible rfl)
  (try simp only [Act.put,pu1,pu2,pu3])
 refine wpPlan_take (v:=?_) (by kernel_rfl) (fun wS hSw=>?_) ?_
 rotate_left
 ·have qx:=(HR7.out.on hSw).cell 4 |>.trans (show (stkC g (.slice (some ⟨g9,0,none⟩) N1 c9) (.slice AL nL cL))[4]?=some (.slice (some ⟨g9,0,none⟩) N1 c9) from rfl);go_simp;(try with_reducible rfl)
 (try simp only [Act.put,pu1,pu2,pu3])
 iterate 2
  refine wpPlan_take (v:=?_) (by kernel_rfl) (fun wS hSw=>?_) ?_
  rotate_left
  ·(try dsimp only at hSw);go_simp;(try with_reducible rfl)
  (try simp only [Act.put,pu1,pu2,pu3])
 refine wpPlan_take (v:=?_) (by kernel_rfl) (fun wS hSw=>?_) ?_
 rotate_left
 ·have qx:=(HR7.out.on hSw).cell 4 |>.trans (show (stkC g (.slice (some ⟨g9,0,none⟩) N1 c9) (.slice AL nL cL))[4]?=some (.slice (some ⟨g9,0,none⟩) N1 c9) from rfl);go_simp;(try with_reducible rfl)
 (try simp only [Act.put,pu1,pu2,pu3])
 iterate 5
  refine wpPlan_take (v:=?_) (by kernel_rfl) (fun wS hSw=>?_) ?_
  rotate_left
  ·(try dsimp only at hSw);go_simp;(try with_reducible rfl)
  (try simp only [Act.put,pu1,pu2,pu3])
 refine wpPlan_take (v:=?_) (by kernel_rfl) (fun wS hSw=>?_) ?_
 rotate_left
 ·have qx:=(HR3.out.on hSw).cell 4 |>.trans (show (stkC g (.slice (some ⟨bU,oU,none⟩) nU cU) (.slice AL nL cL))[4]?=some (.slice (some ⟨bU,oU,none⟩) nU cU) from rfl);go_simp;(try with_reducible rfl)
 (try simp only [Act.put,pu1,pu2,pu3])
 iterate 2
  refine wpPlan_take (v:=?_) (by kernel_rfl) (fun wS hSw=>?_) ?_
  rotate_left
  ·(try dsimp only at hSw);go_simp;(try with_reducible rfl)
  (try simp only [Act.put,pu1,pu2,pu3])
 refine wpPlan_take (v:=?_) (by kernel_rfl) (fun wS hSw=>?_) ?_
 rotate_left
 ·have qx:=(show wS.cell? ⟨bU,oU+5,none⟩=some (.slice C1 m1 d1) from (cell_same (hSw.block bU (by have:bU < w.heap.size:=hbU;omega))).trans HQE.out);go_simp;(try with_reducible rfl)
 (try simp only [Act.put,pu1,pu2,pu3])
 refine wpPlan_call (by kernel_rfl) (fun K hK=>?_)
 have hOld:=hide hHeld
 clear hHeld
 have HLE:=hide (OwE.one_ent ⟨0,(N1:Int),nm⟩ wT.drew 42)
 unfold Oper.wp execOp
 have hlit:=litW_ent ⟨0,(N1:Int),nm⟩ wT.drew
 go_simp
 have hba:=below_new (below_self wT.drew) (.cells #[.int .i64 0,.int .i64 (N1:Int),.string ⟨nm.toArray⟩] 42)
 refine hK.out _ _ (hOld.out.alloc hOld.out.size _) (fun hHeld=>?_)
 clear hK K
 clear hlit
 (try simp only [Act.put,pu1,pu2,pu3])
 refine wpPlan_call (by kernel_rfl) (fun K hK=>?_)
 have hOld:=hide hHeld
 clear hHeld
 refine wp_append_OwE (E:=entEn) _ (.tmp 72) (.tmp 78) 32 rfl wT.heap.size 42 (.agg #[.int .i64 0,.int .i64 0,.string ⟨#[]⟩]) 32 Tryz.underlying32 entW_info rfl (by decide) (some ⟨wT.drew.heap.size,0,none⟩) 1 1 [⟨0,(N1:Int),nm⟩] rfl HLE.out (Under w.heap.size) C1 m1 d1 x0.ents rfl (und_at HE1.out ((below_drew (below_self wT)).trans hba) (by omega)) (fun b hb=>⟨⟨by have h1:b < w.heap.size:=hb;have h2:=hOld.out.size;omega,fun _ _ _ _=>rfl⟩,fun a ha=>by cases ha;have h1:b < w.heap.size:=hb;exact (fun e=>by have e2:b=wT.heap.size:=e;omega)⟩) N2 HN2.out (by omega) (by omega) hOld.out.size ?_
 intro A16 c16 w16 ho16 hb16
 refine hK.out _ _ (hOld.out.trans hb16) (fun hHeld=>?_)
 clear hK K
 have HO16:=hide ho16
 clear ho16 hb16 hba HLE
 (try simp only [Act.put,pu1,pu2,pu3])
 iterate 2
  refine wpPlan_take (v:=?_) (by kernel_rfl) (fun wS hSw=>?_) ?_
  rotate_left
  ·(try dsimp only at hSw);go_simp;(try with_reducible rfl)
  (try simp only [Act.put,pu1,pu2,pu3])
 refine wpPlan_end ?_
 refine postL_go rfl (by kernel_rfl) ?_
 have HX16:=hide (HX9.out.grown (grown_below hHeld) (by simp))
 have hsz16:=hHeld.size
 obtain ⟨v5,q5⟩:∃v,w16.cell? ⟨g9,5,none⟩=some v:=by
  obtain ⟨css,rest,hr,-,hl⟩:=HX16.out.row
  exact ⟨_,(hr.cell 5).trans (List.getElem?_eq_getElem (by rw [List.length_append,hl,show nodEn.k=13 from rfl];omega))⟩
 have f5:w16.frozen? ⟨g9,5,none⟩=false:=by
  obtain ⟨css,rest,hr,-,hl⟩:=HX16.out.row
  exact hr.frozen 5
 unfold Oper.wp execOp
 go_simp
 obtain ⟨xr,hup⟩:∃r,up=x0::r:=by
  cases up with
  | nil=>cases hx0
  | cons a r =>
   simp only [List.getElem?_cons_zero,Option.some.injEq] at hx0
   exact ⟨r,by rw [hx0]⟩
 have hul:up.length=nU:=HUT.out.1
 have hxr:xr.length+2=N1:=by rw [hup,List.length_cons] at hul;have:=HN1.out;omega
 have hXp:=OwD.putEnts (x:=x0) (r:=xr++[whiteN]) (by rw [hup] at HX16;exact HX16.out) HO16.out.cap_ HO16.out.entB (fun b hb=>⟨hb.2,by have h1:=hb.1;omega⟩)
 have hupX:{x0 with ents:=[⟨0,(N1:Int),nm⟩]++x0.ents}::(xr++[whiteN])=upX up nm:=by
  rw [hup]
  unfold upX
  rw [show (N1:Int)=(xr.length:Int)+2 from by omega]
  rfl
 generalize w16.setCell ⟨g9,5,none⟩ (.slice A16 N2 c16)=wQ at *
 have hgQ:=hXp.2
 have HXQ:=hide (show RdE nodEn wQ (Under wQ.heap.size) (some ⟨g9,0,none⟩) N1 (upX up nm) from by rw [←hupX];exact hXp.1.rd)
 have hcapX:N1≤c9:=hXp.1.cap_
 have HR7Q:=hide ((HR7.out.on hHeld).grown hgQ (pu5 (by omega)))
 have HR3Q:=hide ((HR3.out.on hHeld).grown hgQ (pu5 (by omega)))
 have HUQ:=hide (und_grown (und_at HUT.out hHeld (by omega)) hgQ (by omega) (by omega))
 have HLQ:=hide (und_grown (und_at HLT.out hHeld (by omega)) hgQ (by omega) (by omega))
 have HBQ:=hide ((HBT.out.trans (hHeld.mono HBT.out.size)).grown hgQ (by omega) (pu4 (by omega)))
 have hszQ:=hgQ.size
 have hg9Q:g9 < wQ.heap.size:=by omega
 have hw2Q:w2.heap.size < wQ.heap.size:=by omega
 have hn24:nU≤23:=by have:=HFEW.out.1;omega
 have q7_4:wQ.cell? ⟨w2.heap.size,4,none⟩=some (.slice (some ⟨g9,0,none⟩) N1 c9):=HR7Q.out.cell 4
 have q3_4:wQ.cell? ⟨w.heap.size,4,none⟩=some (.slice (some ⟨bU,oU,none⟩) nU cU):=HR3Q.out.cell 4
 have hcu:nU≤c9:=by omega
 clear q5 f5 hXp hgQ hHeld HX16 HO16 HR7 HR3 HUT HLT HBT HX9 HE1 HQE
 (try simp only [Act.put])
 go_wp2_with fail
 clear q7_4 q3_4
 go_loopw [91] (fun v91 wr=>∃i:Nat,i≤nU∧v91=.int .i64 i∧Below wQ.heap.size wQ wr∧(0 < i→∀e∈x0.ents,e.ino≠(N1:Int))) (fun v91 _=>nU - (intOf v91).toNat)
 case atStart=>exact ⟨0,by omega,rfl,Below.refl _ _,fun h=>absurd h (by omega)⟩
 case round =>
  obtain ⟨i,hi,rfl,hbr,hno⟩:=hrel
  have hbsz:=hbr.size
  have HBR:=hide hbr
  have HNO:=hide hno
  have HR7r:=hide (show RowL wr w2.heap.size _ _ from (hbr.block _ (by omega)).trans HR7Q.out)
  have HR3r:=hide (show RowL wr w.heap.size _ _ from (hbr.block _ (by omega)).trans HR3Q.out)
  have HUr:=hide (und_at HUQ.out hbr (by omega))
  have HLr:=hide (und_at HLQ.out hbr (by omega))
  have HXr:=hide (und_at HXQ.out hbr (by omega))
  have q7_4:wr.cell? ⟨w2.heap.size,4,none⟩=some (.slice (some ⟨g9,0,none⟩) N1 c9):=HR7r.out.cell 4
  have q3_4:wr.cell? ⟨w.heap.size,4,none⟩=some (.slice (some ⟨bU,oU,none⟩) nU cU):=HR3r.out.cell 4
  clear hbr hno
  by_cases hlt:i < nU
  ·obtain ⟨xi,hxi⟩:∃x,up[i]?=some x:=⟨_,List.getElem?_eq_getElem (by omega)⟩
   obtain ⟨b3,o3,hA3,-,hci⟩:=HUr.out.2 (by omega)
   cases hA3
   obtain ⟨cs3,⟨A3,n3,k3,C3,m3,d3,rfl,-,-,hm3,he3⟩,hc3⟩:=hci i xi hxi
   have hq3:wr.cell? ⟨bU,oU+i*13+5,none⟩=some (.slice C3 m3 d3):=by
    have:=hc3 5 (.slice C3 m3 d3) rfl
    rw [show nodEn.k=13 from rfl,←Nat.add_assoc] at this
    exact this
   have he3l:xi.ents.length≤16:=(HFEW.out.2 xi (List.mem_of_getElem? hxi)).2.2.2.2.1
   have HE3:=hide (he3:RdE entEn wr (Under w.heap.size) C3 m3 xi.ents)
   have hin:(i:Int) < (nU:Int):=by omega
   have HXI:=hide hxi
   have HQ7:=hide q7_4
   clear hci hc3 he3 hxi q7_4
   go_wp2_with fail
   refine (VwHas_any wr (und_up HE3.out (by omega)) (by omega) HQ7.out (by omega)).mono ?_
   rintro e3 w3 ⟨rb,rfl,hb3,hp⟩
   have HP:=hide hp
   have HB:=hide ((HBQ.out.trans (HBR.out.mono HBQ.out.size)).trans (hb3.mono (by have:=HBQ.out.size;omega)))
   have HB3:=hide hb3
   clear hp hb3
   cases rb
   ·go_wp2_with fail
    go_roundw
    case rel =>
     refine ⟨i+1,by omega,by go_num,HBR.out.trans (HB3.out.mono (by omega)),fun _=>?_⟩
     by_cases h0:i=0
     ·subst h0
      have hxx:x0=xi:=Option.some.inj (hx0.symm.trans HXI.out)
      rw [hxx]
      exact HP.out (by first|rfl|trivial)
     ·exact HNO.out (by omega)
    case measure=>simp [intOf];omega
   ·go_wp2_with (go_at_call 11;refine (awake17_any _).mono ?_;rintro e98 wz ⟨rfl,hbz⟩;replace HB:=hide (HB.out.trans (hbz.mono HB.out.size));clear hbz)
    go_ret
    exact LawOk.of HB.out
  ·obtain rfl:nU=i:=by omega
   have hnlt:¬((nU:Int) < (nU:Int)):=by omega
   have HB:=hide (HBQ.out.trans (HBR.out.mono HBQ.out.size))
   have hnox:=HNO.out (by omega)
   clear q7_4 q3_4
   have hF23:FewB 23 up:=HFEW.out
   have HFX:=hide (upX_few (nm:=nm) (by have:=hF23.1;omega) hF23.2)
   have HFS:=hide (show FewU up from ⟨by have:=hF23.1;omega,hF23.2⟩)
   have hne0:up≠[]:=by intro e;rw [e] at hul;simp at hul;omega
   have HLX:=hide (HLr.out.mono (w':=wr) (D':=Under wQ.heap.size) (fun _ _=>rfl) (fun b (hb:b < w.heap.size)=>(show b < wQ.heap.size by omega)))
   obtain ⟨VX,hVX⟩:∃V,rootV (upX up nm) ls=V:=⟨_,rfl⟩
   obtain ⟨VS,hVS⟩:∃V,rootV up ls=V:=⟨_,rfl⟩
   have hXS:VX=VS:=by rw [←hVX,←hVS,upX_root hne0]
   have hVl:VX.2.length≤1000:=by rw [hXS,←hVS];exact rootV_few up HF.out
   have hVl':VS.2.length≤1000:=by rw [←hXS];exact hVl
   have HVX:=hide hVX
   have HVS:=hide hVS
   obtain ⟨S1,hS1⟩:∃S,stepV (upX up nm) ls VX nm=S:=⟨_,rfl⟩
   obtain ⟨S2,hS2⟩:∃S,stepV up ls VS ot=S:=⟨_,rfl⟩
   obtain ⟨S3,hS3⟩:∃S,stepV (upX up nm) ls VX ot=S:=⟨_,rfl⟩
   have hk1:S1.1=0:=by rw [←hS1,←hVX];exact upX_name hne0 (by rw [hN1];exact hd) ls nm
   have hoth:=upX_other hne0 (by rw [hN1];exact hd) ls hne (by rw [hN1];intro e he;have:=hnox e he;rw [hul];have h2:=HN1.out;omega)
   rw [hVX,hVS,hS3,hS2] at hoth
   have HK1:=hide hk1
   have HOTH:=hide hoth
   have HS1:=hide hS1
   have HS2:=hide hS2
   have HS3:=hide hS3
   have hwQr:wQ.heap.size≤wr.heap.size:=hbsz
   clear hk1 hoth hS1 hS2 hS3 hVX hVS hXS hnox
   go_upto_region 12 with fail
   go_cut [9,10,11] from 105 to 113 (fun vk vv vp wx=>∃(gv gp:Nat),vk=.int .i64 S1.1∧vv=.pointer (some ⟨gv,0,none⟩)∧vp=.pointer (some ⟨gp,0,none⟩)∧wr.heap.size≤gp∧RowL wx gp 49 (prC S1.2.2)∧Below wr.heap.size wr wx)
   case first =>
    refine wp_region_L (fun a0 L a' w'=>∃(u106 u107 u108 u109 u110 u105 u111 u112 u113 u10 u11 u9:Value) (B8:Option Addr) (e8 g10 g11:Nat) (B9:Option Addr) (e9:Nat),a'=puts a0 [(106,u106),(107,u107),(108,u108),(109,u109),(110,u110),(105,u105),(111,u111),(112,u112),(113,u113),(10,u10),(11,u11),(9,u9)]∧RsF wr L u108 u10 u11 B8 e8 g10 g11 VX S1 B9 e9 w'∧(L 0→u106=.agg (stkC g (.slice (some ⟨g9,0,none⟩) N1 c9) (.slice AL nL cL)).toArray)∧(L 1→u107=.agg (stkC g (.slice (some ⟨g9,0,none⟩) N1 c9) (.slice AL nL cL)).toArray)∧(L 3→u109=.string ⟨nm.toArray⟩)∧(L 4→u110=(.tuple #[.int .i64 S1.1,.agg (viwC S1.2.1.1 (.slice B9 S1.2.1.2.length e9)).toArray,.agg (prC S1.2.2).toArray]))∧(L 5→u105=(.tuple #[.int .i64 S1.1,.agg (viwC S1.2.1.1 (.slice B9 S1.2.1.2.length e9)).toArray,.agg (prC S1.2.2).toArray]))∧(L 6→u111=.int .i64 S1.1)∧(L 7→u112=.agg (viwC S1.2.1.1 (.slice B9 S1.2.1.2.length e9)).toArray)∧(L 8→u113=.agg (prC S1.2.2).toArray)∧(L 11→u9=.int .i64 S1.1)) (by kernel_rfl) (by kernel_rfl) (by kernel_rfl) ?_ ?_ ?_
    ·exact fun f hf=>⟨f 106,f 107,f 108,f 109,f 110,f 105,f 111,f 112,f 113,f 10,f 11,f 9,none,0,0,0,none,0,(hf [106,107,108,109,110,105,111,112,113,10,11,9]).symm,RsF.start (below_drew (below_self wr)),fun h=>h.elim,fun h=>h.elim,fun h=>h.elim,fun h=>h.elim,fun h=>h.elim,fun h=>h.elim,fun h=>h.elim,fun h=>h.elim,fun h=>h.elim⟩
    ·simp only [ForOps,Nat.reduceAdd]
     refine ⟨?_,?_,?_,?_,?_,?_,?_,?_,?_,?_,?_,?_,?_,?_,trivial⟩
     ·intro L a' w' hLi hw hJ0 K hK
      obtain ⟨u106,u107,u108,u109,u110,u105,u111,u112,u113,u10,u11,u9,B8,e8,g10,g11,B9,e9,ha,hJ,v0,v1,v3,v4,v5,v6,v7,v8,v11⟩:=hJ0
      simp only [puts,Act.put,List.setIfInBounds_toArray,List.set_cons_zero,List.set_cons_succ] at ha
      subst ha
      have R7w:=HR7r.out.on hJ.hb
      refine wp_val (v:=.agg (stkC g (.slice (some ⟨g9,0,none⟩) N1 c9) (.slice AL nL cL)).toArray) (w':=w') ?_ ?_
      ·refine execOp_load (x:=.tmp 7) (k:=6) (g:=w2.heap.size) (off:=0) (cs:=(stkC g (.slice (some ⟨g9,0,none⟩) N1 c9) (.slice AL nL cL))) ?_ stk_agg stk_size ?_ (fun j v hv=>by rw [Nat.zero_add];exact (R7w.cell j).trans hv) rfl <;> rfl
      simp only [Act.put,pu1,pu2,pu3]
      exact hK.out _ _ ⟨(.agg (stkC g (.slice (some ⟨g9,0,none⟩) N1 c9) (.slice AL nL cL)).toArray),u107,u108,u109,u110,u105,u111,u112,u113,u10,u11,u9,B8,e8,g10,g11,B9,e9,by simp only [puts,Act.put,List.setIfInBounds_toArray,List.set_cons_zero,List.set_cons_succ],hJ.more (by decide),fun _=>rfl,fun LP=>v1 (or_of (by decide) LP),fun LP=>v3 (or_of (by decide) LP),fun LP=>v4 (or_of (by decide) LP),fun LP=>v5 (or_of (by decide) LP),fun LP=>v6 (or_of (by decide) LP),fun LP=>v7 (or_of (by decide) LP),fun LP=>v8 (or_of (by decide) LP),fun LP=>v11 (or_of (by decide) LP)⟩
     ·intro L a' w' hLi hw hJ0 K hK
      obtain ⟨u106,u107,u108,u109,u110,u105,u111,u112,u113,u10,u11,u9,B8,e8,g10,g11,B9,e9,ha,hJ,v0,v1,v3,v4,v5,v6,v7,v8,v11⟩:=hJ0
      simp only [puts,Act.put,List.setIfInBounds_toArray,List.set_cons_zero,List.set_cons_succ] at ha
      subst ha
      have R7w:=HR7r.out.on hJ.hb
      refine wp_val (v:=.agg (stkC g (.slice (some ⟨g9,0,none⟩) N1 c9) (.slice AL nL cL)).toArray) (w':=w') ?_ ?_
      ·refine execOp_load (x:=.tmp 7) (k:=6) (g:=w2.heap.size) (off:=0) (cs:=(stkC g (.slice (some ⟨g9,0,none⟩) N1 c9) (.slice AL nL cL))) ?_ stk_agg stk_size ?_ (fun j v hv=>by rw [Nat.zero_add];exact (R7w.cell j).trans hv) rfl <;> rfl
      simp only [Act.put,pu1,pu2,pu3]
      exact hK.out _ _ ⟨u106,(.agg (stkC g (.slice (some ⟨g9,0,none⟩) N1 c9) (.slice AL nL cL)).toArray),u108,u109,u110,u105,u111,u112,u113,u10,u11,u9,B8,e8,g10,g11,B9,e9,by simp only [puts,Act.put,List.setIfInBounds_toArray,List.set_cons_zero,List.set_cons_succ],hJ.more (by decide),fun LP=>v0 (or_of (by decide) LP),fun _=>rfl,fun LP=>v3 (or_of (by decide) LP),fun LP=>v4 (or_of (by decide) LP),fun LP=>v5 (or_of (by decide) LP),fun LP=>v6 (or_of (by decide) LP),fun LP=>v7 (or_of (by decide) LP),fun LP=>v8 (or_of (by decide) LP),fun LP=>v11 (or_of (by decide) LP)⟩
     ·intro L a' w' hLi hw hJ0 K hK
      obtain ⟨u106,u107,u108,u109,u110,u105,u111,u112,u113,u10,u11,u9,B8,e8,g10,g11,B9,e9,ha,hJ,v0,v1,v3,v4,v5,v6,v7,v8,v11⟩:=hJ0
      simp only [puts,Act.put,List.setIfInBounds_toArray,List.set_cons_zero,List.set_cons_succ] at ha
      subst ha
      have h1:L 1:=hw 1 (by decide)
      obtain rfl:=v1 h1
      go_simp
      go_at_call 16
      refine (VRoot_e (up:=upX up nm) HVX.out w' (HXr.out.under hJ.hb (by omega)) (HLX.out.under hJ.hb (by omega)) (by have:=hJ.hb.size;omega) HF.out HFX.out).mono ?_
      rintro e w'' ⟨B8',e8',rfl,h2',hbz⟩
      have hm:=hJ.on hbz
      dsimp only
      exact hK.out _ _ ⟨u106,(.agg (stkC g (.slice (some ⟨g9,0,none⟩) N1 c9) (.slice AL nL cL)).toArray),(.agg (viwC VX.1 (.slice B8' VX.2.length e8')).toArray),u109,u110,u105,u111,u112,u113,u10,u11,u9,B8',e8',g10,g11,B9,e9,by simp only [puts,Act.put,List.setIfInBounds_toArray,List.set_cons_zero,List.set_cons_succ],{hb:=hm.hb,f2:=fun _=>rfl,h2:=fun _ _=>fr_under h2',o5:=fun LP=>.inr (hm.o5 (or_of (by decide) LP)),o7:=fun LP=>.inr (hm.o7 (or_of (by decide) LP)),f9:=fun LP=>hm.f9 (or_of (by decide) LP),b9:=fun LP=>hm.b9 (or_of (by decide) LP),r9:=fun LP N12=>hm.r9 (or_of (by decide) LP) (fun q=>N12 (.inr q)),f10:=fun LP=>hm.f10 (or_of (by decide) LP),b10:=fun LP=>hm.b10 (or_of (by decide) LP),r10:=fun LP N13=>hm.r10 (or_of (by decide) LP) (fun q=>N13 (.inr q)),o12:=fun LP=>.inr (hm.o12 (or_of (by decide) LP)),p12:=fun LP=>.inr (hm.p12 (or_of (by decide) LP)),r12:=fun LP=>hm.r12 (or_of (by decide) LP),p13:=fun LP=>.inr (hm.p13 (or_of (by decide) LP)),r13:=fun LP=>hm.r13 (or_of (by decide) LP)},fun LP=>v0 (or_of (by decide) LP),fun LP=>v1 (or_of (by decide) LP),fun LP=>v3 (or_of (by decide) LP),fun LP=>v4 (or_of (by decide) LP),fun LP=>v5 (or_of (by decide) LP),fun LP=>v6 (or_of (by decide) LP),fun LP=>v7 (or_of (by decide) LP),fun LP=>v8 (or_of (by decide) LP),fun LP=>v11 (or_of (by decide) LP)⟩
     ·intro L a' w' hLi hw hJ0 K hK
      obtain ⟨u106,u107,u108,u109,u110,u105,u111,u112,u113,u10,u11,u9,B8,e8,g10,g11,B9,e9,ha,hJ,v0,v1,v3,v4,v5,v6,v7,v8,v11⟩:=hJ0
      simp only [puts,Act.put,List.setIfInBounds_toArray,List.set_cons_zero,List.set_cons_succ] at ha
      subst ha
      unfold Oper.wp execOp
      go_simp
      exact hK.out _ _ ⟨u106,u107,u108,(.string ⟨nm.toArray⟩),u110,u105,u111,u112,u113,u10,u11,u9,B8,e8,g10,g11,B9,e9,by simp only [puts,Act.put,List.setIfInBounds_toArray,List.set_cons_zero,List.set_cons_succ],hJ.more (by decide),fun LP=>v0 (or_of (by decide) LP),fun LP=>v1 (or_of (by decide) LP),fun _=>rfl,fun LP=>v4 (or_of (by decide) LP),fun LP=>v5 (or_of (by decide) LP),fun LP=>v6 (or_of (by decide) LP),fun LP=>v7 (or_of (by decide) LP),fun LP=>v8 (or_of (by decide) LP),fun LP=>v11 (or_of (by decide) LP)⟩
     ·intro L a' w' hLi hw hJ0 K hK
      obtain ⟨u106,u107,u108,u109,u110,u105,u111,u112,u113,u10,u11,u9,B8,e8,g10,g11,B9,e9,ha,hJ,v0,v1,v3,v4,v5,v6,v7,v8,v11⟩:=hJ0
      simp only [puts,Act.put,List.setIfInBounds_toArray,List.set_cons_zero,List.set_cons_succ] at ha
      subst ha
      have h0:L 0:=hw 0 (by decide)
      have h2:L 2:=hw 2 (by decide)
      have h3:L 3:=hw 3 (by decide)
      obtain rfl:=v0 h0
      obtain rfl:=hJ.f2 h2
      obtain rfl:=v3 h3
      have hh2:=hJ.h2 h2 hLi
      go_simp
      go_at_call 15
      refine (VStep_any (up:=upX up nm) (u:=VX.1) (vl:=VX.2) HS1.out w' (HXr.out.under hJ.hb (by omega)) (HLX.out.under hJ.hb (by omega)) (by have:=hJ.hb.size;omega) HF.out HFX.out hh2 (Nat.le_refl _) hVl).mono ?_
      rintro e w'' ⟨B9',e9',rfl,-,hbz⟩
      have hm:=hJ.on hbz
      dsimp only
      exact hK.out _ _ ⟨(.agg (stkC g (.slice (some ⟨g9,0,none⟩) N1 c9) (.slice AL nL cL)).toArray),u107,(.agg (viwC VX.1 (.slice B8 VX.2.length e8)).toArray),(.string ⟨nm.toArray⟩),(.tuple #[.int .i64 S1.1,.agg (viwC S1.2.1.1 (.slice B9' S1.2.1.2.length e9')).toArray,.agg (prC S1.2.2).toArray]),u105,u111,u112,u113,u10,u11,u9,B8,e8,g10,g11,B9',e9',by simp only [puts,Act.put,List.setIfInBounds_toArray,List.set_cons_zero,List.set_cons_succ],{hb:=hm.hb,f2:=fun LP=>hm.f2 (or_of (by decide) LP),h2:=fun LP N4=>absurd (.inl rfl) N4,o5:=fun _=>.inl rfl,o7:=fun _=>.inl rfl,f9:=fun LP=>hm.f9 (or_of (by decide) LP),b9:=fun LP=>hm.b9 (or_of (by decide) LP),r9:=fun LP N12=>hm.r9 (or_of (by decide) LP) (fun q=>N12 (.inr q)),f10:=fun LP=>hm.f10 (or_of (by decide) LP),b10:=fun LP=>hm.b10 (or_of (by decide) LP),r10:=fun LP N13=>hm.r10 (or_of (by decide) LP) (fun q=>N13 (.inr q)),o12:=fun _=>.inl rfl,p12:=fun LP=>.inr (hm.p12 (or_of (by decide) LP)),r12:=fun LP=>absurd (hJ.o12 (or_of (by decide) LP)) hLi,p13:=fun LP=>.inr (hm.p13 (or_of (by decide) LP)),r13:=fun LP=>hm.r13 (or_of (by decide) LP)},fun LP=>v0 (or_of (by decide) LP),fun LP=>v1 (or_of (by decide) LP),fun LP=>v3 (or_of (by decide) LP),fun _=>rfl,fun LP=>absurd (hJ.o5 (or_of (by decide) LP)) hLi,fun LP=>v6 (or_of (by decide) LP),fun LP=>absurd (hJ.o7 (or_of (by decide) LP)) hLi,fun LP=>v8 (or_of (by decide) LP),fun LP=>v11 (or_of (by decide) LP)⟩
     ·intro L a' w' hLi hw hJ0 K hK
      obtain ⟨u106,u107,u108,u109,u110,u105,u111,u112,u113,u10,u11,u9,B8,e8,g10,g11,B9,e9,ha,hJ,v0,v1,v3,v4,v5,v6,v7,v8,v11⟩:=hJ0
      simp only [puts,Act.put,List.setIfInBounds_toArray,List.set_cons_zero,List.set_cons_succ] at ha
      subst ha
      have h4:L 4:=hw 4 (by decide)
      obtain rfl:=v4 h4
      unfold Oper.wp execOp
      go_simp
      exact hK.out _ _ ⟨u106,u107,u108,u109,(.tuple #[.int .i64 S1.1,.agg (viwC S1.2.1.1 (.slice B9 S1.2.1.2.length e9)).toArray,.agg (prC S1.2.2).toArray]),(.tuple #[.int .i64 S1.1,.agg (viwC S1.2.1.1 (.slice B9 S1.2.1.2.length e9)).toArray,.agg (prC S1.2.2).toArray]),u111,u112,u113,u10,u11,u9,B8,e8,g10,g11,B9,e9,by simp only [puts,Act.put,List.setIfInBounds_toArray,List.set_cons_zero,List.set_cons_succ],{hb:=hJ.hb,f2:=fun LP=>hJ.f2 (or_of (by decide) LP),h2:=fun LP N4=>hJ.h2 (or_of (by decide) LP) (fun q=>N4 (.inr q)),o5:=fun _=>.inr h4,o7:=fun LP=>.inr (hJ.o7 (or_of (by decide) LP)),f9:=fun LP=>hJ.f9 (or_of (by decide) LP),b9:=fun LP=>hJ.b9 (or_of (by decide) LP),r9:=fun LP N12=>hJ.r9 (or_of (by decide) LP) (fun q=>N12 (.inr q)),f10:=fun LP=>hJ.f10 (or_of (by decide) LP),b10:=fun LP=>hJ.b10 (or_of (by decide) LP),r10:=fun LP N13=>hJ.r10 (or_of (by decide) LP) (fun q=>N13 (.inr q)),o12:=fun LP=>.inr (hJ.o12 (or_of (by decide) LP)),p12:=fun LP=>.inr (hJ.p12 (or_of (by decide) LP)),r12:=fun LP=>hJ.r12 (or_of (by decide) LP),p13:=fun LP=>.inr (hJ.p13 (or_of (by decide) LP)),r13:=fun LP=>hJ.r13 (or_of (by decide) LP)},fun LP=>v0 (or_of (by decide) LP),fun LP=>v1 (or_of (by decide) LP),fun LP=>v3 (or_of (by decide) LP),fun LP=>v4 (or_of (by decide) LP),fun _=>rfl,fun LP=>v6 (or_of (by decide) LP),fun LP=>v7 (or_of (by decide) LP),fun LP=>v8 (or_of (by decide) LP),fun LP=>v11 (or_of (by decide) LP)⟩
     ·intro L a' w' hLi hw hJ0 K hK
      obtain ⟨u106,u107,u108,u109,u110,u105,u111,u112,u113,u10,u11,u9,B8,e8,g10,g11,B9,e9,ha,hJ,v0,v1,v3,v4,v5,v6,v7,v8,v11⟩:=hJ0
      simp only [puts,Act.put,List.setIfInBounds_toArray,List.set_cons_zero,List.set_cons_succ] at ha
      subst ha
      have h5:L 5:=hw 5 (by decide)
      obtain rfl:=v5 h5
      unfold Oper.wp execOp
      go_simp
      exact hK.out _ _ ⟨u106,u107,u108,u109,u110,(.tuple #[.int .i64 S1.1,.agg (viwC S1.2.1.1 (.slice B9 S1.2.1.2.length e9)).toArray,.agg (prC S1.2.2).toArray]),(.int .i64 S1.1),u112,u113,u10,u11,u9,B8,e8,g10,g11,B9,e9,by simp only [puts,Act.put,List.setIfInBounds_toArray,List.set_cons_zero,List.set_cons_succ],hJ.more (by decide),fun LP=>v0 (or_of (by decide) LP),fun LP=>v1 (or_of (by decide) LP),fun LP=>v3 (or_of (by decide) LP),fun LP=>v4 (or_of (by decide) LP),fun LP=>v5 (or_of (by decide) LP),fun _=>rfl,fun LP=>v7 (or_of (by decide) LP),fun LP=>v8 (or_of (by decide) LP),fun LP=>v11 (or_of (by decide) LP)⟩
     ·intro L a' w' hLi hw hJ0 K hK
      obtain ⟨u106,u107,u108,u109,u110,u105,u111,u112,u113,u10,u11,u9,B8,e8,g10,g11,B9,e9,ha,hJ,v0,v1,v3,v4,v5,v6,v7,v8,v11⟩:=hJ0
      simp only [puts,Act.put,List.setIfInBounds_toArray,List.set_cons_zero,List.set_cons_succ] at ha
      subst ha
      have h5:L 5:=hw 5 (by decide)
      obtain rfl:=v5 h5
      unfold Oper.wp execOp
      go_simp
      exact hK.out _ _ ⟨u106,u107,u108,u109,u110,(.tuple #[.int .i64 S1.1,.agg (viwC S1.2.1.1 (.slice B9 S1.2.1.2.length e9)).toArray,.agg (prC S1.2.2).toArray]),u111,(.agg (viwC S1.2.1.1 (.slice B9 S1.2.1.2.length e9)).toArray),u113,u10,u11,u9,B8,e8,g10,g11,B9,e9,by simp only [puts,Act.put,List.setIfInBounds_toArray,List.set_cons_zero,List.set_cons_succ],{hb:=hJ.hb,f2:=fun LP=>hJ.f2 (or_of (by decide) LP),h2:=fun LP N4=>hJ.h2 (or_of (by decide) LP) (fun q=>N4 (.inr q)),o5:=fun LP=>.inr (hJ.o5 (or_of (by decide) LP)),o7:=fun _=>.inr (hJ.o5 h5),f9:=fun LP=>hJ.f9 (or_of (by decide) LP),b9:=fun LP=>hJ.b9 (or_of (by decide) LP),r9:=fun LP N12=>hJ.r9 (or_of (by decide) LP) (fun q=>N12 (.inr q)),f10:=fun LP=>hJ.f10 (or_of (by decide) LP),b10:=fun LP=>hJ.b10 (or_of (by decide) LP),r10:=fun LP N13=>hJ.r10 (or_of (by decide) LP) (fun q=>N13 (.inr q)),o12:=fun LP=>.inr (hJ.o12 (or_of (by decide) LP)),p12:=fun LP=>.inr (hJ.p12 (or_of (by decide) LP)),r12:=fun LP=>hJ.r12 (or_of (by decide) LP),p13:=fun LP=>.inr (hJ.p13 (or_of (by decide) LP)),r13:=fun LP=>hJ.r13 (or_of (by decide) LP)},fun LP=>v0 (or_of (by decide) LP),fun LP=>v1 (or_of (by decide) LP),fun LP=>v3 (or_of (by decide) LP),fun LP=>v4 (or_of (by decide) LP),fun LP=>v5 (or_of (by decide) LP),fun LP=>v6 (or_of (by decide) LP),fun _=>rfl,fun LP=>v8 (or_of (by decide) LP),fun LP=>v11 (or_of (by decide) LP)⟩
     ·intro L a' w' hLi hw hJ0 K hK
      obtain ⟨u106,u107,u108,u109,u110,u105,u111,u112,u113,u10,u11,u9,B8,e8,g10,g11,B9,e9,ha,hJ,v0,v1,v3,v4,v5,v6,v7,v8,v11⟩:=hJ0
      simp only [puts,Act.put,List.setIfInBounds_toArray,List.set_cons_zero,List.set_cons_succ] at ha
      subst ha
      have h5:L 5:=hw 5 (by decide)
      obtain rfl:=v5 h5
      unfold Oper.wp execOp
      go_simp
      exact hK.out _ _ ⟨u106,u107,u108,u109,u110,(.tuple #[.int .i64 S1.1,.agg (viwC S1.2.1.1 (.slice B9 S1.2.1.2.length e9)).toArray,.agg (prC S1.2.2).toArray]),u111,u112,(.agg (prC S1.2.2).toArray),u10,u11,u9,B8,e8,g10,g11,B9,e9,by simp only [puts,Act.put,List.setIfInBounds_toArray,List.set_cons_zero,List.set_cons_succ],hJ.more (by decide),fun LP=>v0 (or_of (by decide) LP),fun LP=>v1 (or_of (by decide) LP),fun LP=>v3 (or_of (by decide) LP),fun LP=>v4 (or_of (by decide) LP),fun LP=>v5 (or_of (by decide) LP),fun LP=>v6 (or_of (by decide) LP),fun LP=>v7 (or_of (by decide) LP),fun _=>rfl,fun LP=>v11 (or_of (by decide) LP)⟩
     ·intro L a' w' hLi hw hJ0 K hK
      obtain ⟨u106,u107,u108,u109,u110,u105,u111,u112,u113,u10,u11,u9,B8,e8,g10,g11,B9,e9,ha,hJ,v0,v1,v3,v4,v5,v6,v7,v8,v11⟩:=hJ0
      simp only [puts,Act.put,List.setIfInBounds_toArray,List.set_cons_zero,List.set_cons_succ] at ha
      subst ha
      unfold Oper.wp execOp
      go_simp
      have hbz:=below_new (below_self w') (.cells (viwC 0 (.slice none 0 0)).toArray 47)
      have hm:=hJ.on hbz
      exact hK.out _ _ ⟨u106,u107,u108,u109,u110,u105,u111,u112,u113,(.pointer (some ⟨w'.heap.size,0,none⟩)),u11,u9,B8,e8,w'.heap.size,g11,B9,e9,by simp only [puts,Act.put,List.setIfInBounds_toArray,List.set_cons_zero,List.set_cons_succ],{hb:=hm.hb,f2:=fun LP=>hm.f2 (or_of (by decide) LP),h2:=fun LP N4=>hm.h2 (or_of (by decide) LP) (fun q=>N4 (.inr q)),o5:=fun LP=>.inr (hm.o5 (or_of (by decide) LP)),o7:=fun LP=>.inr (hm.o7 (or_of (by decide) LP)),f9:=fun _=>rfl,b9:=fun _=>hJ.hb.size,r9:=fun _ _=>RowL.new w' 47 (viwC 0 (.slice none 0 0)),f10:=fun LP=>hm.f10 (or_of (by decide) LP),b10:=fun LP=>hm.b10 (or_of (by decide) LP),r10:=fun LP N13=>hm.r10 (or_of (by decide) LP) (fun q=>N13 (.inr q)),o12:=fun LP=>.inr (hm.o12 (or_of (by decide) LP)),p12:=fun _=>.inl rfl,r12:=fun LP=>absurd (hJ.p12 (or_of (by decide) LP)) hLi,p13:=fun LP=>.inr (hm.p13 (or_of (by decide) LP)),r13:=fun LP=>hm.r13 (or_of (by decide) LP)},fun LP=>v0 (or_of (by decide) LP),fun LP=>v1 (or_of (by decide) LP),fun LP=>v3 (or_of (by decide) LP),fun LP=>v4 (or_of (by decide) LP),fun LP=>v5 (or_of (by decide) LP),fun LP=>v6 (or_of (by decide) LP),fun LP=>v7 (or_of (by decide) LP),fun LP=>v8 (or_of (by decide) LP),fun LP=>v11 (or_of (by decide) LP)⟩
     ·intro L a' w' hLi hw hJ0 K hK
      obtain ⟨u106,u107,u108,u109,u110,u105,u111,u112,u113,u10,u11,u9,B8,e8,g10,g11,B9,e9,ha,hJ,v0,v1,v3,v4,v5,v6,v7,v8,v11⟩:=hJ0
      simp only [puts,Act.put,List.setIfInBounds_toArray,List.set_cons_zero,List.set_cons_succ] at ha
      subst ha
      unfold Oper.wp execOp
      go_simp
      have hbz:=below_new (below_self w') (.cells (prC (0,0)).toArray 49)
      have hm:=hJ.on hbz
      exact hK.out _ _ ⟨u106,u107,u108,u109,u110,u105,u111,u112,u113,u10,(.pointer (some ⟨w'.heap.size,0,none⟩)),u9,B8,e8,g10,w'.heap.size,B9,e9,by simp only [puts,Act.put,List.setIfInBounds_toArray,List.set_cons_zero,List.set_cons_succ],{hb:=hm.hb,f2:=fun LP=>hm.f2 (or_of (by decide) LP),h2:=fun LP N4=>hm.h2 (or_of (by decide) LP) (fun q=>N4 (.inr q)),o5:=fun LP=>.inr (hm.o5 (or_of (by decide) LP)),o7:=fun LP=>.inr (hm.o7 (or_of (by decide) LP)),f9:=fun LP=>hm.f9 (or_of (by decide) LP),b9:=fun LP=>hm.b9 (or_of (by decide) LP),r9:=fun LP N12=>hm.r9 (or_of (by decide) LP) (fun q=>N12 (.inr q)),f10:=fun _=>rfl,b10:=fun _=>hJ.hb.size,r10:=fun _ _=>RowL.new w' 49 (prC (0,0)),o12:=fun LP=>.inr (hm.o12 (or_of (by decide) LP)),p12:=fun LP=>.inr (hm.p12 (or_of (by decide) LP)),r12:=fun LP=>hm.r12 (or_of (by decide) LP),p13:=fun _=>.inl rfl,r13:=fun LP=>absurd (hJ.p13 (or_of (by decide) LP)) hLi},fun LP=>v0 (or_of (by decide) LP),fun LP=>v1 (or_of (by decide) LP),fun LP=>v3 (or_of (by decide) LP),fun LP=>v4 (or_of (by decide) LP),fun LP=>v5 (or_of (by decide) LP),fun LP=>v6 (or_of (by decide) LP),fun LP=>v7 (or_of (by decide) LP),fun LP=>v8 (or_of (by decide) LP),fun LP=>v11 (or_of (by decide) LP)⟩
     ·intro L a' w' hLi hw hJ0 K hK
      obtain ⟨u106,u107,u108,u109,u110,u105,u111,u112,u113,u10,u11,u9,B8,e8,g10,g11,B9,e9,ha,hJ,v0,v1,v3,v4,v5,v6,v7,v8,v11⟩:=hJ0
      simp only [puts,Act.put,List.setIfInBounds_toArray,List.set_cons_zero,List.set_cons_succ] at ha
      subst ha
      have h6:L 6:=hw 6 (by decide)
      obtain rfl:=v6 h6
      unfold Oper.wp execOp
      go_simp
      exact hK.out _ _ ⟨u106,u107,u108,u109,u110,u105,(.int .i64 S1.1),u112,u113,u10,u11,(.int .i64 S1.1),B8,e8,g10,g11,B9,e9,by simp only [puts,Act.put,List.setIfInBounds_toArray,List.set_cons_zero,List.set_cons_succ],hJ.more (by decide),fun LP=>v0 (or_of (by decide) LP),fun LP=>v1 (or_of (by decide) LP),fun LP=>v3 (or_of (by decide) LP),fun LP=>v4 (or_of (by decide) LP),fun LP=>v5 (or_of (by decide) LP),fun LP=>v6 (or_of (by decide) LP),fun LP=>v7 (or_of (by decide) LP),fun LP=>v8 (or_of (by decide) LP),fun _=>rfl⟩
     ·intro L a' w' hLi hw hJ0 K hK
      obtain ⟨u106,u107,u108,u109,u110,u105,u111,u112,u113,u10,u11,u9,B8,e8,g10,g11,B9,e9,ha,hJ,v0,v1,v3,v4,v5,v6,v7,v8,v11⟩:=hJ0
      simp only [puts,Act.put,List.setIfInBounds_toArray,List.set_cons_zero,List.set_cons_succ] at ha
      subst ha
      have h9:L 9:=hw 9 (by decide)
      have h7:L 7:=hw 7 (by decide)
      have h4:L 4:=hw 4 (by decide)
      obtain rfl:=hJ.f9 h9
      obtain rfl:=v7 h7
      have hrz:=hJ.r9 h9 hLi
      have hbg:=hJ.b9 h9
      refine wp_storeC 47 (.tmp 10) (.tmp 112) rfl 2 viw_size g10 0 47 rfl (viwC 0 (.slice none 0 0)) (viwC S1.2.1.1 (.slice B9 S1.2.1.2.length e9)) rfl hrz rfl (by exact Nat.le_refl _) (viwC_one _ _ _ _) ?_
      intro w'' hr hg hs
      rw [splice_all (viwC 0 (.slice none 0 0)) (viwC S1.2.1.1 (.slice B9 S1.2.1.2.length e9)) rfl] at hr
      simp only [Act.put]
      exact hK.out _ _ ⟨u106,u107,u108,u109,u110,u105,u111,(.agg (viwC S1.2.1.1 (.slice B9 S1.2.1.2.length e9)).toArray),u113,(.pointer (some ⟨g10,0,none⟩)),u11,u9,B8,e8,g10,g11,B9,e9,by simp only [puts,Act.put,List.setIfInBounds_toArray,List.set_cons_zero,List.set_cons_succ],{hb:=hJ.hb.grown hg hJ.hb.size (pu4 (by omega)),f2:=fun LP=>hJ.f2 (or_of (by decide) LP),h2:=fun _ N4=>absurd (.inr h4) N4,o5:=fun LP=>.inr (hJ.o5 (or_of (by decide) LP)),o7:=fun LP=>.inr (hJ.o7 (or_of (by decide) LP)),f9:=fun LP=>hJ.f9 (or_of (by decide) LP),b9:=fun LP=>hJ.b9 (or_of (by decide) LP),r9:=fun LP N12=>absurd (.inl rfl) N12,f10:=fun LP=>hJ.f10 (or_of (by decide) LP),b10:=fun LP=>hJ.b10 (or_of (by decide) LP),r10:=fun LP N13=>(hJ.r10 (or_of (by decide) LP) (fun q=>N13 (.inr q))).grown hg (fun e=>rowl_neV (hJ.r10 (or_of (by decide) LP) (fun q=>N13 (.inr q))) hrz (by decide) (Option.some.inj e)),o12:=fun _=>.inr h4,p12:=fun _=>.inr h9,r12:=fun _=>hr,p13:=fun LP=>.inr (hJ.p13 (or_of (by decide) LP)),r13:=fun LP=>(hJ.r13 (or_of (by decide) LP)).grown hg (fun e=>rowl_neV (hJ.r13 (or_of (by decide) LP)) hrz (by decide) (Option.some.inj e))},fun LP=>v0 (or_of (by decide) LP),fun LP=>v1 (or_of (by decide) LP),fun LP=>v3 (or_of (by decide) LP),fun LP=>v4 (or_of (by decide) LP),fun LP=>v5 (or_of (by decide) LP),fun LP=>v6 (or_of (by decide) LP),fun LP=>v7 (or_of (by decide) LP),fun LP=>v8 (or_of (by decide) LP),fun LP=>v11 (or_of (by decide) LP)⟩
     ·intro L a' w' hLi hw hJ0 K hK
      obtain ⟨u106,u107,u108,u109,u110,u105,u111,u112,u113,u10,u11,u9,B8,e8,g10,g11,B9,e9,ha,hJ,v0,v1,v3,v4,v5,v6,v7,v8,v11⟩:=hJ0
      simp only [puts,Act.put,List.setIfInBounds_toArray,List.set_cons_zero,List.set_cons_succ] at ha
      subst ha
      have h10:L 10:=hw 10 (by decide)
      have h8:L 8:=hw 8 (by decide)
      have h12:L 12:=hw 12 (by decide)
      have h4:L 4:=hw 4 (by decide)
      obtain rfl:=hJ.f10 h10
      obtain rfl:=v8 h8
      have hrz:=hJ.r10 h10 hLi
      have hbg:=hJ.b10 h10
      refine wp_storeC 49 (.tmp 11) (.tmp 113) rfl 2 plc_size g11 0 49 rfl (prC (0,0)) (prC S1.2.2) rfl hrz rfl (by exact Nat.le_refl _) (prC_one _) ?_
      intro w'' hr hg hs
      rw [splice_all (prC (0,0)) (prC S1.2.2) rfl] at hr
      simp only [Act.put]
      exact hK.out _ _ ⟨u106,u107,u108,u109,u110,u105,u111,u112,(.agg (prC S1.2.2).toArray),u10,(.pointer (some ⟨g11,0,none⟩)),u9,B8,e8,g10,g11,B9,e9,by simp only [puts,Act.put,List.setIfInBounds_toArray,List.set_cons_zero,List.set_cons_succ],{hb:=hJ.hb.grown hg hJ.hb.size (pu4 (by omega)),f2:=fun LP=>hJ.f2 (or_of (by decide) LP),h2:=fun _ N4=>absurd (.inr h4) N4,o5:=fun LP=>.inr (hJ.o5 (or_of (by decide) LP)),o7:=fun LP=>.inr (hJ.o7 (or_of (by decide) LP)),f9:=fun LP=>hJ.f9 (or_of (by decide) LP),b9:=fun LP=>hJ.b9 (or_of (by decide) LP),r9:=fun LP N12=>absurd (.inr h12) N12,f10:=fun LP=>hJ.f10 (or_of (by decide) LP),b10:=fun LP=>hJ.b10 (or_of (by decide) LP),r10:=fun LP N13=>absurd (.inl rfl) N13,o12:=fun LP=>.inr (hJ.o12 (or_of (by decide) LP)),p12:=fun LP=>.inr (hJ.p12 (or_of (by decide) LP)),r12:=fun LP=>(hJ.r12 (or_of (by decide) LP)).grown hg (fun e=>rowl_neV (hJ.r12 (or_of (by decide) LP)) hrz (by decide) (Option.some.inj e)),p13:=fun _=>.inr h10,r13:=fun _=>hr},fun LP=>v0 (or_of (by decide) LP),fun LP=>v1 (or_of (by decide) LP),fun LP=>v3 (or_of (by decide) LP),fun LP=>v4 (or_of (by decide) LP),fun LP=>v5 (or_of (by decide) LP),fun LP=>v6 (or_of (by decide) LP),fun LP=>v7 (or_of (by decide) LP),fun LP=>v8 (or_of (by decide) LP),fun LP=>v11 (or_of (by decide) LP)⟩
    ·intro L a' w' hall hJ0
     obtain ⟨u106,u107,u108,u109,u110,u105,u111,u112,u113,u10,u11,u9,B8,e8,g10,g11,B9,e9,ha,hJ,v0,v1,v3,v4,v5,v6,v7,v8,v11⟩:=hJ0
     simp only [puts,Act.put,List.setIfInBounds_toArray,List.set_cons_zero,List.set_cons_succ] at ha
     subst ha
     have hall':∀k,k < 14→L k:=hall
     obtain rfl:=v11 (hall' 11 (by omega))
     obtain rfl:=hJ.f9 (hall' 9 (by omega))
     obtain rfl:=hJ.f10 (hall' 10 (by omega))
     have hr13:=hJ.r13 (hall' 13 (by omega))
     have hb10:=hJ.b10 (hall' 10 (by omega))
     have hbJ:=hJ.hb
     go_wp2_with fail
     go_meet
     case rel=>exact ⟨g10,g11,rfl,rfl,rfl,hb10,hr13,hbJ⟩
   case rest =>
   rename World=>wa
   obtain ⟨gv1,gp1,rfl,rfl,rfl,-,-,hbx⟩:=hcut
   have hxa:=hbx.size
   have HR7a:=hide (HR7r.out.on hbx)
   have HR3a:=hide (HR3r.out.on hbx)
   have HUa:=hide (und_at HUr.out hbx (by omega))
   have HLa:=hide (und_at HLr.out hbx (by omega))
   have HXa:=hide (und_at HXr.out hbx (by omega))
   have HLXa:=hide (und_at HLX.out hbx (by omega))
   have HBa:=hide (HB.out.trans (hbx.mono HB.out.size))
   clear hbx HR7r HR3r HUr HLr HXr HLX HB
   go_upto_region 13 with fail
   go_cut [12,13,14] from 114 to 122 (fun vk vv vp wx=>∃(gv gp:Nat),vk=.int .i64 S2.1∧vv=.pointer (some ⟨gv,0,none⟩)∧vp=.pointer (some ⟨gp,0,none⟩)∧wa.heap.size≤gp∧RowL wx gp 49 (prC S2.2.2)∧Below wa.heap.size wa wx)
   case first =>
    refine wp_region_L (fun a0 L a' w'=>∃(u115 u116 u117 u118 u119 u114 u120 u121 u122 u13 u14 u12:Value) (B8:Option Addr) (e8 g10 g11:Nat) (B9:Option Addr) (e9:Nat),a'=puts a0 [(115,u115),(116,u116),(117,u117),(118,u118),(119,u119),(114,u114),(120,u120),(121,u121),(122,u122),(13,u13),(14,u14),(12,u12)]∧RsF wa L u117 u13 u14 B8 e8 g10 g11 VS S2 B9 e9 w'∧(L 0→u115=.agg (stkC g (.slice (some ⟨bU,oU,none⟩) nU cU) (.slice AL nL cL)).toArray)∧(L 1→u116=.agg (stkC g (.slice (some ⟨bU,oU,none⟩) nU cU) (.slice AL nL cL)).toArray)∧(L 3→u118=.string ⟨ot.toArray⟩)∧(L 4→u119=(.tuple #[.int .i64 S2.1,.agg (viwC S2.2.1.1 (.slice B9 S2.2.1.2.length e9)).toArray,.agg (prC S2.2.2).toArray]))∧(L 5→u114=(.tuple #[.int .i64 S2.1,.agg (viwC S2.2.1.1 (.slice B9 S2.2.1.2.length e9)).toArray,.agg (prC S2.2.2).toArray]))∧(L 6→u120=.int .i64 S2.1)∧(L 7→u121=.agg (viwC S2.2.1.1 (.slice B9 S2.2.1.2.length e9)).toArray)∧(L 8→u122=.agg (prC S2.2.2).toArray)∧(L 11→u12=.int .i64 S2.1)) (by kernel_rfl) (by kernel_rfl) (by kernel_rfl) ?_ ?_ ?_
    ·exact fun f hf=>⟨f 115,f 116,f 117,f 118,f 119,f 114,f 120,f 121,f 122,f 13,f 14,f 12,none,0,0,0,none,0,(hf [115,116,117,118,119,114,120,121,122,13,14,12]).symm,RsF.start (below_drew (below_self wa)),fun h=>h.elim,fun h=>h.elim,fun h=>h.elim,fun h=>h.elim,fun h=>h.elim,fun h=>h.elim,fun h=>h.elim,fun h=>h.elim,fun h=>h.elim⟩
    ·simp only [ForOps,Nat.reduceAdd]
     refine ⟨?_,?_,?_,?_,?_,?_,?_,?_,?_,?_,?_,?_,?_,?_,trivial⟩
     ·intro L a' w' hLi hw hJ0 K hK
      obtain ⟨u115,u116,u117,u118,u119,u114,u120,u121,u122,u13,u14,u12,B8,e8,g10,g11,B9,e9,ha,hJ,v0,v1,v3,v4,v5,v6,v7,v8,v11⟩:=hJ0
      simp only [puts,Act.put,List.setIfInBounds_toArray,List.set_cons_zero,List.set_cons_succ] at ha
      subst ha
      have R7w:=HR3a.out.on hJ.hb
      refine wp_val (v:=.agg (stkC g (.slice (some ⟨bU,oU,none⟩) nU cU) (.slice AL nL cL)).toArray) (w':=w') ?_ ?_
      ·refine execOp_load (x:=.tmp 3) (k:=6) (g:=w.heap.size) (off:=0) (cs:=(stkC g (.slice (some ⟨bU,oU,none⟩) nU cU) (.slice AL nL cL))) ?_ stk_agg stk_size ?_ (fun j v hv=>by rw [Nat.zero_add];exact (R7w.cell j).trans hv) rfl <;> rfl
      simp only [Act.put,pu1,pu2,pu3]
      exact hK.out _ _ ⟨(.agg (stkC g (.slice (some ⟨bU,oU,none⟩) nU cU) (.slice AL nL cL)).toArray),u116,u117,u118,u119,u114,u120,u121,u122,u13,u14,u12,B8,e8,g10,g11,B9,e9,by simp only [puts,Act.put,List.setIfInBounds_toArray,List.set_cons_zero,List.set_cons_succ],hJ.more (by decide),fun _=>rfl,fun LP=>v1 (or_of (by decide) LP),fun LP=>v3 (or_of (by decide) LP),fun LP=>v4 (or_of (by decide) LP),fun LP=>v5 (or_of (by decide) LP),fun LP=>v6 (or_of (by decide) LP),fun LP=>v7 (or_of (by decide) LP),fun LP=>v8 (or_of (by decide) LP),fun LP=>v11 (or_of (by decide) LP)⟩
     ·intro L a' w' hLi hw hJ0 K hK
      obtain ⟨u115,u116,u117,u118,u119,u114,u120,u121,u122,u13,u14,u12,B8,e8,g10,g11,B9,e9,ha,hJ,v0,v1,v3,v4,v5,v6,v7,v8,v11⟩:=hJ0
      simp only [puts,Act.put,List.setIfInBounds_toArray,List.set_cons_zero,List.set_cons_succ] at ha
      subst ha
      have R7w:=HR3a.out.on hJ.hb
      refine wp_val (v:=.agg (stkC g (.slice (some ⟨bU,oU,none⟩) nU cU) (.slice AL nL cL)).toArray) (w':=w') ?_ ?_
      ·refine execOp_load (x:=.tmp 3) (k:=6) (g:=w.heap.size) (off:=0) (cs:=(stkC g (.slice (some ⟨bU,oU,none⟩) nU cU) (.slice AL nL cL))) ?_ stk_agg stk_size ?_ (fun j v hv=>by rw [Nat.zero_add];exact (R7w.cell j).trans hv) rfl <;> rfl
      simp only [Act.put,pu1,pu2,pu3]
      exact hK.out _ _ ⟨u115,(.agg (stkC g (.slice (some ⟨bU,oU,none⟩) nU cU) (.slice AL nL cL)).toArray),u117,u118,u119,u114,u120,u121,u122,u13,u14,u12,B8,e8,g10,g11,B9,e9,by simp only [puts,Act.put,List.setIfInBounds_toArray,List.set_cons_zero,List.set_cons_succ],hJ.more (by decide),fun LP=>v0 (or_of (by decide) LP),fun _=>rfl,fun LP=>v3 (or_of (by decide) LP),fun LP=>v4 (or_of (by decide) LP),fun LP=>v5 (or_of (by decide) LP),fun LP=>v6 (or_of (by decide) LP),fun LP=>v7 (or_of (by decide) LP),fun LP=>v8 (or_of (by decide) LP),fun LP=>v11 (or_of (by decide) LP)⟩
     ·intro L a' w' hLi hw hJ0 K hK
      obtain ⟨u115,u116,u117,u118,u119,u114,u120,u121,u122,u13,u14,u12,B8,e8,g10,g11,B9,e9,ha,hJ,v0,v1,v3,v4,v5,v6,v7,v8,v11⟩:=hJ0
      simp only [puts,Act.put,List.setIfInBounds_toArray,List.set_cons_zero,List.set_cons_succ] at ha
      subst ha
      have h1:L 1:=hw 1 (by decide)
      obtain rfl:=v1 h1
      go_simp
      go_at_call 16
      refine (VRoot_e (up:=up) HVS.out w' (HUa.out.under hJ.hb (by omega)) (HLa.out.under hJ.hb (by omega)) (by have:=hJ.hb.size;omega) HF.out HFS.out.toX).mono ?_
      rintro e w'' ⟨B8',e8',rfl,h2',hbz⟩
      have hm:=hJ.on hbz
      dsimp only
      exact hK.out _ _ ⟨u115,(.agg (stkC g (.slice (some ⟨bU,oU,none⟩) nU cU) (.slice AL nL cL)).toArray),(.agg (viwC VS.1 (.slice B8' VS.2.length e8')).toArray),u118,u119,u114,u120,u121,u122,u13,u14,u12,B8',e8',g10,g11,B9,e9,by simp only [puts,Act.put,List.setIfInBounds_toArray,List.set_cons_zero,List.set_cons_succ],{hb:=hm.hb,f2:=fun _=>rfl,h2:=fun _ _=>fr_under h2',o5:=fun LP=>.inr (hm.o5 (or_of (by decide) LP)),o7:=fun LP=>.inr (hm.o7 (or_of (by decide) LP)),f9:=fun LP=>hm.f9 (or_of (by decide) LP),b9:=fun LP=>hm.b9 (or_of (by decide) LP),r9:=fun LP N12=>hm.r9 (or_of (by decide) LP) (fun q=>N12 (.inr q)),f10:=fun LP=>hm.f10 (or_of (by decide) LP),b10:=fun LP=>hm.b10 (or_of (by decide) LP),r10:=fun LP N13=>hm.r10 (or_of (by decide) LP) (fun q=>N13 (.inr q)),o12:=fun LP=>.inr (hm.o12 (or_of (by decide) LP)),p12:=fun LP=>.inr (hm.p12 (or_of (by decide) LP)),r12:=fun LP=>hm.r12 (or_of (by decide) LP),p13:=fun LP=>.inr (hm.p13 (or_of (by decide) LP)),r13:=fun LP=>hm.r13 (or_of (by decide) LP)},fun LP=>v0 (or_of (by decide) LP),fun LP=>v1 (or_of (by decide) LP),fun LP=>v3 (or_of (by decide) LP),fun LP=>v4 (or_of (by decide) LP),fun LP=>v5 (or_of (by decide) LP),fun LP=>v6 (or_of (by decide) LP),fun LP=>v7 (or_of (by decide) LP),fun LP=>v8 (or_of (by decide) LP),fun LP=>v11 (or_of (by decide) LP)⟩
     ·intro L a' w' hLi hw hJ0 K hK
      obtain ⟨u115,u116,u117,u118,u119,u114,u120,u121,u122,u13,u14,u12,B8,e8,g10,g11,B9,e9,ha,hJ,v0,v1,v3,v4,v5,v6,v7,v8,v11⟩:=hJ0
      simp only [puts,Act.put,List.setIfInBounds_toArray,List.set_cons_zero,List.set_cons_succ] at ha
      subst ha
      unfold Oper.wp execOp
      go_simp
      exact hK.out _ _ ⟨u115,u116,u117,(.string ⟨ot.toArray⟩),u119,u114,u120,u121,u122,u13,u14,u12,B8,e8,g10,g11,B9,e9,by simp only [puts,Act.put,List.setIfInBounds_toArray,List.set_cons_zero,List.set_cons_succ],hJ.more (by decide),fun LP=>v0 (or_of (by decide) LP),fun LP=>v1 (or_of (by decide) LP),fun _=>rfl,fun LP=>v4 (or_of (by decide) LP),fun LP=>v5 (or_of (by decide) LP),fun LP=>v6 (or_of (by decide) LP),fun LP=>v7 (or_of (by decide) LP),fun LP=>v8 (or_of (by decide) LP),fun LP=>v11 (or_of (by decide) LP)⟩
     ·intro L a' w' hLi hw hJ0 K hK
      obtain ⟨u115,u116,u117,u118,u119,u114,u120,u121,u122,u13,u14,u12,B8,e8,g10,g11,B9,e9,ha,hJ,v0,v1,v3,v4,v5,v6,v7,v8,v11⟩:=hJ0
      simp only [puts,Act.put,List.setIfInBounds_toArray,List.set_cons_zero,List.set_cons_succ] at ha
      subst ha
      have h0:L 0:=hw 0 (by decide)
      have h2:L 2:=hw 2 (by decide)
      have h3:L 3:=hw 3 (by decide)
      obtain rfl:=v0 h0
      obtain rfl:=hJ.f2 h2
      obtain rfl:=v3 h3
      have hh2:=hJ.h2 h2 hLi
      go_simp
      go_at_call 15
      refine (VStep_any (up:=up) (u:=VS.1) (vl:=VS.2) HS2.out w' (HUa.out.under hJ.hb (by omega)) (HLa.out.under hJ.hb (by omega)) (by have:=hJ.hb.size;omega) HF.out HFS.out.toX hh2 (Nat.le_refl _) hVl').mono ?_
      rintro e w'' ⟨B9',e9',rfl,-,hbz⟩
      have hm:=hJ.on hbz
      dsimp only
      exact hK.out _ _ ⟨(.agg (stkC g (.slice (some ⟨bU,oU,none⟩) nU cU) (.slice AL nL cL)).toArray),u116,(.agg (viwC VS.1 (.slice B8 VS.2.length e8)).toArray),(.string ⟨ot.toArray⟩),(.tuple #[.int .i64 S2.1,.agg (viwC S2.2.1.1 (.slice B9' S2.2.1.2.length e9')).toArray,.agg (prC S2.2.2).toArray]),u114,u120,u121,u122,u13,u14,u12,B8,e8,g10,g11,B9',e9',by simp only [puts,Act.put,List.setIfInBounds_toArray,List.set_cons_zero,List.set_cons_succ],{hb:=hm.hb,f2:=fun LP=>hm.f2 (or_of (by decide) LP),h2:=fun LP N4=>absurd (.inl rfl) N4,o5:=fun _=>.inl rfl,o7:=fun _=>.inl rfl,f9:=fun LP=>hm.f9 (or_of (by decide) LP),b9:=fun LP=>hm.b9 (or_of (by decide) LP),r9:=fun LP N12=>hm.r9 (or_of (by decide) LP) (fun q=>N12 (.inr q)),f10:=fun LP=>hm.f10 (or_of (by decide) LP),b10:=fun LP=>hm.b10 (or_of (by decide) LP),r10:=fun LP N13=>hm.r10 (or_of (by decide) LP) (fun q=>N13 (.inr q)),o12:=fun _=>.inl rfl,p12:=fun LP=>.inr (hm.p12 (or_of (by decide) LP)),r12:=fun LP=>absurd (hJ.o12 (or_of (by decide) LP)) hLi,p13:=fun LP=>.inr (hm.p13 (or_of (by decide) LP)),r13:=fun LP=>hm.r13 (or_of (by decide) LP)},fun LP=>v0 (or_of (by decide) LP),fun LP=>v1 (or_of (by decide) LP),fun LP=>v3 (or_of (by decide) LP),fun _=>rfl,fun LP=>absurd (hJ.o5 (or_of (by decide) LP)) hLi,fun LP=>v6 (or_of (by decide) LP),fun LP=>absurd (hJ.o7 (or_of (by decide) LP)) hLi,fun LP=>v8 (or_of (by decide) LP),fun LP=>v11 (or_of (by decide) LP)⟩
     ·intro L a' w' hLi hw hJ0 K hK
      obtain ⟨u115,u116,u117,u118,u119,u114,u120,u121,u122,u13,u14,u12,B8,e8,g10,g11,B9,e9,ha,hJ,v0,v1,v3,v4,v5,v6,v7,v8,v11⟩:=hJ0
      simp only [puts,Act.put,List.setIfInBounds_toArray,List.set_cons_zero,List.set_cons_succ] at ha
      subst ha
      have h4:L 4:=hw 4 (by decide)
      obtain rfl:=v4 h4
      unfold Oper.wp execOp
      go_simp
      exact hK.out _ _ ⟨u115,u116,u117,u118,(.tuple #[.int .i64 S2.1,.agg (viwC S2.2.1.1 (.slice B9 S2.2.1.2.length e9)).toArray,.agg (prC S2.2.2).toArray]),(.tuple #[.int .i64 S2.1,.agg (viwC S2.2.1.1 (.slice B9 S2.2.1.2.length e9)).toArray,.agg (prC S2.2.2).toArray]),u120,u121,u122,u13,u14,u12,B8,e8,g10,g11,B9,e9,by simp only [puts,Act.put,List.setIfInBounds_toArray,List.set_cons_zero,List.set_cons_succ],{hb:=hJ.hb,f2:=fun LP=>hJ.f2 (or_of (by decide) LP),h2:=fun LP N4=>hJ.h2 (or_of (by decide) LP) (fun q=>N4 (.inr q)),o5:=fun _=>.inr h4,o7:=fun LP=>.inr (hJ.o7 (or_of (by decide) LP)),f9:=fun LP=>hJ.f9 (or_of (by decide) LP),b9:=fun LP=>hJ.b9 (or_of (by decide) LP),r9:=fun LP N12=>hJ.r9 (or_of (by decide) LP) (fun q=>N12 (.inr q)),f10:=fun LP=>hJ.f10 (or_of (by decide) LP),b10:=fun LP=>hJ.b10 (or_of (by decide) LP),r10:=fun LP N13=>hJ.r10 (or_of (by decide) LP) (fun q=>N13 (.inr q)),o12:=fun LP=>.inr (hJ.o12 (or_of (by decide) LP)),p12:=fun LP=>.inr (hJ.p12 (or_of (by decide) LP)),r12:=fun LP=>hJ.r12 (or_of (by decide) LP),p13:=fun LP=>.inr (hJ.p13 (or_of (by decide) LP)),r13:=fun LP=>hJ.r13 (or_of (by decide) LP)},fun LP=>v0 (or_of (by decide) LP),fun LP=>v1 (or_of (by decide) LP),fun LP=>v3 (or_of (by decide) LP),fun LP=>v4 (or_of (by decide) LP),fun _=>rfl,fun LP=>v6 (or_of (by decide) LP),fun LP=>v7 (or_of (by decide) LP),fun LP=>v8 (or_of (by decide) LP),fun LP=>v11 (or_of (by decide) LP)⟩
     ·intro L a' w' hLi hw hJ0 K hK
      obtain ⟨u115,u116,u117,u118,u119,u114,u120,u121,u122,u13,u14,u12,B8,e8,g10,g11,B9,e9,ha,hJ,v0,v1,v3,v4,v5,v6,v7,v8,v11⟩:=hJ0
      simp only [puts,Act.put,List.setIfInBounds_toArray,List.set_cons_zero,List.set_cons_succ] at ha
      subst ha
      have h5:L 5:=hw 5 (by decide)
      obtain rfl:=v5 h5
      unfold Oper.wp execOp
      go_simp
      exact hK.out _ _ ⟨u115,u116,u117,u118,u119,(.tuple #[.int .i64 S2.1,.agg (viwC S2.2.1.1 (.slice B9 S2.2.1.2.length e9)).toArray,.agg (prC S2.2.2).toArray]),(.int .i64 S2.1),u121,u122,u13,u14,u12,B8,e8,g10,g11,B9,e9,by simp only [puts,Act.put,List.setIfInBounds_toArray,List.set_cons_zero,List.set_cons_succ],hJ.more (by decide),fun LP=>v0 (or_of (by decide) LP),fun LP=>v1 (or_of (by decide) LP),fun LP=>v3 (or_of (by decide) LP),fun LP=>v4 (or_of (by decide) LP),fun LP=>v5 (or_of (by decide) LP),fun _=>rfl,fun LP=>v7 (or_of (by decide) LP),fun LP=>v8 (or_of (by decide) LP),fun LP=>v11 (or_of (by decide) LP)⟩
     ·intro L a' w' hLi hw hJ0 K hK
      obtain ⟨u115,u116,u117,u118,u119,u114,u120,u121,u122,u13,u14,u12,B8,e8,g10,g11,B9,e9,ha,hJ,v0,v1,v3,v4,v5,v6,v7,v8,v11⟩:=hJ0
      simp only [puts,Act.put,List.setIfInBounds_toArray,List.set_cons_zero,List.set_cons_succ] at ha
      subst ha
      have h5:L 5:=hw 5 (by decide)
      obtain rfl:=v5 h5
      unfold Oper.wp execOp
      go_simp
      exact hK.out _ _ ⟨u115,u116,u117,u118,u119,(.tuple #[.int .i64 S2.1,.agg (viwC S2.2.1.1 (.slice B9 S2.2.1.2.length e9)).toArray,.agg (prC S2.2.2).toArray]),u120,(.agg (viwC S2.2.1.1 (.slice B9 S2.2.1.2.length e9)).toArray),u122,u13,u14,u12,B8,e8,g10,g11,B9,e9,by simp only [puts,Act.put,List.setIfInBounds_toArray,List.set_cons_zero,List.set_cons_succ],{hb:=hJ.hb,f2:=fun LP=>hJ.f2 (or_of (by decide) LP),h2:=fun LP N4=>hJ.h2 (or_of (by decide) LP) (fun q=>N4 (.inr q)),o5:=fun LP=>.inr (hJ.o5 (or_of (by decide) LP)),o7:=fun _=>.inr (hJ.o5 h5),f9:=fun LP=>hJ.f9 (or_of (by decide) LP),b9:=fun LP=>hJ.b9 (or_of (by decide) LP),r9:=fun LP N12=>hJ.r9 (or_of (by decide) LP) (fun q=>N12 (.inr q)),f10:=fun LP=>hJ.f10 (or_of (by decide) LP),b10:=fun LP=>hJ.b10 (or_of (by decide) LP),r10:=fun LP N13=>hJ.r10 (or_of (by decide) LP) (fun q=>N13 (.inr q)),o12:=fun LP=>.inr (hJ.o12 (or_of (by decide) LP)),p12:=fun LP=>.inr (hJ.p12 (or_of (by decide) LP)),r12:=fun LP=>hJ.r12 (or_of (by decide) LP),p13:=fun LP=>.inr (hJ.p13 (or_of (by decide) LP)),r13:=fun LP=>hJ.r13 (or_of (by decide) LP)},fun LP=>v0 (or_of (by decide) LP),fun LP=>v1 (or_of (by decide) LP),fun LP=>v3 (or_of (by decide) LP),fun LP=>v4 (or_of (by decide) LP),fun LP=>v5 (or_of (by decide) LP),fun LP=>v6 (or_of (by decide) LP),fun _=>rfl,fun LP=>v8 (or_of (by decide) LP),fun LP=>v11 (or_of (by decide) LP)⟩
     ·intro L a' w' hLi hw hJ0 K hK
      obtain ⟨u115,u116,u117,u118,u119,u114,u120,u121,u122,u13,u14,u12,B8,e8,g10,g11,B9,e9,ha,hJ,v0,v1,v3,v4,v5,v6,v7,v8,v11⟩:=hJ0
      simp only [puts,Act.put,List.setIfInBounds_toArray,List.set_cons_zero,List.set_cons_succ] at ha
      subst ha
      have h5:L 5:=hw 5 (by decide)
      obtain rfl:=v5 h5
      unfold Oper.wp execOp
      go_simp
      exact hK.out _ _ ⟨u115,u116,u117,u118,u119,(.tuple #[.int .i64 S2.1,.agg (viwC S2.2.1.1 (.slice B9 S2.2.1.2.length e9)).toArray,.agg (prC S2.2.2).toArray]),u120,u121,(.agg (prC S2.2.2).toArray),u13,u14,u12,B8,e8,g10,g11,B9,e9,by simp only [puts,Act.put,List.setIfInBounds_toArray,List.set_cons_zero,List.set_cons_succ],hJ.more (by decide),fun LP=>v0 (or_of (by decide) LP),fun LP=>v1 (or_of (by decide) LP),fun LP=>v3 (or_of (by decide) LP),fun LP=>v4 (or_of (by decide) LP),fun LP=>v5 (or_of (by decide) LP),fun LP=>v6 (or_of (by decide) LP),fun LP=>v7 (or_of (by decide) LP),fun _=>rfl,fun LP=>v11 (or_of (by decide) LP)⟩
     ·intro L a' w' hLi hw hJ0 K hK
      obtain ⟨u115,u116,u117,u118,u119,u114,u120,u121,u122,u13,u14,u12,B8,e8,g10,g11,B9,e9,ha,hJ,v0,v1,v3,v4,v5,v6,v7,v8,v11⟩:=hJ0
      simp only [puts,Act.put,List.setIfInBounds_toArray,List.set_cons_zero,List.set_cons_succ] at ha
      subst ha
      unfold Oper.wp execOp
      go_simp
      have hbz:=below_new (below_self w') (.cells (viwC 0 (.slice none 0 0)).toArray 47)
      have hm:=hJ.on hbz
      exact hK.out _ _ ⟨u115,u116,u117,u118,u119,u114,u120,u121,u122,(.pointer (some ⟨w'.heap.size,0,none⟩)),u14,u12,B8,e8,w'.heap.size,g11,B9,e9,by simp only [puts,Act.put,List.setIfInBounds_toArray,List.set_cons_zero,List.set_cons_succ],{hb:=hm.hb,f2:=fun LP=>hm.f2 (or_of (by decide) LP),h2:=fun LP N4=>hm.h2 (or_of (by decide) LP) (fun q=>N4 (.inr q)),o5:=fun LP=>.inr (hm.o5 (or_of (by decide) LP)),o7:=fun LP=>.inr (hm.o7 (or_of (by decide) LP)),f9:=fun _=>rfl,b9:=fun _=>hJ.hb.size,r9:=fun _ _=>RowL.new w' 47 (viwC 0 (.slice none 0 0)),f10:=fun LP=>hm.f10 (or_of (by decide) LP),b10:=fun LP=>hm.b10 (or_of (by decide) LP),r10:=fun LP N13=>hm.r10 (or_of (by decide) LP) (fun q=>N13 (.inr q)),o12:=fun LP=>.inr (hm.o12 (or_of (by decide) LP)),p12:=fun _=>.inl rfl,r12:=fun LP=>absurd (hJ.p12 (or_of (by decide) LP)) hLi,p13:=fun LP=>.inr (hm.p13 (or_of (by decide) LP)),r13:=fun LP=>hm.r13 (or_of (by decide) LP)},fun LP=>v0 (or_of (by decide) LP),fun LP=>v1 (or_of (by decide) LP),fun LP=>v3 (or_of (by decide) LP),fun LP=>v4 (or_of (by decide) LP),fun LP=>v5 (or_of (by decide) LP),fun LP=>v6 (or_of (by decide) LP),fun LP=>v7 (or_of (by decide) LP),fun LP=>v8 (or_of (by decide) LP),fun LP=>v11 (or_of (by decide) LP)⟩
     ·intro L a' w' hLi hw hJ0 K hK
      obtain ⟨u115,u116,u117,u118,u119,u114,u120,u121,u122,u13,u14,u12,B8,e8,g10,g11,B9,e9,ha,hJ,v0,v1,v3,v4,v5,v6,v7,v8,v11⟩:=hJ0
      simp only [puts,Act.put,List.setIfInBounds_toArray,List.set_cons_zero,List.set_cons_succ] at ha
      subst ha
      unfold Oper.wp execOp
      go_simp
      have hbz:=below_new (below_self w') (.cells (prC (0,0)).toArray 49)
      have hm:=hJ.on hbz
      exact hK.out _ _ ⟨u115,u116,u117,u118,u119,u114,u120,u121,u122,u13,(.pointer (some ⟨w'.heap.size,0,none⟩)),u12,B8,e8,g10,w'.heap.size,B9,e9,by simp only [puts,Act.put,List.setIfInBounds_toArray,List.set_cons_zero,List.set_cons_succ],{hb:=hm.hb,f2:=fun LP=>hm.f2 (or_of (by decide) LP),h2:=fun LP N4=>hm.h2 (or_of (by decide) LP) (fun q=>N4 (.inr q)),o5:=fun LP=>.inr (hm.o5 (or_of (by decide) LP)),o7:=fun LP=>.inr (hm.o7 (or_of (by decide) LP)),f9:=fun LP=>hm.f9 (or_of (by decide) LP),b9:=fun LP=>hm.b9 (or_of (by decide) LP),r9:=fun LP N12=>hm.r9 (or_of (by decide) LP) (fun q=>N12 (.inr q)),f10:=fun _=>rfl,b10:=fun _=>hJ.hb.size,r10:=fun _ _=>RowL.new w' 49 (prC (0,0)),o12:=fun LP=>.inr (hm.o12 (or_of (by decide) LP)),p12:=fun LP=>.inr (hm.p12 (or_of (by decide) LP)),r12:=fun LP=>hm.r12 (or_of (by decide) LP),p13:=fun _=>.inl rfl,r13:=fun LP=>absurd (hJ.p13 (or_of (by decide) LP)) hLi},fun LP=>v0 (or_of (by decide) LP),fun LP=>v1 (or_of (by decide) LP),fun LP=>v3 (or_of (by decide) LP),fun LP=>v4 (or_of (by decide) LP),fun LP=>v5 (or_of (by decide) LP),fun LP=>v6 (or_of (by decide) LP),fun LP=>v7 (or_of (by decide) LP),fun LP=>v8 (or_of (by decide) LP),fun LP=>v11 (or_of (by decide) LP)⟩
     ·intro L a' w' hLi hw hJ0 K hK
      obtain ⟨u115,u116,u117,u118,u119,u114,u120,u121,u122,u13,u14,u12,B8,e8,g10,g11,B9,e9,ha,hJ,v0,v1,v3,v4,v5,v6,v7,v8,v11⟩:=hJ0
      simp only [puts,Act.put,List.setIfInBounds_toArray,List.set_cons_zero,List.set_cons_succ] at ha
      subst ha
      have h6:L 6:=hw 6 (by decide)
      obtain rfl:=v6 h6
      unfold Oper.wp execOp
      go_simp
      exact hK.out _ _ ⟨u115,u116,u117,u118,u119,u114,(.int .i64 S2.1),u121,u122,u13,u14,(.int .i64 S2.1),B8,e8,g10,g11,B9,e9,by simp only [puts,Act.put,List.setIfInBounds_toArray,List.set_cons_zero,List.set_cons_succ],hJ.more (by decide),fun LP=>v0 (or_of (by decide) LP),fun LP=>v1 (or_of (by decide) LP),fun LP=>v3 (or_of (by decide) LP),fun LP=>v4 (or_of (by decide) LP),fun LP=>v5 (or_of (by decide) LP),fun LP=>v6 (or_of (by decide) LP),fun LP=>v7 (or_of (by decide) LP),fun LP=>v8 (or_of (by decide) LP),fun _=>rfl⟩
     ·intro L a' w' hLi hw hJ0 K hK
      obtain ⟨u115,u116,u117,u118,u119,u114,u120,u121,u122,u13,u14,u12,B8,e8,g10,g11,B9,e9,ha,hJ,v0,v1,v3,v4,v5,v6,v7,v8,v11⟩:=hJ0
      simp only [puts,Act.put,List.setIfInBounds_toArray,List.set_cons_zero,List.set_cons_succ] at ha
      subst ha
      have h9:L 9:=hw 9 (by decide)
      have h7:L 7:=hw 7 (by decide)
      have h4:L 4:=hw 4 (by decide)
      obtain rfl:=hJ.f9 h9
      obtain rfl:=v7 h7
      have hrz:=hJ.r9 h9 hLi
      have hbg:=hJ.b9 h9
      refine wp_storeC 47 (.tmp 13) (.tmp 121) rfl 2 viw_size g10 0 47 rfl (viwC 0 (.slice none 0 0)) (viwC S2.2.1.1 (.slice B9 S2.2.1.2.length e9)) rfl hrz rfl (by exact Nat.le_refl _) (viwC_one _ _ _ _) ?_
      intro w'' hr hg hs
      rw [splice_all (viwC 0 (.slice none 0 0)) (viwC S2.2.1.1 (.slice B9 S2.2.1.2.length e9)) rfl] at hr
      simp only [Act.put]
      exact hK.out _ _ ⟨u115,u116,u117,u118,u119,u114,u120,(.agg (viwC S2.2.1.1 (.slice B9 S2.2.1.2.length e9)).toArray),u122,(.pointer (some ⟨g10,0,none⟩)),u14,u12,B8,e8,g10,g11,B9,e9,by simp only [puts,Act.put,List.setIfInBounds_toArray,List.set_cons_zero,List.set_cons_succ],{hb:=hJ.hb.grown hg hJ.hb.size (pu4 (by omega)),f2:=fun LP=>hJ.f2 (or_of (by decide) LP),h2:=fun _ N4=>absurd (.inr h4) N4,o5:=fun LP=>.inr (hJ.o5 (or_of (by decide) LP)),o7:=fun LP=>.inr (hJ.o7 (or_of (by decide) LP)),f9:=fun LP=>hJ.f9 (or_of (by decide) LP),b9:=fun LP=>hJ.b9 (or_of (by decide) LP),r9:=fun LP N12=>absurd (.inl rfl) N12,f10:=fun LP=>hJ.f10 (or_of (by decide) LP),b10:=fun LP=>hJ.b10 (or_of (by decide) LP),r10:=fun LP N13=>(hJ.r10 (or_of (by decide) LP) (fun q=>N13 (.inr q))).grown hg (fun e=>rowl_neV (hJ.r10 (or_of (by decide) LP) (fun q=>N13 (.inr q))) hrz (by decide) (Option.some.inj e)),o12:=fun _=>.inr h4,p12:=fun _=>.inr h9,r12:=fun _=>hr,p13:=fun LP=>.inr (hJ.p13 (or_of (by decide) LP)),r13:=fun LP=>(hJ.r13 (or_of (by decide) LP)).grown hg (fun e=>rowl_neV (hJ.r13 (or_of (by decide) LP)) hrz (by decide) (Option.some.inj e))},fun LP=>v0 (or_of (by decide) LP),fun LP=>v1 (or_of (by decide) LP),fun LP=>v3 (or_of (by decide) LP),fun LP=>v4 (or_of (by decide) LP),fun LP=>v5 (or_of (by decide) LP),fun LP=>v6 (or_of (by decide) LP),fun LP=>v7 (or_of (by decide) LP),fun LP=>v8 (or_of (by decide) LP),fun LP=>v11 (or_of (by decide) LP)⟩
     ·intro L a' w' hLi hw hJ0 K hK
      obtain ⟨u115,u116,u117,u118,u119,u114,u120,u121,u122,u13,u14,u12,B8,e8,g10,g11,B9,e9,ha,hJ,v0,v1,v3,v4,v5,v6,v7,v8,v11⟩:=hJ0
      simp only [puts,Act.put,List.setIfInBounds_toArray,List.set_cons_zero,List.set_cons_succ] at ha
      subst ha
      have h10:L 10:=hw 10 (by decide)
      have h8:L 8:=hw 8 (by decide)
      have h12:L 12:=hw 12 (by decide)
      have h4:L 4:=hw 4 (by decide)
      obtain rfl:=hJ.f10 h10
      obtain rfl:=v8 h8
      have hrz:=hJ.r10 h10 hLi
      have hbg:=hJ.b10 h10
      refine wp_storeC 49 (.tmp 14) (.tmp 122) rfl 2 plc_size g11 0 49 rfl (prC (0,0)) (prC S2.2.2) rfl hrz rfl (by exact Nat.le_refl _) (prC_one _) ?_
      intro w'' hr hg hs
      rw [splice_all (prC (0,0)) (prC S2.2.2) rfl] at hr
      simp only [Act.put]
      exact hK.out _ _ ⟨u115,u116,u117,u118,u119,u114,u120,u121,(.agg (prC S2.2.2).toArray),u13,(.pointer (some ⟨g11,0,none⟩)),u12,B8,e8,g10,g11,B9,e9,by simp only [puts,Act.put,List.setIfInBounds_toArray,List.set_cons_zero,List.set_cons_succ],{hb:=hJ.hb.grown hg hJ.hb.size (pu4 (by omega)),f2:=fun LP=>hJ.f2 (or_of (by decide) LP),h2:=fun _ N4=>absurd (.inr h4) N4,o5:=fun LP=>.inr (hJ.o5 (or_of (by decide) LP)),o7:=fun LP=>.inr (hJ.o7 (or_of (by decide) LP)),f9:=fun LP=>hJ.f9 (or_of (by decide) LP),b9:=fun LP=>hJ.b9 (or_of (by decide) LP),r9:=fun LP N12=>absurd (.inr h12) N12,f10:=fun LP=>hJ.f10 (or_of (by decide) LP),b10:=fun LP=>hJ.b10 (or_of (by decide) LP),r10:=fun LP N13=>absurd (.inl rfl) N13,o12:=fun LP=>.inr (hJ.o12 (or_of (by decide) LP)),p12:=fun LP=>.inr (hJ.p12 (or_of (by decide) LP)),r12:=fun LP=>(hJ.r12 (or_of (by decide) LP)).grown hg (fun e=>rowl_neV (hJ.r12 (or_of (by decide) LP)) hrz (by decide) (Option.some.inj e)),p13:=fun _=>.inr h10,r13:=fun _=>hr},fun LP=>v0 (or_of (by decide) LP),fun LP=>v1 (or_of (by decide) LP),fun LP=>v3 (or_of (by decide) LP),fun LP=>v4 (or_of (by decide) LP),fun LP=>v5 (or_of (by decide) LP),fun LP=>v6 (or_of (by decide) LP),fun LP=>v7 (or_of (by decide) LP),fun LP=>v8 (or_of (by decide) LP),fun LP=>v11 (or_of (by decide) LP)⟩
    ·intro L a' w' hall hJ0
     obtain ⟨u115,u116,u117,u118,u119,u114,u120,u121,u122,u13,u14,u12,B8,e8,g10,g11,B9,e9,ha,hJ,v0,v1,v3,v4,v5,v6,v7,v8,v11⟩:=hJ0
     simp only [puts,Act.put,List.setIfInBounds_toArray,List.set_cons_zero,List.set_cons_succ] at ha
     subst ha
     have hall':∀k,k < 14→L k:=hall
     obtain rfl:=v11 (hall' 11 (by omega))
     obtain rfl:=hJ.f9 (hall' 9 (by omega))
     obtain rfl:=hJ.f10 (hall' 10 (by omega))
     have hr13:=hJ.r13 (hall' 13 (by omega))
     have hb10:=hJ.b10 (hall' 10 (by omega))
     have hbJ:=hJ.hb
     go_wp2_with fail
     go_meet
     case rel=>exact ⟨g10,g11,rfl,rfl,rfl,hb10,hr13,hbJ⟩
   case rest =>
   rename World=>wb
   obtain ⟨gv2,gp2,rfl,rfl,rfl,hgp2,hrp2,hbx⟩:=hcut
   have hxb:=hbx.size
   have HP2:=hide hrp2
   have HR7b:=hide (HR7a.out.on hbx)
   have HXb:=hide (und_at HXa.out hbx (by omega))
   have HLXb:=hide (und_at HLXa.out hbx (by omega))
   have HBb:=hide (HBa.out.trans (hbx.mono HBa.out.size))
   clear hbx hrp2 HR7a HR3a HUa HLa HXa HLXa HBa
   go_upto_region 14 with fail
   go_cut [15,16,17] from 123 to 131 (fun vk vv vp wx=>∃(gv gp:Nat),vk=.int .i64 S3.1∧vv=.pointer (some ⟨gv,0,none⟩)∧vp=.pointer (some ⟨gp,0,none⟩)∧wb.heap.size≤gp∧RowL wx gp 49 (prC S3.2.2)∧Below wb.heap.size wb wx)
   case first =>
    refine wp_region_L (fun a0 L a' w'=>∃(u124 u125 u126 u127 u128 u123 u129 u130 u131 u16 u17 u15:Value) (B8:Option Addr) (e8 g10 g11:Nat) (B9:Option Addr) (e9:Nat),a'=puts a0 [(124,u124),(125,u125),(126,u126),(127,u127),(128,u128),(123,u123),(129,u129),(130,u130),(131,u131),(16,u16),(17,u17),(15,u15)]∧RsF wb L u126 u16 u17 B8 e8 g10 g11 VX S3 B9 e9 w'∧(L 0→u124=.agg (stkC g (.slice (some ⟨g9,0,none⟩) N1 c9) (.slice AL nL cL)).toArray)∧(L 1→u125=.agg (stkC g (.slice (some ⟨g9,0,none⟩) N1 c9) (.slice AL nL cL)).toArray)∧(L 3→u127=.string ⟨ot.toArray⟩)∧(L 4→u128=(.tuple #[.int .i64 S3.1,.agg (viwC S3.2.1.1 (.slice B9 S3.2.1.2.length e9)).toArray,.agg (prC S3.2.2).toArray]))∧(L 5→u123=(.tuple #[.int .i64 S3.1,.agg (viwC S3.2.1.1 (.slice B9 S3.2.1.2.length e9)).toArray,.agg (prC S3.2.2).toArray]))∧(L 6→u129=.int .i64 S3.1)∧(L 7→u130=.agg (viwC S3.2.1.1 (.slice B9 S3.2.1.2.length e9)).toArray)∧(L 8→u131=.agg (prC S3.2.2).toArray)∧(L 11→u15=.int .i64 S3.1)) (by kernel_rfl) (by kernel_rfl) (by kernel_rfl) ?_ ?_ ?_
    ·exact fun f hf=>⟨f 124,f 125,f 126,f 127,f 128,f 123,f 129,f 130,f 131,f 16,f 17,f 15,none,0,0,0,none,0,(hf [124,125,126,127,128,123,129,130,131,16,17,15]).symm,RsF.start (below_drew (below_self wb)),fun h=>h.elim,fun h=>h.elim,fun h=>h.elim,fun h=>h.elim,fun h=>h.elim,fun h=>h.elim,fun h=>h.elim,fun h=>h.elim,fun h=>h.elim⟩
    ·simp only [ForOps,Nat.reduceAdd]
     refine ⟨?_,?_,?_,?_,?_,?_,?_,?_,?_,?_,?_,?_,?_,?_,trivial⟩
     ·intro L a' w' hLi hw hJ0 K hK
      obtain ⟨u124,u125,u126,u127,u128,u123,u129,u130,u131,u16,u17,u15,B8,e8,g10,g11,B9,e9,ha,hJ,v0,v1,v3,v4,v5,v6,v7,v8,v11⟩:=hJ0
      simp only [puts,Act.put,List.setIfInBounds_toArray,List.set_cons_zero,List.set_cons_succ] at ha
      subst ha
      have R7w:=HR7b.out.on hJ.hb
      refine wp_val (v:=.agg (stkC g (.slice (some ⟨g9,0,none⟩) N1 c9) (.slice AL nL cL)).toArray) (w':=w') ?_ ?_
      ·refine execOp_load (x:=.tmp 7) (k:=6) (g:=w2.heap.size) (off:=0) (cs:=(stkC g (.slice (some ⟨g9,0,none⟩) N1 c9) (.slice AL nL cL))) ?_ stk_agg stk_size ?_ (fun j v hv=>by rw [Nat.zero_add];exact (R7w.cell j).trans hv) rfl <;> rfl
      simp only [Act.put,pu1,pu2,pu3]
      exact hK.out _ _ ⟨(.agg (stkC g (.slice (some ⟨g9,0,none⟩) N1 c9) (.slice AL nL cL)).toArray),u125,u126,u127,u128,u123,u129,u130,u131,u16,u17,u15,B8,e8,g10,g11,B9,e9,by simp only [puts,Act.put,List.setIfInBounds_toArray,List.set_cons_zero,List.set_cons_succ],hJ.more (by decide),fun _=>rfl,fun LP=>v1 (or_of (by decide) LP),fun LP=>v3 (or_of (by decide) LP),fun LP=>v4 (or_of (by decide) LP),fun LP=>v5 (or_of (by decide) LP),fun LP=>v6 (or_of (by decide) LP),fun LP=>v7 (or_of (by decide) LP),fun LP=>v8 (or_of (by decide) LP),fun LP=>v11 (or_of (by decide) LP)⟩
     ·intro L a' w' hLi hw hJ0 K hK
      obtain ⟨u124,u125,u126,u127,u128,u123,u129,u130,u131,u16,u17,u15,B8,e8,g10,g11,B9,e9,ha,hJ,v0,v1,v3,v4,v5,v6,v7,v8,v11⟩:=hJ0
      simp only [puts,Act.put,List.setIfInBounds_toArray,List.set_cons_zero,List.set_cons_succ] at ha
      subst ha
      have R7w:=HR7b.out.on hJ.hb
      refine wp_val (v:=.agg (stkC g (.slice (some ⟨g9,0,none⟩) N1 c9) (.slice AL nL cL)).toArray) (w':=w') ?_ ?_
      ·refine execOp_load (x:=.tmp 7) (k:=6) (g:=w2.heap.size) (off:=0) (cs:=(stkC g (.slice (some ⟨g9,0,none⟩) N1 c9) (.slice AL nL cL))) ?_ stk_agg stk_size ?_ (fun j v hv=>by rw [Nat.zero_add];exact (R7w.cell j).trans hv) rfl <;> rfl
      simp only [Act.put,pu1,pu2,pu3]
      exact hK.out _ _ ⟨u124,(.agg (stkC g (.slice (some ⟨g9,0,none⟩) N1 c9) (.slice AL nL cL)).toArray),u126,u127,u128,u123,u129,u130,u131,u16,u17,u15,B8,e8,g10,g11,B9,e9,by simp only [puts,Act.put,List.setIfInBounds_toArray,List.set_cons_zero,List.set_cons_succ],hJ.more (by decide),fun LP=>v0 (or_of (by decide) LP),fun _=>rfl,fun LP=>v3 (or_of (by decide) LP),fun LP=>v4 (or_of (by decide) LP),fun LP=>v5 (or_of (by decide) LP),fun LP=>v6 (or_of (by decide) LP),fun LP=>v7 (or_of (by decide) LP),fun LP=>v8 (or_of (by decide) LP),fun LP=>v11 (or_of (by decide) LP)⟩
     ·intro L a' w' hLi hw hJ0 K hK
      obtain ⟨u124,u125,u126,u127,u128,u123,u129,u130,u131,u16,u17,u15,B8,e8,g10,g11,B9,e9,ha,hJ,v0,v1,v3,v4,v5,v6,v7,v8,v11⟩:=hJ0
      simp only [puts,Act.put,List.setIfInBounds_toArray,List.set_cons_zero,List.set_cons_succ] at ha
      subst ha
      have h1:L 1:=hw 1 (by decide)
      obtain rfl:=v1 h1
      go_simp
      go_at_call 16
      refine (VRoot_e (up:=upX up nm) HVX.out w' (HXb.out.under hJ.hb (by omega)) (HLXb.out.under hJ.hb (by omega)) (by have:=hJ.hb.size;omega) HF.out HFX.out).mono ?_
      rintro e w'' ⟨B8',e8',rfl,h2',hbz⟩
      have hm:=hJ.on hbz
      dsimp only
      exact hK.out _ _ ⟨u124,(.agg (stkC g (.slice (some ⟨g9,0,none⟩) N1 c9) (.slice AL nL cL)).toArray),(.agg (viwC VX.1 (.slice B8' VX.2.length e8')).toArray),u127,u128,u123,u129,u130,u131,u16,u17,u15,B8',e8',g10,g11,B9,e9,by simp only [puts,Act.put,List.setIfInBounds_toArray,List.set_cons_zero,List.set_cons_succ],{hb:=hm.hb,f2:=fun _=>rfl,h2:=fun _ _=>fr_under h2',o5:=fun LP=>.inr (hm.o5 (or_of (by decide) LP)),o7:=fun LP=>.inr (hm.o7 (or_of (by decide) LP)),f9:=fun LP=>hm.f9 (or_of (by decide) LP),b9:=fun LP=>hm.b9 (or_of (by decide) LP),r9:=fun LP N12=>hm.r9 (or_of (by decide) LP) (fun q=>N12 (.inr q)),f10:=fun LP=>hm.f10 (or_of (by decide) LP),b10:=fun LP=>hm.b10 (or_of (by decide) LP),r10:=fun LP N13=>hm.r10 (or_of (by decide) LP) (fun q=>N13 (.inr q)),o12:=fun LP=>.inr (hm.o12 (or_of (by decide) LP)),p12:=fun LP=>.inr (hm.p12 (or_of (by decide) LP)),r12:=fun LP=>hm.r12 (or_of (by decide) LP),p13:=fun LP=>.inr (hm.p13 (or_of (by decide) LP)),r13:=fun LP=>hm.r13 (or_of (by decide) LP)},fun LP=>v0 (or_of (by decide) LP),fun LP=>v1 (or_of (by decide) LP),fun LP=>v3 (or_of (by decide) LP),fun LP=>v4 (or_of (by decide) LP),fun LP=>v5 (or_of (by decide) LP),fun LP=>v6 (or_of (by decide) LP),fun LP=>v7 (or_of (by decide) LP),fun LP=>v8 (or_of (by decide) LP),fun LP=>v11 (or_of (by decide) LP)⟩
     ·intro L a' w' hLi hw hJ0 K hK
      obtain ⟨u124,u125,u126,u127,u128,u123,u129,u130,u131,u16,u17,u15,B8,e8,g10,g11,B9,e9,ha,hJ,v0,v1,v3,v4,v5,v6,v7,v8,v11⟩:=hJ0
      simp only [puts,Act.put,List.setIfInBounds_toArray,List.set_cons_zero,List.set_cons_succ] at ha
      subst ha
      unfold Oper.wp execOp
      go_simp
      exact hK.out _ _ ⟨u124,u125,u126,(.string ⟨ot.toArray⟩),u128,u123,u129,u130,u131,u16,u17,u15,B8,e8,g10,g11,B9,e9,by simp only [puts,Act.put,List.setIfInBounds_toArray,List.set_cons_zero,List.set_cons_succ],hJ.more (by decide),fun LP=>v0 (or_of (by decide) LP),fun LP=>v1 (or_of (by decide) LP),fun _=>rfl,fun LP=>v4 (or_of (by decide) LP),fun LP=>v5 (or_of (by decide) LP),fun LP=>v6 (or_of (by decide) LP),fun LP=>v7 (or_of (by decide) LP),fun LP=>v8 (or_of (by decide) LP),fun LP=>v11 (or_of (by decide) LP)⟩
     ·intro L a' w' hLi hw hJ0 K hK
      obtain ⟨u124,u125,u126,u127,u128,u123,u129,u130,u131,u16,u17,u15,B8,e8,g10,g11,B9,e9,ha,hJ,v0,v1,v3,v4,v5,v6,v7,v8,v11⟩:=hJ0
      simp only [puts,Act.put,List.setIfInBounds_toArray,List.set_cons_zero,List.set_cons_succ] at ha
      subst ha
      have h0:L 0:=hw 0 (by decide)
      have h2:L 2:=hw 2 (by decide)
      have h3:L 3:=hw 3 (by decide)
      obtain rfl:=v0 h0
      obtain rfl:=hJ.f2 h2
      obtain rfl:=v3 h3
      have hh2:=hJ.h2 h2 hLi
      go_simp
      go_at_call 15
      refine (VStep_any (up:=upX up nm) (u:=VX.1) (vl:=VX.2) HS3.out w' (HXb.out.under hJ.hb (by omega)) (HLXb.out.under hJ.hb (by omega)) (by have:=hJ.hb.size;omega) HF.out HFX.out hh2 (Nat.le_refl _) hVl).mono ?_
      rintro e w'' ⟨B9',e9',rfl,-,hbz⟩
      have hm:=hJ.on hbz
      dsimp only
      exact hK.out _ _ ⟨(.agg (stkC g (.slice (some ⟨g9,0,none⟩) N1 c9) (.slice AL nL cL)).toArray),u125,(.agg (viwC VX.1 (.slice B8 VX.2.length e8)).toArray),(.string ⟨ot.toArray⟩),(.tuple #[.int .i64 S3.1,.agg (viwC S3.2.1.1 (.slice B9' S3.2.1.2.length e9')).toArray,.agg (prC S3.2.2).toArray]),u123,u129,u130,u131,u16,u17,u15,B8,e8,g10,g11,B9',e9',by simp only [puts,Act.put,List.setIfInBounds_toArray,List.set_cons_zero,List.set_cons_succ],{hb:=hm.hb,f2:=fun LP=>hm.f2 (or_of (by decide) LP),h2:=fun LP N4=>absurd (.inl rfl) N4,o5:=fun _=>.inl rfl,o7:=fun _=>.inl rfl,f9:=fun LP=>hm.f9 (or_of (by decide) LP),b9:=fun LP=>hm.b9 (or_of (by decide) LP),r9:=fun LP N12=>hm.r9 (or_of (by decide) LP) (fun q=>N12 (.inr q)),f10:=fun LP=>hm.f10 (or_of (by decide) LP),b10:=fun LP=>hm.b10 (or_of (by decide) LP),r10:=fun LP N13=>hm.r10 (or_of (by decide) LP) (fun q=>N13 (.inr q)),o12:=fun _=>.inl rfl,p12:=fun LP=>.inr (hm.p12 (or_of (by decide) LP)),r12:=fun LP=>absurd (hJ.o12 (or_of (by decide) LP)) hLi,p13:=fun LP=>.inr (hm.p13 (or_of (by decide) LP)),r13:=fun LP=>hm.r13 (or_of (by decide) LP)},fun LP=>v0 (or_of (by decide) LP),fun LP=>v1 (or_of (by decide) LP),fun LP=>v3 (or_of (by decide) LP),fun _=>rfl,fun LP=>absurd (hJ.o5 (or_of (by decide) LP)) hLi,fun LP=>v6 (or_of (by decide) LP),fun LP=>absurd (hJ.o7 (or_of (by decide) LP)) hLi,fun LP=>v8 (or_of (by decide) LP),fun LP=>v11 (or_of (by decide) LP)⟩
     ·intro L a' w' hLi hw hJ0 K hK
      obtain ⟨u124,u125,u126,u127,u128,u123,u129,u130,u131,u16,u17,u15,B8,e8,g10,g11,B9,e9,ha,hJ,v0,v1,v3,v4,v5,v6,v7,v8,v11⟩:=hJ0
      simp only [puts,Act.put,List.setIfInBounds_toArray,List.set_cons_zero,List.set_cons_succ] at ha
      subst ha
      have h4:L 4:=hw 4 (by decide)
      obtain rfl:=v4 h4
      unfold Oper.wp execOp
      go_simp
      exact hK.out _ _ ⟨u124,u125,u126,u127,(.tuple #[.int .i64 S3.1,.agg (viwC S3.2.1.1 (.slice B9 S3.2.1.2.length e9)).toArray,.agg (prC S3.2.2).toArray]),(.tuple #[.int .i64 S3.1,.agg (viwC S3.2.1.1 (.slice B9 S3.2.1.2.length e9)).toArray,.agg (prC S3.2.2).toArray]),u129,u130,u131,u16,u17,u15,B8,e8,g10,g11,B9,e9,by simp only [puts,Act.put,List.setIfInBounds_toArray,List.set_cons_zero,List.set_cons_succ],{hb:=hJ.hb,f2:=fun LP=>hJ.f2 (or_of (by decide) LP),h2:=fun LP N4=>hJ.h2 (or_of (by decide) LP) (fun q=>N4 (.inr q)),o5:=fun _=>.inr h4,o7:=fun LP=>.inr (hJ.o7 (or_of (by decide) LP)),f9:=fun LP=>hJ.f9 (or_of (by decide) LP),b9:=fun LP=>hJ.b9 (or_of (by decide) LP),r9:=fun LP N12=>hJ.r9 (or_of (by decide) LP) (fun q=>N12 (.inr q)),f10:=fun LP=>hJ.f10 (or_of (by decide) LP),b10:=fun LP=>hJ.b10 (or_of (by decide) LP),r10:=fun LP N13=>hJ.r10 (or_of (by decide) LP) (fun q=>N13 (.inr q)),o12:=fun LP=>.inr (hJ.o12 (or_of (by decide) LP)),p12:=fun LP=>.inr (hJ.p12 (or_of (by decide) LP)),r12:=fun LP=>hJ.r12 (or_of (by decide) LP),p13:=fun LP=>.inr (hJ.p13 (or_of (by decide) LP)),r13:=fun LP=>hJ.r13 (or_of (by decide) LP)},fun LP=>v0 (or_of (by decide) LP),fun LP=>v1 (or_of (by decide) LP),fun LP=>v3 (or_of (by decide) LP),fun LP=>v4 (or_of (by decide) LP),fun _=>rfl,fun LP=>v6 (or_of (by decide) LP),fun LP=>v7 (or_of (by decide) LP),fun LP=>v8 (or_of (by decide) LP),fun LP=>v11 (or_of (by decide) LP)⟩
     ·intro L a' w' hLi hw hJ0 K hK
      obtain ⟨u124,u125,u126,u127,u128,u123,u129,u130,u131,u16,u17,u15,B8,e8,g10,g11,B9,e9,ha,hJ,v0,v1,v3,v4,v5,v6,v7,v8,v11⟩:=hJ0
      simp only [puts,Act.put,List.setIfInBounds_toArray,List.set_cons_zero,List.set_cons_succ] at ha
      subst ha
      have h5:L 5:=hw 5 (by decide)
      obtain rfl:=v5 h5
      unfold Oper.wp execOp
      go_simp
      exact hK.out _ _ ⟨u124,u125,u126,u127,u128,(.tuple #[.int .i64 S3.1,.agg (viwC S3.2.1.1 (.slice B9 S3.2.1.2.length e9)).toArray,.agg (prC S3.2.2).toArray]),(.int .i64 S3.1),u130,u131,u16,u17,u15,B8,e8,g10,g11,B9,e9,by simp only [puts,Act.put,List.setIfInBounds_toArray,List.set_cons_zero,List.set_cons_succ],hJ.more (by decide),fun LP=>v0 (or_of (by decide) LP),fun LP=>v1 (or_of (by decide) LP),fun LP=>v3 (or_of (by decide) LP),fun LP=>v4 (or_of (by decide) LP),fun LP=>v5 (or_of (by decide) LP),fun _=>rfl,fun LP=>v7 (or_of (by decide) LP),fun LP=>v8 (or_of (by decide) LP),fun LP=>v11 (or_of (by decide) LP)⟩
     ·intro L a' w' hLi hw hJ0 K hK
      obtain ⟨u124,u125,u126,u127,u128,u123,u129,u130,u131,u16,u17,u15,B8,e8,g10,g11,B9,e9,ha,hJ,v0,v1,v3,v4,v5,v6,v7,v8,v11⟩:=hJ0
      simp only [puts,Act.put,List.setIfInBounds_toArray,List.set_cons_zero,List.set_cons_succ] at ha
      subst ha
      have h5:L 5:=hw 5 (by decide)
      obtain rfl:=v5 h5
      unfold Oper.wp execOp
      go_simp
      exact hK.out _ _ ⟨u124,u125,u126,u127,u128,(.tuple #[.int .i64 S3.1,.agg (viwC S3.2.1.1 (.slice B9 S3.2.1.2.length e9)).toArray,.agg (prC S3.2.2).toArray]),u129,(.agg (viwC S3.2.1.1 (.slice B9 S3.2.1.2.length e9)).toArray),u131,u16,u17,u15,B8,e8,g10,g11,B9,e9,by simp only [puts,Act.put,List.setIfInBounds_toArray,List.set_cons_zero,List.set_cons_succ],{hb:=hJ.hb,f2:=fun LP=>hJ.f2 (or_of (by decide) LP),h2:=fun LP N4=>hJ.h2 (or_of (by decide) LP) (fun q=>N4 (.inr q)),o5:=fun LP=>.inr (hJ.o5 (or_of (by decide) LP)),o7:=fun _=>.inr (hJ.o5 h5),f9:=fun LP=>hJ.f9 (or_of (by decide) LP),b9:=fun LP=>hJ.b9 (or_of (by decide) LP),r9:=fun LP N12=>hJ.r9 (or_of (by decide) LP) (fun q=>N12 (.inr q)),f10:=fun LP=>hJ.f10 (or_of (by decide) LP),b10:=fun LP=>hJ.b10 (or_of (by decide) LP),r10:=fun LP N13=>hJ.r10 (or_of (by decide) LP) (fun q=>N13 (.inr q)),o12:=fun LP=>.inr (hJ.o12 (or_of (by decide) LP)),p12:=fun LP=>.inr (hJ.p12 (or_of (by decide) LP)),r12:=fun LP=>hJ.r12 (or_of (by decide) LP),p13:=fun LP=>.inr (hJ.p13 (or_of (by decide) LP)),r13:=fun LP=>hJ.r13 (or_of (by decide) LP)},fun LP=>v0 (or_of (by decide) LP),fun LP=>v1 (or_of (by decide) LP),fun LP=>v3 (or_of (by decide) LP),fun LP=>v4 (or_of (by decide) LP),fun LP=>v5 (or_of (by decide) LP),fun LP=>v6 (or_of (by decide) LP),fun _=>rfl,fun LP=>v8 (or_of (by decide) LP),fun LP=>v11 (or_of (by decide) LP)⟩
     ·intro L a' w' hLi hw hJ0 K hK
      obtain ⟨u124,u125,u126,u127,u128,u123,u129,u130,u131,u16,u17,u15,B8,e8,g10,g11,B9,e9,ha,hJ,v0,v1,v3,v4,v5,v6,v7,v8,v11⟩:=hJ0
      simp only [puts,Act.put,List.setIfInBounds_toArray,List.set_cons_zero,List.set_cons_succ] at ha
      subst ha
      have h5:L 5:=hw 5 (by decide)
      obtain rfl:=v5 h5
      unfold Oper.wp execOp
      go_simp
      exact hK.out _ _ ⟨u124,u125,u126,u127,u128,(.tuple #[.int .i64 S3.1,.agg (viwC S3.2.1.1 (.slice B9 S3.2.1.2.length e9)).toArray,.agg (prC S3.2.2).toArray]),u129,u130,(.agg (prC S3.2.2).toArray),u16,u17,u15,B8,e8,g10,g11,B9,e9,by simp only [puts,Act.put,List.setIfInBounds_toArray,List.set_cons_zero,List.set_cons_succ],hJ.more (by decide),fun LP=>v0 (or_of (by decide) LP),fun LP=>v1 (or_of (by decide) LP),fun LP=>v3 (or_of (by decide) LP),fun LP=>v4 (or_of (by decide) LP),fun LP=>v5 (or_of (by decide) LP),fun LP=>v6 (or_of (by decide) LP),fun LP=>v7 (or_of (by decide) LP),fun _=>rfl,fun LP=>v11 (or_of (by decide) LP)⟩
     ·intro L a' w' hLi hw hJ0 K hK
      obtain ⟨u124,u125,u126,u127,u128,u123,u129,u130,u131,u16,u17,u15,B8,e8,g10,g11,B9,e9,ha,hJ,v0,v1,v3,v4,v5,v6,v7,v8,v11⟩:=hJ0
      simp only [puts,Act.put,List.setIfInBounds_toArray,List.set_cons_zero,List.set_cons_succ] at ha
      subst ha
      unfold Oper.wp execOp
      go_simp
      have hbz:=below_new (below_self w') (.cells (viwC 0 (.slice none 0 0)).toArray 47)
      have hm:=hJ.on hbz
      exact hK.out _ _ ⟨u124,u125,u126,u127,u128,u123,u129,u130,u131,(.pointer (some ⟨w'.heap.size,0,none⟩)),u17,u15,B8,e8,w'.heap.size,g11,B9,e9,by simp only [puts,Act.put,List.setIfInBounds_toArray,List.set_cons_zero,List.set_cons_succ],{hb:=hm.hb,f2:=fun LP=>hm.f2 (or_of (by decide) LP),h2:=fun LP N4=>hm.h2 (or_of (by decide) LP) (fun q=>N4 (.inr q)),o5:=fun LP=>.inr (hm.o5 (or_of (by decide) LP)),o7:=fun LP=>.inr (hm.o7 (or_of (by decide) LP)),f9:=fun _=>rfl,b9:=fun _=>hJ.hb.size,r9:=fun _ _=>RowL.new w' 47 (viwC 0 (.slice none 0 0)),f10:=fun LP=>hm.f10 (or_of (by decide) LP),b10:=fun LP=>hm.b10 (or_of (by decide) LP),r10:=fun LP N13=>hm.r10 (or_of (by decide) LP) (fun q=>N13 (.inr q)),o12:=fun LP=>.inr (hm.o12 (or_of (by decide) LP)),p12:=fun _=>.inl rfl,r12:=fun LP=>absurd (hJ.p12 (or_of (by decide) LP)) hLi,p13:=fun LP=>.inr (hm.p13 (or_of (by decide) LP)),r13:=fun LP=>hm.r13 (or_of (by decide) LP)},fun LP=>v0 (or_of (by decide) LP),fun LP=>v1 (or_of (by decide) LP),fun LP=>v3 (or_of (by decide) LP),fun LP=>v4 (or_of (by decide) LP),fun LP=>v5 (or_of (by decide) LP),fun LP=>v6 (or_of (by decide) LP),fun LP=>v7 (or_of (by decide) LP),fun LP=>v8 (or_of (by decide) LP),fun LP=>v11 (or_of (by decide) LP)⟩
     ·intro L a' w' hLi hw hJ0 K hK
      obtain ⟨u124,u125,u126,u127,u128,u123,u129,u130,u131,u16,u17,u15,B8,e8,g10,g11,B9,e9,ha,hJ,v0,v1,v3,v4,v5,v6,v7,v8,v11⟩:=hJ0
      simp only [puts,Act.put,List.setIfInBounds_toArray,List.set_cons_zero,List.set_cons_succ] at ha
      subst ha
      unfold Oper.wp execOp
      go_simp
      have hbz:=below_new (below_self w') (.cells (prC (0,0)).toArray 49)
      have hm:=hJ.on hbz
      exact hK.out _ _ ⟨u124,u125,u126,u127,u128,u123,u129,u130,u131,u16,(.pointer (some ⟨w'.heap.size,0,none⟩)),u15,B8,e8,g10,w'.heap.size,B9,e9,by simp only [puts,Act.put,List.setIfInBounds_toArray,List.set_cons_zero,List.set_cons_succ],{hb:=hm.hb,f2:=fun LP=>hm.f2 (or_of (by decide) LP),h2:=fun LP N4=>hm.h2 (or_of (by decide) LP) (fun q=>N4 (.inr q)),o5:=fun LP=>.inr (hm.o5 (or_of (by decide) LP)),o7:=fun LP=>.inr (hm.o7 (or_of (by decide) LP)),f9:=fun LP=>hm.f9 (or_of (by decide) LP),b9:=fun LP=>hm.b9 (or_of (by decide) LP),r9:=fun LP N12=>hm.r9 (or_of (by decide) LP) (fun q=>N12 (.inr q)),f10:=fun _=>rfl,b10:=fun _=>hJ.hb.size,r10:=fun _ _=>RowL.new w' 49 (prC (0,0)),o12:=fun LP=>.inr (hm.o12 (or_of (by decide) LP)),p12:=fun LP=>.inr (hm.p12 (or_of (by decide) LP)),r12:=fun LP=>hm.r12 (or_of (by decide) LP),p13:=fun _=>.inl rfl,r13:=fun LP=>absurd (hJ.p13 (or_of (by decide) LP)) hLi},fun LP=>v0 (or_of (by decide) LP),fun LP=>v1 (or_of (by decide) LP),fun LP=>v3 (or_of (by decide) LP),fun LP=>v4 (or_of (by decide) LP),fun LP=>v5 (or_of (by decide) LP),fun LP=>v6 (or_of (by decide) LP),fun LP=>v7 (or_of (by decide) LP),fun LP=>v8 (or_of (by decide) LP),fun LP=>v11 (or_of (by decide) LP)⟩
     ·intro L a' w' hLi hw hJ0 K hK
      obtain ⟨u124,u125,u126,u127,u128,u123,u129,u130,u131,u16,u17,u15,B8,e8,g10,g11,B9,e9,ha,hJ,v0,v1,v3,v4,v5,v6,v7,v8,v11⟩:=hJ0
      simp only [puts,Act.put,List.setIfInBounds_toArray,List.set_cons_zero,List.set_cons_succ] at ha
      subst ha
      have h6:L 6:=hw 6 (by decide)
      obtain rfl:=v6 h6
      unfold Oper.wp execOp
      go_simp
      exact hK.out _ _ ⟨u124,u125,u126,u127,u128,u123,(.int .i64 S3.1),u130,u131,u16,u17,(.int .i64 S3.1),B8,e8,g10,g11,B9,e9,by simp only [puts,Act.put,List.setIfInBounds_toArray,List.set_cons_zero,List.set_cons_succ],hJ.more (by decide),fun LP=>v0 (or_of (by decide) LP),fun LP=>v1 (or_of (by decide) LP),fun LP=>v3 (or_of (by decide) LP),fun LP=>v4 (or_of (by decide) LP),fun LP=>v5 (or_of (by decide) LP),fun LP=>v6 (or_of (by decide) LP),fun LP=>v7 (or_of (by decide) LP),fun LP=>v8 (or_of (by decide) LP),fun _=>rfl⟩
     ·intro L a' w' hLi hw hJ0 K hK
      obtain ⟨u124,u125,u126,u127,u128,u123,u129,u130,u131,u16,u17,u15,B8,e8,g10,g11,B9,e9,ha,hJ,v0,v1,v3,v4,v5,v6,v7,v8,v11⟩:=hJ0
      simp only [puts,Act.put,List.setIfInBounds_toArray,List.set_cons_zero,List.set_cons_succ] at ha
      subst ha
      have h9:L 9:=hw 9 (by decide)
      have h7:L 7:=hw 7 (by decide)
      have h4:L 4:=hw 4 (by decide)
      obtain rfl:=hJ.f9 h9
      obtain rfl:=v7 h7
      have hrz:=hJ.r9 h9 hLi
      have hbg:=hJ.b9 h9
      refine wp_storeC 47 (.tmp 16) (.tmp 130) rfl 2 viw_size g10 0 47 rfl (viwC 0 (.slice none 0 0)) (viwC S3.2.1.1 (.slice B9 S3.2.1.2.length e9)) rfl hrz rfl (by exact Nat.le_refl _) (viwC_one _ _ _ _) ?_
      intro w'' hr hg hs
      rw [splice_all (viwC 0 (.slice none 0 0)) (viwC S3.2.1.1 (.slice B9 S3.2.1.2.length e9)) rfl] at hr
      simp only [Act.put]
      exact hK.out _ _ ⟨u124,u125,u126,u127,u128,u123,u129,(.agg (viwC S3.2.1.1 (.slice B9 S3.2.1.2.length e9)).toArray),u131,(.pointer (some ⟨g10,0,none⟩)),u17,u15,B8,e8,g10,g11,B9,e9,by simp only [puts,Act.put,List.setIfInBounds_toArray,List.set_cons_zero,List.set_cons_succ],{hb:=hJ.hb.grown hg hJ.hb.size (pu4 (by omega)),f2:=fun LP=>hJ.f2 (or_of (by decide) LP),h2:=fun _ N4=>absurd (.inr h4) N4,o5:=fun LP=>.inr (hJ.o5 (or_of (by decide) LP)),o7:=fun LP=>.inr (hJ.o7 (or_of (by decide) LP)),f9:=fun LP=>hJ.f9 (or_of (by decide) LP),b9:=fun LP=>hJ.b9 (or_of (by decide) LP),r9:=fun LP N12=>absurd (.inl rfl) N12,f10:=fun LP=>hJ.f10 (or_of (by decide) LP),b10:=fun LP=>hJ.b10 (or_of (by decide) LP),r10:=fun LP N13=>(hJ.r10 (or_of (by decide) LP) (fun q=>N13 (.inr q))).grown hg (fun e=>rowl_neV (hJ.r10 (or_of (by decide) LP) (fun q=>N13 (.inr q))) hrz (by decide) (Option.some.inj e)),o12:=fun _=>.inr h4,p12:=fun _=>.inr h9,r12:=fun _=>hr,p13:=fun LP=>.inr (hJ.p13 (or_of (by decide) LP)),r13:=fun LP=>(hJ.r13 (or_of (by decide) LP)).grown hg (fun e=>rowl_neV (hJ.r13 (or_of (by decide) LP)) hrz (by decide) (Option.some.inj e))},fun LP=>v0 (or_of (by decide) LP),fun LP=>v1 (or_of (by decide) LP),fun LP=>v3 (or_of (by decide) LP),fun LP=>v4 (or_of (by decide) LP),fun LP=>v5 (or_of (by decide) LP),fun LP=>v6 (or_of (by decide) LP),fun LP=>v7 (or_of (by decide) LP),fun LP=>v8 (or_of (by decide) LP),fun LP=>v11 (or_of (by decide) LP)⟩
     ·intro L a' w' hLi hw hJ0 K hK
      obtain ⟨u124,u125,u126,u127,u128,u123,u129,u130,u131,u16,u17,u15,B8,e8,g10,g11,B9,e9,ha,hJ,v0,v1,v3,v4,v5,v6,v7,v8,v11⟩:=hJ0
      simp only [puts,Act.put,List.setIfInBounds_toArray,List.set_cons_zero,List.set_cons_succ] at ha
      subst ha
      have h10:L 10:=hw 10 (by decide)
      have h8:L 8:=hw 8 (by decide)
      have h12:L 12:=hw 12 (by decide)
      have h4:L 4:=hw 4 (by decide)
      obtain rfl:=hJ.f10 h10
      obtain rfl:=v8 h8
      have hrz:=hJ.r10 h10 hLi
      have hbg:=hJ.b10 h10
      refine wp_storeC 49 (.tmp 17) (.tmp 131) rfl 2 plc_size g11 0 49 rfl (prC (0,0)) (prC S3.2.2) rfl hrz rfl (by exact Nat.le_refl _) (prC_one _) ?_
      intro w'' hr hg hs
      rw [splice_all (prC (0,0)) (prC S3.2.2) rfl] at hr
      simp only [Act.put]
      exact hK.out _ _ ⟨u124,u125,u126,u127,u128,u123,u129,u130,(.agg (prC S3.2.2).toArray),u16,(.pointer (some ⟨g11,0,none⟩)),u15,B8,e8,g10,g11,B9,e9,by simp only [puts,Act.put,List.setIfInBounds_toArray,List.set_cons_zero,List.set_cons_succ],{hb:=hJ.hb.grown hg hJ.hb.size (pu4 (by omega)),f2:=fun LP=>hJ.f2 (or_of (by decide) LP),h2:=fun _ N4=>absurd (.inr h4) N4,o5:=fun LP=>.inr (hJ.o5 (or_of (by decide) LP)),o7:=fun LP=>.inr (hJ.o7 (or_of (by decide) LP)),f9:=fun LP=>hJ.f9 (or_of (by decide) LP),b9:=fun LP=>hJ.b9 (or_of (by decide) LP),r9:=fun LP N12=>absurd (.inr h12) N12,f10:=fun LP=>hJ.f10 (or_of (by decide) LP),b10:=fun LP=>hJ.b10 (or_of (by decide) LP),r10:=fun LP N13=>absurd (.inl rfl) N13,o12:=fun LP=>.inr (hJ.o12 (or_of (by decide) LP)),p12:=fun LP=>.inr (hJ.p12 (or_of (by decide) LP)),r12:=fun LP=>(hJ.r12 (or_of (by decide) LP)).grown hg (fun e=>rowl_neV (hJ.r12 (or_of (by decide) LP)) hrz (by decide) (Option.some.inj e)),p13:=fun _=>.inr h10,r13:=fun _=>hr},fun LP=>v0 (or_of (by decide) LP),fun LP=>v1 (or_of (by decide) LP),fun LP=>v3 (or_of (by decide) LP),fun LP=>v4 (or_of (by decide) LP),fun LP=>v5 (or_of (by decide) LP),fun LP=>v6 (or_of (by decide) LP),fun LP=>v7 (or_of (by decide) LP),fun LP=>v8 (or_of (by decide) LP),fun LP=>v11 (or_of (by decide) LP)⟩
    ·intro L a' w' hall hJ0
     obtain ⟨u124,u125,u126,u127,u128,u123,u129,u130,u131,u16,u17,u15,B8,e8,g10,g11,B9,e9,ha,hJ,v0,v1,v3,v4,v5,v6,v7,v8,v11⟩:=hJ0
     simp only [puts,Act.put,List.setIfInBounds_toArray,List.set_cons_zero,List.set_cons_succ] at ha
     subst ha
     have hall':∀k,k < 14→L k:=hall
     obtain rfl:=v11 (hall' 11 (by omega))
     obtain rfl:=hJ.f9 (hall' 9 (by omega))
     obtain rfl:=hJ.f10 (hall' 10 (by omega))
     have hr13:=hJ.r13 (hall' 13 (by omega))
     have hb10:=hJ.b10 (hall' 10 (by omega))
     have hbJ:=hJ.hb
     go_wp2_with fail
     go_meet
     case rel=>exact ⟨g10,g11,rfl,rfl,rfl,hb10,hr13,hbJ⟩
   case rest =>
   rename World=>wc
   obtain ⟨gv3,gp3,rfl,rfl,rfl,hgp3,hrp3,hbx⟩:=hcut
   have hxc:=hbx.size
   have HP3:=hide hrp3
   have HP2c:=hide (HP2.out.on hbx)
   have HR7c:=hide (HR7b.out.on hbx)
   have HXc:=hide (und_at HXb.out hbx (by omega))
   have HLXc:=hide (und_at HLXb.out hbx (by omega))
   have HBc:=hide (HBb.out.trans (hbx.mono HBb.out.size))
   clear hbx hrp3 HP2 HR7b HXb HLXb HBb
   obtain ⟨⟨p1,p2⟩,hp⟩:∃p,S2.2.2=p:=⟨_,rfl⟩
   obtain ⟨kk,hkk⟩:∃k,S2.1=k:=⟨_,rfl⟩
   have e3:S3.2.2=(p1,p2):=by rw [←hp];exact HOTH.out.2
   have e4:S3.1=kk:=by rw [←hkk];exact HOTH.out.1
   have e5:S1.1=0:=HK1.out
   rw [hp] at HP2c
   rw [e3] at HP3
   rw [hkk,e4,e5]
   obtain ⟨NL,hNL⟩:∃L,namesV (upX up nm) ls (VX.1,VX.2)=L:=⟨_,rfl⟩
   have HNT:=hide (show decide (nm∈NL)=false from by
    rw [←hNL,shown_mem]
    have h1:stepV (upX up nm) ls (VX.1,VX.2) nm=S1:=HS1.out
    rw [h1,e5];rfl)
   have hNLl:NL.length≤100000:=by rw [←hNL];exact names_fewX HF.out HFX.out hVl
   have HNL:=hide hNL
   clear hp hkk e3 e4 e5 hNL
   go_upto_region 15 with fail
   refine wp_region_planN (fun w'=>Below wc.heap.size wc w') [(0,true),(1,true),(2,true),(3,true),(4,true),(5,true),(6,true),(7,true),(8,true),(9,true),(10,true),(11,true),(12,true),(13,true),(14,true),(17,true),(15,false),(16,false),(18,false),(19,true),(20,true),(21,true),(22,false),(23,true),(24,true)] (by kernel_rfl) (by kernel_rfl) (by kernel_rfl) (by kernel_rfl) rfl (fun _ _ _ _ _ h=>h) (below_drew (below_self wc)) (fun hHeld=>?_)
   simp only [planOps,List.filterMap_cons,List.filterMap_nil,List.getElem?_toArray,List.getElem?_cons_succ,List.getElem?_cons_zero,Option.map_some]
   iterate 5
    refine wpPlan_take (v:=?_) (by kernel_rfl) (fun wS hSw=>?_) ?_
    rotate_left
    ·(try dsimp only at hSw);go_simp;(try with_reducible rfl)
    (try simp only [Act.put,pu1,pu2,pu3])
   refine wpPlan_take (v:=?_) (by kernel_rfl) (fun wS hSw=>?_) ?_
   rotate_left
   ·(try dsimp only at hSw);have qx:(kk==kk)=true:=(by simp);go_simp;(try with_reducible rfl)
   (try simp only [Act.put,pu1,pu2,pu3])
   iterate 2
    refine wpPlan_take (v:=?_) (by kernel_rfl) (fun wS hSw=>?_) ?_
    rotate_left
    ·(try dsimp only at hSw);go_simp;(try with_reducible rfl)
    (try simp only [Act.put,pu1,pu2,pu3])
   refine wpPlan_take (v:=?_) (by kernel_rfl) (fun wS hSw=>?_) ?_
   rotate_left
   ·refine execOp_load (x:=.tmp 14) (k:=2) (g:=gp2) (off:=0) (cs:=(prC (p1,p2))) ?_ plc_agg plc_size ?_ (fun j v hv=>by rw [Nat.zero_add];exact ((HP2c.out.on hSw).cell j).trans hv) rfl <;> rfl
   (try simp only [Act.put,pu1,pu2,pu3])
   refine wpPlan_take (v:=?_) (by kernel_rfl) (fun wS hSw=>?_) ?_
   rotate_left
   ·refine execOp_load (x:=.tmp 17) (k:=2) (g:=gp3) (off:=0) (cs:=(prC (p1,p2))) ?_ plc_agg plc_size ?_ (fun j v hv=>by rw [Nat.zero_add];exact ((HP3.out.on hSw).cell j).trans hv) rfl <;> rfl
   (try simp only [Act.put,pu1,pu2,pu3])
   refine wpPlan_take (v:=?_) (by kernel_rfl) (fun wS hSw=>?_) ?_
   rotate_left
   ·(try simp only [prC]);have qx:=eq_plcV p1 p2 wS;go_simp;(try with_reducible rfl)
   (try simp only [Act.put,pu1,pu2,pu3])
   iterate 2
    refine wpPlan_take (v:=?_) (by kernel_rfl) (fun wS hSw=>?_) ?_
    rotate_left
    ·(try dsimp only at hSw);go_simp;(try with_reducible rfl)
    (try simp only [Act.put,pu1,pu2,pu3])
   refine wpPlan_take (v:=?_) (by kernel_rfl) (fun wS hSw=>?_) ?_
   rotate_left
   ·refine execOp_load (x:=.tmp 7) (k:=6) (g:=w2.heap.size) (off:=0) (cs:=(stkC g (.slice (some ⟨g9,0,none⟩) N1 c9) (.slice AL nL cL))) ?_ stk_agg stk_size ?_ (fun j v hv=>by rw [Nat.zero_add];exact ((HR7c.out.on hSw).cell j).trans hv) rfl <;> rfl
   (try simp only [Act.put,pu1,pu2,pu3])
   refine wpPlan_take (v:=?_) (by kernel_rfl) (fun wS hSw=>?_) ?_
   rotate_left
   ·refine execOp_load (x:=.tmp 7) (k:=6) (g:=w2.heap.size) (off:=0) (cs:=(stkC g (.slice (some ⟨g9,0,none⟩) N1 c9) (.slice AL nL cL))) ?_ stk_agg stk_size ?_ (fun j v hv=>by rw [Nat.zero_add];exact ((HR7c.out.on hSw).cell j).trans hv) rfl <;> rfl
   (try simp only [Act.put,pu1,pu2,pu3])
   refine wpPlan_take (v:=?_) (by kernel_rfl) (fun wS hSw=>?_) ?_
   rotate_left
   ·(try dsimp only at hSw);go_simp;(try with_reducible rfl)
   (try simp only [Act.put,pu1,pu2,pu3])
   refine wpPlan_call (by kernel_rfl) (fun K hK=>?_)
   have hOld:=hide hHeld
   clear hHeld
   go_simp
   go_at_call 16
   refine (VRoot_e (up:=upX up nm) HVX.out _ (HXc.out.under hOld.out (by omega)) (HLXc.out.under hOld.out (by omega)) (by have:=hOld.out.size;omega) HF.out HFX.out).mono ?_
   rintro e w' ⟨B8,e8,rfl,h8,hbel⟩
   have H8:=hide (fr_under h8)
   clear h8
   refine hK.out _ _ (hOld.out.trans (hbel.mono hOld.out.size)) (fun hHeld=>?_)
   clear hK K
   (try simp only [Act.put,pu1,pu2,pu3])
   refine wpPlan_call (by kernel_rfl) (fun K hK=>?_)
   have hOld:=hide hHeld
   clear hHeld
   go_simp
   go_at_call 18
   refine (VNames_any (up:=upX up nm) (u:=VX.1) (vl:=VX.2) _ (HXc.out.under hOld.out (by omega)) (HLXc.out.under hOld.out (by omega)) (by have:=hOld.out.size;omega) HF.out HFX.out H8.out (Nat.le_refl _) hVl).mono ?_
   rintro e w' ⟨A9n,n9n,c9n,rfl,h9n,hbel⟩
   rw [HNL.out] at h9n
   have H9n:=hide h9n.rd
   clear h9n H8
   refine hK.out _ _ (hOld.out.trans (hbel.mono hOld.out.size)) (fun hHeld=>?_)
   clear hK K
   (try simp only [Act.put,pu1,pu2,pu3])
   refine wpPlan_call (by kernel_rfl) (fun K hK=>?_)
   have hOld:=hide hHeld
   clear hHeld
   go_simp
   go_at_call 17
   refine (ContS_b HNT.out _ H9n.out (by have:=H9n.out.len;omega)).mono ?_
   rintro e w' ⟨rfl,rfl⟩
   clear H9n
   refine hK.out _ _ (hOld.out) (fun hHeld=>?_)
   clear hK K
   (try simp only [Act.put,pu1,pu2,pu3])
   iterate 3
    refine wpPlan_take (v:=?_) (by kernel_rfl) (fun wS hSw=>?_) ?_
    rotate_left
    ·(try dsimp only at hSw);go_simp;(try with_reducible rfl)
    (try simp only [Act.put,pu1,pu2,pu3])
   refine wpPlan_call (by kernel_rfl) (fun K hK=>?_)
   have hOld:=hide hHeld
   clear hHeld
   go_simp
   go_at_call 11
   refine (awake17_any _).mono ?_
   rintro e w' ⟨rfl,hbel⟩
   refine hK.out _ _ (hOld.out.trans (hbel.mono hOld.out.size)) (fun hHeld=>?_)
   clear hK K
   (try simp only [Act.put,pu1,pu2,pu3])
   iterate 2
    refine wpPlan_take (v:=?_) (by kernel_rfl) (fun wS hSw=>?_) ?_
    rotate_left
    ·(try dsimp only at hSw);go_simp;(try with_reducible rfl)
    (try simp only [Act.put,pu1,pu2,pu3])
   refine wpPlan_end ?_
   have HBX:=hide (HBc.out.trans (hHeld.mono HBc.out.size))
   clear hHeld
   go_wp2_with fail
   go_ret
   exact LawOk.of HBX.out
end Go.Proofs.YtfdbhldnohaopaaGreat

