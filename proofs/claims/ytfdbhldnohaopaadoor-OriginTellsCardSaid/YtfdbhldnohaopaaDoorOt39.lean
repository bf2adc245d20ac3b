import Derived.Test.YtfdbhldnohaopaaDoorOt37
import Derived.Test.YtfdbhldnohaopaaDoorOt38
import Derived.Test.YtfdbhldnohaopaaDoorOt24
import Derived.Test.YtfdbhldnohaopaaDoorOt18

namespace Go.Proofs.YtfdbhldnohaopaaDoor
open Go.RowKit Go.Shelf Plain

theorem ORFinds_p {g:GeoQ} {AU AL:Option Addr} {nU cU nL cL B:Nat} {up:List NodV} {ls:List (List NodV)} {rs:List Bool} {R:List FinV} {n:Nat} (hrs:reachL up (walkW up [1]).1=rs) (hR:findO up ls rs=R) (hn:R.length=n) (w:World) (hu:RdE nodEn w (Under B) AU nU up) (h:RdE layEn w (Under B) AL nL ls) (hB:B≤w.heap.size) (hF:FewL ls) (hup:FewU up):Calls Tryd.prog 10 #[.agg (stkC g (.slice AU nU cU) (.slice AL nL cL)).toArray] w (FinsP w n R):=by
 refine (ORFinds_any hrs w hu h hB hF hup).mono fun e w' hh=>?_
 rw [hR] at hh
 exact hh.p hn
set_option maxRecDepth 100000 in
set_option maxHeartbeats 16000000 in
theorem law_OriginTells {g:GeoQ} {AU AL D C:Option Addr} {nU cU nL cL n c m d:Nat} {up:List NodV} {ls:List (List NodV)} {x:NodV} (w:World) (hu:RdE nodEn w (Under w.heap.size) AU nU up) (h:RdE layEn w (Under w.heap.size) AL nL ls) (hfu:FineN up) (hfl:∀ns∈ls,FineN ns) (hd:x.data.length=n) (he:RdE entEn w (Under w.heap.size) C m x.ents) (hm:m≤9223372036854775807) (hcw:ClW w) :
  Calls Tryd.prog 3 #[.agg (stkC g (.slice AU nU cU) (.slice AL nL cL)).toArray,.agg (nodC x (.slice D n c) (.slice C m d)).toArray] w (LawOk w):=by
 obtain ⟨W1,hW1⟩:∃W1,((w.alloc (.cells (stkC g (.slice AU nU cU) (.slice AL nL cL)).toArray 29)).alloc (.cells (nodC x (.slice D n c) (.slice C m d)).toArray 37))=W1:=⟨_,rfl⟩
 obtain ⟨r0,r1,hb1,hs1⟩:=rowA2 w _ _ _ _ hW1
 have hW1':((w.alloc (.cells #[.int .i64 g.a,.int .i64 g.b,.int .i64 g.c,.int .i64 g.d,.slice AU nU cU,.slice AL nL cL] 29)).alloc (.cells #[.int .i64 x.k,.int .i64 x.p,.int .i64 x.n,.int .i64 x.g,.slice D n c,.slice C m d,.int .i64 x.att.h,.int .i64 x.att.o,.string ⟨x.att.r.toArray⟩,.int .i64 x.att.l,.int .i64 x.att.i,.int .i64 x.att.g,.int .i64 x.att.s] 37))=W1:=hW1
 have R2:=hide r0
 have R3:=hide r1
 have HB:=hide hb1
 have hsz0:=hb1.size
 have HU:=hide (hu.under hb1 (Nat.le_refl _))
 have HL:=hide (h.under hb1 (Nat.le_refl _))
 have HE:=hide (he.under hb1 (Nat.le_refl _))
 have HFN:=hide hfu
 have HFL:=hide hfl
 have HC:=hide hcw
 have HD:=hide hd
 have q3_0:W1.cell? ⟨w.heap.size+1,0,none⟩=some (.int .i64 x.k):=R3.out.cell 0
 have q3_1:W1.cell? ⟨w.heap.size+1,1,none⟩=some (.int .i64 x.p):=R3.out.cell 1
 have q3_2:W1.cell? ⟨w.heap.size+1,2,none⟩=some (.int .i64 x.n):=R3.out.cell 2
 have q3_3:W1.cell? ⟨w.heap.size+1,3,none⟩=some (.int .i64 x.g):=R3.out.cell 3
 have q3_4:W1.cell? ⟨w.heap.size+1,4,none⟩=some (.slice D n c):=R3.out.cell 4
 have q3_5:W1.cell? ⟨w.heap.size+1,5,none⟩=some (.slice C m d):=R3.out.cell 5
 have q3_6:W1.cell? ⟨w.heap.size+1,6,none⟩=some (.int .i64 x.att.h):=R3.out.cell 6
 have q3_7:W1.cell? ⟨w.heap.size+1,7,none⟩=some (.int .i64 x.att.o):=R3.out.cell 7
 have q3_8:W1.cell? ⟨w.heap.size+1,8,none⟩=some (.string ⟨x.att.r.toArray⟩):=R3.out.cell 8
 have q3_9:W1.cell? ⟨w.heap.size+1,9,none⟩=some (.int .i64 x.att.l):=R3.out.cell 9
 have q3_10:W1.cell? ⟨w.heap.size+1,10,none⟩=some (.int .i64 x.att.i):=R3.out.cell 10
 have q3_11:W1.cell? ⟨w.heap.size+1,11,none⟩=some (.int .i64 x.att.g):=R3.out.cell 11
 have q3_12:W1.cell? ⟨w.heap.size+1,12,none⟩=some (.int .i64 x.att.s):=R3.out.cell 12
 have q2_0:W1.cell? ⟨w.heap.size,0,none⟩=some (.int .i64 g.a):=R2.out.cell 0
 have q2_1:W1.cell? ⟨w.heap.size,1,none⟩=some (.int .i64 g.b):=R2.out.cell 1
 have q2_2:W1.cell? ⟨w.heap.size,2,none⟩=some (.int .i64 g.c):=R2.out.cell 2
 have q2_3:W1.cell? ⟨w.heap.size,3,none⟩=some (.int .i64 g.d):=R2.out.cell 3
 have q2_4:W1.cell? ⟨w.heap.size,4,none⟩=some (.slice AU nU cU):=R2.out.cell 4
 have q2_5:W1.cell? ⟨w.heap.size,5,none⟩=some (.slice AL nL cL):=R2.out.cell 5
 unfold stkC nodC
 have hs1':w.heap.size+2≤W1.heap.size:=by omega
 clear r0 r1 hb1 hW1 hu h hfu hfl hcw hs1 hd he
 go_enter Tryd.func3,Tryd.ntmps3
 go_wp2_with (first|(refine wpList_loadW rfl 29 (.tmp 2) rfl 6 stk_agg stk_size (w.heap.size) 29 rfl (stkC g (.slice AU nU cU) (.slice AL nL cL)) R2.out rfl ?_))
 clear hW1'
 refine (PStack_any W1 (und_up HU.out (by omega)) (und_up HL.out (by omega)) HFN.out HFL.out).mono ?_
 rintro e w2 ⟨p,rfl,hb2,hq⟩
 have HQ:=hide hq
 clear q3_0 q3_1 q3_2 q3_3 q3_4 q3_5 q3_6 q3_7 q3_8 q3_9 q3_10 q3_11 q3_12 q2_0 q2_1 q2_2 q2_3 q2_4 q2_5
 replace HB:=hide (HB.out.trans (hb2.mono HB.out.size))
 replace R2:=hide (R2.out.on hb2)
 replace R3:=hide (R3.out.on hb2)
 replace HU:=hide (HU.out.under hb2 (by omega))
 replace HL:=hide (HL.out.under hb2 (by omega))
 replace HE:=hide (HE.out.under hb2 (by omega))
 have hsz1:=hb2.size
 have q3_0:w2.cell? ⟨w.heap.size+1,0,none⟩=some (.int .i64 x.k):=R3.out.cell 0
 have q3_1:w2.cell? ⟨w.heap.size+1,1,none⟩=some (.int .i64 x.p):=R3.out.cell 1
 have q3_2:w2.cell? ⟨w.heap.size+1,2,none⟩=some (.int .i64 x.n):=R3.out.cell 2
 have q3_3:w2.cell? ⟨w.heap.size+1,3,none⟩=some (.int .i64 x.g):=R3.out.cell 3
 have q3_4:w2.cell? ⟨w.heap.size+1,4,none⟩=some (.slice D n c):=R3.out.cell 4
 have q3_5:w2.cell? ⟨w.heap.size+1,5,none⟩=some (.slice C m d):=R3.out.cell 5
 have q3_6:w2.cell? ⟨w.heap.size+1,6,none⟩=some (.int .i64 x.att.h):=R3.out.cell 6
 have q3_7:w2.cell? ⟨w.heap.size+1,7,none⟩=some (.int .i64 x.att.o):=R3.out.cell 7
 have q3_8:w2.cell? ⟨w.heap.size+1,8,none⟩=some (.string ⟨x.att.r.toArray⟩):=R3.out.cell 8
 have q3_9:w2.cell? ⟨w.heap.size+1,9,none⟩=some (.int .i64 x.att.l):=R3.out.cell 9
 have q3_10:w2.cell? ⟨w.heap.size+1,10,none⟩=some (.int .i64 x.att.i):=R3.out.cell 10
 have q3_11:w2.cell? ⟨w.heap.size+1,11,none⟩=some (.int .i64 x.att.g):=R3.out.cell 11
 have q3_12:w2.cell? ⟨w.heap.size+1,12,none⟩=some (.int .i64 x.att.s):=R3.out.cell 12
 have q2_0:w2.cell? ⟨w.heap.size,0,none⟩=some (.int .i64 g.a):=R2.out.cell 0
 have q2_1:w2.cell? ⟨w.heap.size,1,none⟩=some (.int .i64 g.b):=R2.out.cell 1
 have q2_2:w2.cell? ⟨w.heap.size,2,none⟩=some (.int .i64 g.c):=R2.out.cell 2
 have q2_3:w2.cell? ⟨w.heap.size,3,none⟩=some (.int .i64 g.d):=R2.out.cell 3
 have q2_4:w2.cell? ⟨w.heap.size,4,none⟩=some (.slice AU nU cU):=R2.out.cell 4
 have q2_5:w2.cell? ⟨w.heap.size,5,none⟩=some (.slice AL nL cL):=R2.out.cell 5
 clear hq hb2
 cases p
 ·go_wp2_with (go_at_call 7;refine (awake22_any _ (HC.out.below HB.out)).mono ?_;rintro e98 wz ⟨rfl,hbz⟩;replace HB:=hide (HB.out.trans (hbz.mono HB.out.size));clear hbz)
  go_ret
  exact LawOk.of HB.out
 go_wp2_with fail
 refine (PNode_any w2 HD.out (und_up HE.out (by omega)) hm).mono ?_
 rintro e w3 ⟨p,rfl,hb3,hq⟩
 have HQ2:=hide hq
 clear q3_0 q3_1 q3_2 q3_3 q3_4 q3_5 q3_6 q3_7 q3_8 q3_9 q3_10 q3_11 q3_12 q2_0 q2_1 q2_2 q2_3 q2_4 q2_5
 replace HB:=hide (HB.out.trans (hb3.mono HB.out.size))
 replace R2:=hide (R2.out.on hb3)
 replace R3:=hide (R3.out.on hb3)
 replace HU:=hide (HU.out.under hb3 (by omega))
 replace HL:=hide (HL.out.under hb3 (by omega))
 replace HE:=hide (HE.out.under hb3 (by omega))
 have hsz2:=hb3.size
 have q3_0:w3.cell? ⟨w.heap.size+1,0,none⟩=some (.int .i64 x.k):=R3.out.cell 0
 have q3_1:w3.cell? ⟨w.heap.size+1,1,none⟩=some (.int .i64 x.p):=R3.out.cell 1
 have q3_2:w3.cell? ⟨w.heap.size+1,2,none⟩=some (.int .i64 x.n):=R3.out.cell 2
 have q3_3:w3.cell? ⟨w.heap.size+1,3,none⟩=some (.int .i64 x.g):=R3.out.cell 3
 have q3_4:w3.cell? ⟨w.heap.size+1,4,none⟩=some (.slice D n c):=R3.out.cell 4
 have q3_5:w3.cell? ⟨w.heap.size+1,5,none⟩=some (.slice C m d):=R3.out.cell 5
 have q3_6:w3.cell? ⟨w.heap.size+1,6,none⟩=some (.int .i64 x.att.h):=R3.out.cell 6
 have q3_7:w3.cell? ⟨w.heap.size+1,7,none⟩=some (.int .i64 x.att.o):=R3.out.cell 7
 have q3_8:w3.cell? ⟨w.heap.size+1,8,none⟩=some (.string ⟨x.att.r.toArray⟩):=R3.out.cell 8
 have q3_9:w3.cell? ⟨w.heap.size+1,9,none⟩=some (.int .i64 x.att.l):=R3.out.cell 9
 have q3_10:w3.cell? ⟨w.heap.size+1,10,none⟩=some (.int .i64 x.att.i):=R3.out.cell 10
 have q3_11:w3.cell? ⟨w.heap.size+1,11,none⟩=some (.int .i64 x.att.g):=R3.out.cell 11
 have q3_12:w3.cell? ⟨w.heap.size+1,12,none⟩=some (.int .i64 x.att.s):=R3.out.cell 12
 have q2_0:w3.cell? ⟨w.heap.size,0,none⟩=some (.int .i64 g.a):=R2.out.cell 0
 have q2_1:w3.cell? ⟨w.heap.size,1,none⟩=some (.int .i64 g.b):=R2.out.cell 1
 have q2_2:w3.cell? ⟨w.heap.size,2,none⟩=some (.int .i64 g.c):=R2.out.cell 2
 have q2_3:w3.cell? ⟨w.heap.size,3,none⟩=some (.int .i64 g.d):=R2.out.cell 3
 have q2_4:w3.cell? ⟨w.heap.size,4,none⟩=some (.slice AU nU cU):=R2.out.cell 4
 have q2_5:w3.cell? ⟨w.heap.size,5,none⟩=some (.slice AL nL cL):=R2.out.cell 5
 clear hq hb3
 cases p
 ·go_wp2_with (go_at_call 7;refine (awake22_any _ (HC.out.below HB.out)).mono ?_;rintro e98 wz ⟨rfl,hbz⟩;replace HB:=hide (HB.out.trans (hbz.mono HB.out.size));clear hbz)
  go_ret
  exact LawOk.of HB.out
 obtain ⟨hF,hfew⟩:=HQ.out (by first|rfl|trivial)
 have HF:=hide hF
 have HFU:=hide (show FewU up from ⟨by have:=hfew.1;omega,hfew.2⟩)
 have hpl:=HQ2.out (by first|rfl|trivial)
 have hh:=hpl.2.2.1
 obtain ⟨rs,hrs⟩:∃rs,reachL up (walkW up [1]).1=rs:=⟨_,rfl⟩
 obtain ⟨R,hR⟩:∃R,findO up ls rs=R:=⟨_,rfl⟩
 have hR5:R.length≤140737488355328:=by
  rw [←hR]
  have h1:=findO_len up ls rs
  have h4:=HFU.out.1
  omega
 have HRS:=hide hrs
 have HR:=hide hR
 obtain ⟨b1,h1⟩:∃b,oddO x=b:=⟨_,rfl⟩
 have H1:=hide h1
 obtain ⟨b2,h2⟩:∃b,staleO ls x=b:=⟨_,rfl⟩
 have H2:=hide h2
 obtain ⟨b3,h3⟩:∃b,lacksO ls x=b:=⟨_,rfl⟩
 have H3:=hide h3
 clear hF hfew hpl HQ HQ2 HFN HFL hrs hR h1 h2 h3
 go_wp2_with fail
 refine wp_region_planN (fun w'=>Below w3.heap.size w3 w') [(0,true),(2,true),(1,false),(3,false),(4,false),(5,true),(6,true),(8,true),(7,false),(9,false),(10,true),(11,true),(12,true),(13,true),(14,true),(16,true),(17,true),(15,false),(18,false),(19,true),(20,true),(21,true),(22,true),(23,true),(25,true),(26,true),(24,false),(27,false),(28,true),(29,true),(30,true),(31,false),(32,true),(33,true)] (by kernel_rfl) (by kernel_rfl) (by kernel_rfl) (by kernel_rfl) rfl (fun _ _ _ _ _ h=>h) (below_drew (below_self w3)) (fun hHeld=>?_)
 simp only [planOps,List.filterMap_cons,List.filterMap_nil,List.getElem?_toArray,List.getElem?_cons_succ,List.getElem?_cons_zero,Option.map_some]
 refine wpPlan_take (v:=?_) (by kernel_rfl) (fun wS hSw=>?_) ?_
 rotate_left
 ·refine execOp_load (x:=.tmp 2) (k:=6) (g:=w.heap.size) (off:=0) (cs:=(stkC g (.slice AU nU cU) (.slice AL nL cL))) ?_ stk_agg stk_size ?_ (fun j v hv=>by rw [Nat.zero_add];exact ((R2.out.on hSw).cell j).trans hv) rfl <;> rfl
 (try simp only [Act.put,pu1,pu2,pu3])
 refine wpPlan_take (v:=?_) (by kernel_rfl) (fun wS hSw=>?_) ?_
 rotate_left
 ·refine execOp_load (x:=.tmp 2) (k:=6) (g:=w.heap.size) (off:=0) (cs:=(stkC g (.slice AU nU cU) (.slice AL nL cL))) ?_ stk_agg stk_size ?_ (fun j v hv=>by rw [Nat.zero_add];exact ((R2.out.on hSw).cell j).trans hv) rfl <;> rfl
 (try simp only [Act.put,pu1,pu2,pu3])
 refine wpPlan_call (by kernel_rfl) (fun K hK=>?_)
 have hOld:=hide hHeld
 clear hHeld
 go_simp
 go_at_call 9
 refine (OFinds_p HRS.out HR.out rfl (B:=w.heap.size) _ (HU.out.under hOld.out (by omega)) (HL.out.under hOld.out (by omega)) (by have:=hOld.out.size;omega) HF.out HFU.out (HC.out.below (HB.out.trans (hOld.out.mono HB.out.size)))).mono ?_
 rintro e w' ⟨A5,c5,rfl,h5,hbel⟩
 have H5:=hide h5
 clear h5
 refine hK.out _ _ (hOld.out.trans (hbel.mono hOld.out.size)) (fun hHeld=>?_)
 clear hK K
 (try simp only [Act.put,pu1,pu2,pu3])
 refine wpPlan_call (by kernel_rfl) (fun K hK=>?_)
 have hOld:=hide hHeld
 clear hHeld
 go_simp
 go_at_call 10
 refine (ORFinds_p HRS.out HR.out rfl (B:=w.heap.size) _ (HU.out.under hOld.out (by omega)) (HL.out.under hOld.out (by omega)) (by have:=hOld.out.size;omega) HF.out HFU.out).mono ?_
 rintro e w' ⟨A6,c6,rfl,h6,hbel⟩
 have H6:=hide h6
 have H5':=hide (und_up (H5.out.under hbel (Nat.le_refl _)) hbel.size)
 clear H5 h6
 refine hK.out _ _ (hOld.out.trans (hbel.mono hOld.out.size)) (fun hHeld=>?_)
 clear hK K
 (try simp only [Act.put,pu1,pu2,pu3])
 refine wpPlan_call (by kernel_rfl) (fun K hK=>?_)
 have hOld:=hide hHeld
 clear hHeld
 go_simp
 go_at_call 8
 refine (EqualFin_same _ H5'.out H6.out hR5).mono ?_
 rintro e w' ⟨rfl,hbel⟩
 clear H5' H6
 refine hK.out _ _ (hOld.out.trans (hbel.mono hOld.out.size)) (fun hHeld=>?_)
 clear hK K
 (try simp only [Act.put,pu1,pu2,pu3])
 refine wpPlan_take (v:=?_) (by kernel_rfl) (fun wS hSw=>?_) ?_
 rotate_left
 ·(try dsimp only at hSw);go_simp;(try with_reducible rfl)
 (try simp only [Act.put,pu1,pu2,pu3])
 refine wpPlan_take (v:=?_) (by kernel_rfl) (fun wS hSw=>?_) ?_
 rotate_left
 ·refine execOp_load (x:=.tmp 3) (k:=13) (g:=w.heap.size+1) (off:=0) (cs:=(nodC x (.slice D n c) (.slice C m d))) ?_ nod_agg nod_size ?_ (fun j v hv=>by rw [Nat.zero_add];exact ((R3.out.on hSw).cell j).trans hv) rfl <;> rfl
 (try simp only [Act.put,pu1,pu2,pu3])
 refine wpPlan_take (v:=?_) (by kernel_rfl) (fun wS hSw=>?_) ?_
 rotate_left
 ·refine execOp_load (x:=.tmp 3) (k:=13) (g:=w.heap.size+1) (off:=0) (cs:=(nodC x (.slice D n c) (.slice C m d))) ?_ nod_agg nod_size ?_ (fun j v hv=>by rw [Nat.zero_add];exact ((R3.out.on hSw).cell j).trans hv) rfl <;> rfl
 (try simp only [Act.put,pu1,pu2,pu3])
 refine wpPlan_call (by kernel_rfl) (fun K hK=>?_)
 have hOld:=hide hHeld
 clear hHeld
 go_simp
 go_at_call 11
 refine (Odd_any H1.out hh.1 hh.2 _).mono ?_
 rintro e w' ⟨rfl,hbel⟩
 refine hK.out _ _ (hOld.out.trans (hbel.mono hOld.out.size)) (fun hHeld=>?_)
 clear hK K
 (try simp only [Act.put,pu1,pu2,pu3])
 refine wpPlan_call (by kernel_rfl) (fun K hK=>?_)
 have hOld:=hide hHeld
 clear hHeld
 go_simp
 go_at_call 12
 refine (ROdd_any H1.out hh.1 hh.2 _).mono ?_
 rintro e w' ⟨rfl,hbel⟩
 refine hK.out _ _ (hOld.out.trans (hbel.mono hOld.out.size)) (fun hHeld=>?_)
 clear hK K
 (try simp only [Act.put,pu1,pu2,pu3])
 refine wpPlan_take (v:=?_) (by kernel_rfl) (fun wS hSw=>?_) ?_
 rotate_left
 ·(try dsimp only at hSw);have qx:(b1==b1)=true:=(by simp);go_simp;(try with_reducible rfl)
 (try simp only [Act.put,pu1,pu2,pu3])
 iterate 2
  refine wpPlan_take (v:=?_) (by kernel_rfl) (fun wS hSw=>?_) ?_
  rotate_left
  ·(try dsimp only at hSw);go_simp;(try with_reducible rfl)
  (try simp only [Act.put,pu1,pu2,pu3])
 refine wpPlan_take (v:=?_) (by kernel_rfl) (fun wS hSw=>?_) ?_
 rotate_left
 ·refine execOp_load (x:=.tmp 2) (k:=6) (g:=w.heap.size) (off:=0) (cs:=(stkC g (.slice AU nU cU) (.slice AL nL cL))) ?_ stk_agg stk_size ?_ (fun j v hv=>by rw [Nat.zero_add];exact ((R2.out.on hSw).cell j).trans hv) rfl <;> rfl
 (try simp only [Act.put,pu1,pu2,pu3])
 refine wpPlan_take (v:=?_) (by kernel_rfl) (fun wS hSw=>?_) ?_
 rotate_left
 ·refine execOp_load (x:=.tmp 3) (k:=13) (g:=w.heap.size+1) (off:=0) (cs:=(nodC x (.slice D n c) (.slice C m d))) ?_ nod_agg nod_size ?_ (fun j v hv=>by rw [Nat.zero_add];exact ((R3.out.on hSw).cell j).trans hv) rfl <;> rfl
 (try simp only [Act.put,pu1,pu2,pu3])
 refine wpPlan_take (v:=?_) (by kernel_rfl) (fun wS hSw=>?_) ?_
 rotate_left
 ·refine execOp_load (x:=.tmp 2) (k:=6) (g:=w.heap.size) (off:=0) (cs:=(stkC g (.slice AU nU cU) (.slice AL nL cL))) ?_ stk_agg stk_size ?_ (fun j v hv=>by rw [Nat.zero_add];exact ((R2.out.on hSw).cell j).trans hv) rfl <;> rfl
 (try simp only [Act.put,pu1,pu2,pu3])
 refine wpPlan_take (v:=?_) (by kernel_rfl) (fun wS hSw=>?_) ?_
 rotate_left
 ·refine execOp_load (x:=.tmp 3) (k:=13) (g:=w.heap.size+1) (off:=0) (cs:=(nodC x (.slice D n c) (.slice C m d))) ?_ nod_agg nod_size ?_ (fun j v hv=>by rw [Nat.zero_add];exact ((R3.out.on hSw).cell j).trans hv) rfl <;> rfl
 (try simp only [Act.put,pu1,pu2,pu3])
 refine wpPlan_call (by kernel_rfl) (fun K hK=>?_)
 have hOld:=hide hHeld
 clear hHeld
 go_simp
 go_at_call 13
 refine (Stale_any H2.out hh.1 hh.2 _ (HU.out.under hOld.out (by omega)) (HL.out.under hOld.out (by omega)) (by have:=hOld.out.size;omega) HF.out HFU.out).mono ?_
 rintro e w' ⟨rfl,hbel⟩
 refine hK.out _ _ (hOld.out.trans (hbel.mono hOld.out.size)) (fun hHeld=>?_)
 clear hK K
 (try simp only [Act.put,pu1,pu2,pu3])
 refine wpPlan_call (by kernel_rfl) (fun K hK=>?_)
 have hOld:=hide hHeld
 clear hHeld
 go_simp
 go_at_call 14
 refine (RStale_any H2.out hh.1 hh.2 _ (HU.out.under hOld.out (by omega)) (HL.out.under hOld.out (by omega)) (by have:=hOld.out.size;omega) HF.out HFU.out).mono ?_
 rintro e w' ⟨rfl,hbel⟩
 refine hK.out _ _ (hOld.out.trans (hbel.mono hOld.out.size)) (fun hHeld=>?_)
 clear hK K
 (try simp only [Act.put,pu1,pu2,pu3])
 refine wpPlan_take (v:=?_) (by kernel_rfl) (fun wS hSw=>?_) ?_
 rotate_left
 ·(try dsimp only at hSw);have qx:(b2==b2)=true:=(by simp);go_simp;(try with_reducible rfl)
 (try simp only [Act.put,pu1,pu2,pu3])
 iterate 2
  refine wpPlan_take (v:=?_) (by kernel_rfl) (fun wS hSw=>?_) ?_
  rotate_left
  ·(try dsimp only at hSw);go_simp;(try with_reducible rfl)
  (try simp only [Act.put,pu1,pu2,pu3])
 refine wpPlan_take (v:=?_) (by kernel_rfl) (fun wS hSw=>?_) ?_
 rotate_left
 ·refine execOp_load (x:=.tmp 2) (k:=6) (g:=w.heap.size) (off:=0) (cs:=(stkC g (.slice AU nU cU) (.slice AL nL cL))) ?_ stk_agg stk_size ?_ (fun j v hv=>by rw [Nat.zero_add];exact ((R2.out.on hSw).cell j).trans hv) rfl <;> rfl
 (try simp only [Act.put,pu1,pu2,pu3])
 refine wpPlan_take (v:=?_) (by kernel_rfl) (fun wS hSw=>?_) ?_
 rotate_left
 ·refine execOp_load (x:=.tmp 3) (k:=13) (g:=w.heap.size+1) (off:=0) (cs:=(nodC x (.slice D n c) (.slice C m d))) ?_ nod_agg nod_size ?_ (fun j v hv=>by rw [Nat.zero_add];exact ((R3.out.on hSw).cell j).trans hv) rfl <;> rfl
 (try simp only [Act.put,pu1,pu2,pu3])
 refine wpPlan_take (v:=?_) (by kernel_rfl) (fun wS hSw=>?_) ?_
 rotate_left
 ·refine execOp_load (x:=.tmp 2) (k:=6) (g:=w.heap.size) (off:=0) (cs:=(stkC g (.slice AU nU cU) (.slice AL nL cL))) ?_ stk_agg stk_size ?_ (fun j v hv=>by rw [Nat.zero_add];exact ((R2.out.on hSw).cell j).trans hv) rfl <;> rfl
 (try simp only [Act.put,pu1,pu2,pu3])
 refine wpPlan_take (v:=?_) (by kernel_rfl) (fun wS hSw=>?_) ?_
 rotate_left
 ·refine execOp_load (x:=.tmp 3) (k:=13) (g:=w.heap.size+1) (off:=0) (cs:=(nodC x (.slice D n c) (.slice C m d))) ?_ nod_agg nod_size ?_ (fun j v hv=>by rw [Nat.zero_add];exact ((R3.out.on hSw).cell j).trans hv) rfl <;> rfl
 (try simp only [Act.put,pu1,pu2,pu3])
 refine wpPlan_call (by kernel_rfl) (fun K hK=>?_)
 have hOld:=hide hHeld
 clear hHeld
 go_simp
 go_at_call 15
 refine (Lacks_any H3.out hh.1 hh.2 _ (HU.out.under hOld.out (by omega)) (HL.out.under hOld.out (by omega)) (by have:=hOld.out.size;omega) HF.out HFU.out).mono ?_
 rintro e w' ⟨rfl,hbel⟩
 refine hK.out _ _ (hOld.out.trans (hbel.mono hOld.out.size)) (fun hHeld=>?_)
 clear hK K
 (try simp only [Act.put,pu1,pu2,pu3])
 refine wpPlan_call (by kernel_rfl) (fun K hK=>?_)
 have hOld:=hide hHeld
 clear hHeld
 go_simp
 go_at_call 16
 refine (RLacks_any H3.out hh.1 hh.2 _ (HU.out.under hOld.out (by omega)) (HL.out.under hOld.out (by omega)) (by have:=hOld.out.size;omega) HF.out HFU.out).mono ?_
 rintro e w' ⟨rfl,hbel⟩
 refine hK.out _ _ (hOld.out.trans (hbel.mono hOld.out.size)) (fun hHeld=>?_)
 clear hK K
 (try simp only [Act.put,pu1,pu2,pu3])
 refine wpPlan_take (v:=?_) (by kernel_rfl) (fun wS hSw=>?_) ?_
 rotate_left
 ·(try dsimp only at hSw);have qx:(b3==b3)=true:=(by simp);go_simp;(try with_reducible rfl)
 (try simp only [Act.put,pu1,pu2,pu3])
 iterate 2
  refine wpPlan_take (v:=?_) (by kernel_rfl) (fun wS hSw=>?_) ?_
  rotate_left
  ·(try dsimp only at hSw);go_simp;(try with_reducible rfl)
  (try simp only [Act.put,pu1,pu2,pu3])
 refine wpPlan_call (by kernel_rfl) (fun K hK=>?_)
 have hOld:=hide hHeld
 clear hHeld
 go_simp
 go_at_call 7
 refine (awake22_any _ (HC.out.below (HB.out.trans (hOld.out.mono HB.out.size)))).mono ?_
 rintro e w' ⟨rfl,hbel⟩
 refine hK.out _ _ (hOld.out.trans (hbel.mono hOld.out.size)) (fun hHeld=>?_)
 clear hK K
 (try simp only [Act.put,pu1,pu2,pu3])
 iterate 2
  refine wpPlan_take (v:=?_) (by kernel_rfl) (fun wS hSw=>?_) ?_
  rotate_left
  ·(try dsimp only at hSw);go_simp;(try with_reducible rfl)
  (try simp only [Act.put,pu1,pu2,pu3])
 refine wpPlan_end ?_
 have HBX:=hide (HB.out.trans (hHeld.mono HB.out.size))
 clear hHeld
 go_wp2_with fail
 go_ret
 exact LawOk.of HBX.out
end Go.Proofs.YtfdbhldnohaopaaDoor

