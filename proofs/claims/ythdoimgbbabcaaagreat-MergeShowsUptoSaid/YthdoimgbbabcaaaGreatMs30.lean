import Derived.Test.YthdoimgbbabcaaaGreatMs20
import Derived.Test.YthdoimgbbabcaaaGreatMs21

namespace Go.Proofs.YthdoimgbbabcaaaGreat
open Go.RowKit Go.Shelf Plain

set_option maxRecDepth 100000 in
set_option maxHeartbeats 16000000 in
theorem REnt17_any {g:GeoQ} {AU AL:Option Addr} {nU cU nL cL B:Nat} {up:List NodV} {u:Int} {AV:Option Addr} {nV cV:Nat} {nm:List UInt8} (w:World) (hu:RdE nodEn w (Under B) AU nU up) (hB:B≤w.heap.size) (hup:FewU up):Calls Tryz.prog 93 #[.agg (stkC g (.slice AU nU cU) (.slice AL nL cL)).toArray,.agg (viwC u (.slice AV nV cV)).toArray,.string ⟨nm.toArray⟩] w (fun e w'=>e=.returned (.tuple #[.agg (cellsE (entO (firstB up u nm))).toArray,.bool (firstB up u nm).isSome])∧Below w.heap.size w w'):=by
 obtain ⟨W1,hW1⟩:∃W1,(((w.alloc (.cells (stkC g (.slice AU nU cU) (.slice AL nL cL)).toArray 29)).alloc (.cells (viwC u (.slice AV nV cV)).toArray 47)).alloc (.cells ([.int .i64 0,.int .i64 0,.string ⟨#[]⟩]:List Value).toArray 42))=W1:=⟨_,rfl⟩
 obtain ⟨r0,r1,r2,hb1,hs1⟩:=rowA3 w _ _ _ _ _ _ hW1
 have hW1':(((w.alloc (.cells #[.int .i64 g.a,.int .i64 g.b,.int .i64 g.c,.int .i64 g.d,.slice AU nU cU,.slice AL nL cL] 29)).alloc (.cells #[.int .i64 u,.slice AV nV cV] 47)).alloc (.cells #[.int .i64 0,.int .i64 0,.string ⟨#[]⟩] 42))=W1:=hW1
 have R3:=hide r0
 have R4:=hide r1
 have R6:=hide r2
 have HB:=hide hb1
 have hsz0:=hb1.size
 have HU:=hide (hu.under hb1 hB)
 have HFU:=hide hup
 obtain ⟨x,hx⟩:∃x,nodAt up u=x:=⟨_,rfl⟩
 have HX:=hide hx
 obtain ⟨FO,hFO⟩:∃FO,firstB up u nm=FO:=⟨_,rfl⟩
 have hpx:PlainN x:=by rw [←hx];exact nodAt_plain hup.2 u
 have hx16:=hpx.2.2.2.2.1
 have HEL:=hide (show x.k=1→entB up u=x.ents from fun hk=>by unfold entB;rw [hx,if_pos hk])
 have HNL:=hide (show x.k≠1→FO=none from fun hk=>by rw [←hFO];unfold firstB entB;rw [hx,if_neg hk];rfl)
 rw [hFO]
 have HFO:=hide hFO
 have q3_4:W1.cell? ⟨w.heap.size,4,none⟩=some (.slice AU nU cU):=R3.out.cell 4
 have q4_0:W1.cell? ⟨w.heap.size+1,0,none⟩=some (.int .i64 u):=R4.out.cell 0
 unfold stkC viwC
 clear r0 r1 r2 hb1 hW1 hu hup hx hpx hFO
 go_enter Tryz.func93,Tryz.ntmps93
 go_wp2_with (first|(go_at_call 101;refine (At_e HX.out W1 HU.out (by omega) (by have:=HFU.out.1;omega)).mono ?_;rintro e1 wN ⟨A1,n1,c1,C1,m1,d1,rfl,-,-,-,e5,hbel⟩;clear q3_4 q4_0;replace HB:=hide (HB.out.trans (hbel.mono HB.out.size));replace R3:=hide (R3.out.on hbel);replace R4:=hide (R4.out.on hbel);replace R6:=hide (R6.out.on hbel);replace HU:=hide (HU.out.under hbel (by omega));have hsz2:=hbel.size;have q3_4:wN.cell? ⟨w.heap.size,4,none⟩=some (.slice AU nU cU):=R3.out.cell 4;have q4_0:wN.cell? ⟨w.heap.size+1,0,none⟩=some (.int .i64 u):=R4.out.cell 0;have HE:=hide e5;clear e5;clear hbel)|(refine wpList_storeW rfl 38 (.tmp 8) (.tmp 14) rfl 13 nod_size (wN.heap.size) 38 rfl (nodC nod0 (.slice none 0 0) (.slice none 0 0)) (nodC x (.slice A1 n1 c1) (.slice C1 m1 d1)) rfl (RowL.new wN 38 (nodC nod0 (.slice none 0 0) (.slice none 0 0))) rfl rfl (nodC_one _ _ _ _ _ _ _) ?_;intro wS3 hr3 hg3 hs3;have hzb:=below_stored' hg3;clear q3_4 q4_0;replace HB:=hide (HB.out.trans (hzb.mono HB.out.size));replace R3:=hide (R3.out.on hzb);replace R4:=hide (R4.out.on hzb);replace R6:=hide (R6.out.on hzb);replace HU:=hide (HU.out.under hzb (by omega));replace HE:=hide (HE.out.under hzb (by omega));have hsz4:=hzb.size;have q3_4:wS3.cell? ⟨w.heap.size,4,none⟩=some (.slice AU nU cU):=R3.out.cell 4;have q4_0:wS3.cell? ⟨w.heap.size+1,0,none⟩=some (.int .i64 u):=R4.out.cell 0;have RN:=hide hr3;have hlt3:=hr3.lt;have q8_5:wS3.cell? ⟨wN.heap.size,5,none⟩=some (.slice C1 m1 d1):=RN.out.cell 5;have q8_0:wS3.cell? ⟨wN.heap.size,0,none⟩=some (.int .i64 x.k):=RN.out.cell 0;clear hzb hr3;clear hg3 hs3))
 have HEM:=hide HE.out.1
 have hm16:m1≤16:=by have:=HEM.out;omega
 clear hW1' q3_4 q4_0 q8_5 q8_0
 go_loopw [9] (fun v9 wr=>∃j:Nat,j≤m1∧v9=.int .i64 j∧Below wS3.heap.size wS3 wr∧(x.ents.take j).find? (useB up nm)=none) (fun v9 _=>m1 - (intOf v9).toNat)
 case atStart=>exact ⟨0,by omega,rfl,below_self _,by simp⟩
 case round =>
  obtain ⟨j,hj,rfl,hbr,hnone⟩:=hrel
  have HN:=hide hnone
  replace HB:=hide (HB.out.trans (hbr.mono HB.out.size))
  replace R3:=hide (R3.out.on hbr)
  replace R4:=hide (R4.out.on hbr)
  replace R6:=hide (R6.out.on hbr)
  replace HU:=hide (HU.out.under hbr (by omega))
  replace HE:=hide (HE.out.under hbr (by omega))
  replace RN:=hide (RN.out.on hbr)
  have hsz5:=hbr.size
  have q3_4:wr.cell? ⟨w.heap.size,4,none⟩=some (.slice AU nU cU):=R3.out.cell 4
  have q4_0:wr.cell? ⟨w.heap.size+1,0,none⟩=some (.int .i64 u):=R4.out.cell 0
  have q8_5:wr.cell? ⟨wN.heap.size,5,none⟩=some (.slice C1 m1 d1):=RN.out.cell 5
  have q8_0:wr.cell? ⟨wN.heap.size,0,none⟩=some (.int .i64 x.k):=RN.out.cell 0
  have HBR:=hide hbr
  clear hbr hnone
  by_cases hlt:j < m1
  ·have hjm:(j:Int) < (m1:Int):=by omega
   by_cases hk:x.k=1
   rotate_left
   ·have hk1:(x.k==1)=false:=by simpa using hk
    have eFO:=HNL.out hk
    subst eFO
    go_wp2_with (first|(refine wpList_storeW rfl 42 (.tmp 6) (.tmp 53) rfl 3 entw_size (w.heap.size+1+1) 42 rfl [.int .i64 0,.int .i64 0,.string ⟨#[]⟩] (cellsE ent0) rfl R6.out rfl rfl (cellsE_one _) ?_;intro wS6 hr6 hg6 hs6;clear q3_4 q4_0 q8_5 q8_0;replace HB:=hide (HB.out.grown hg6 (by omega) (pu4 (by omega)));replace R3:=hide (R3.out.grown hg6 (pu5 (by omega)));replace R4:=hide (R4.out.grown hg6 (pu5 (by omega)));replace HU:=hide (und_grown HU.out hg6 (by omega) (by omega));replace HE:=hide (und_grown HE.out hg6 (by omega) (by omega));replace RN:=hide (RN.out.grown hg6 (pu5 (by omega)));have hsz7:=hg6.size;replace R6:=hide hr6;have q3_4:wS6.cell? ⟨w.heap.size,4,none⟩=some (.slice AU nU cU):=R3.out.cell 4;have q4_0:wS6.cell? ⟨w.heap.size+1,0,none⟩=some (.int .i64 u):=R4.out.cell 0;have q8_5:wS6.cell? ⟨wN.heap.size,5,none⟩=some (.slice C1 m1 d1):=RN.out.cell 5;have q8_0:wS6.cell? ⟨wN.heap.size,0,none⟩=some (.int .i64 x.k):=RN.out.cell 0;clear hr6 hg6 hs6))
    exact bodyPost_ret (res_cell2 Tryz.results93 rfl rfl entw_agg entw_size R6.out rfl) rfl ⟨rfl,HB.out⟩
   have hk1:(x.k==1)=true:=by simpa using hk
   obtain ⟨e,he⟩:∃e,x.ents[j]?=some e:=⟨_,List.getElem?_eq_getElem (by have:=HEM.out;omega)⟩
   obtain ⟨bE,oE,rfl,hbE,hcE⟩:=ent_get HE.out he
   have hbE':bE < wr.heap.size:=by have:bE < B:=hbE;omega
   have HCE:=hide hcE
   have HEJ:=hide he
   obtain ⟨y,hy⟩:∃y,nodAt up e.ino=y:=⟨_,rfl⟩
   have HY:=hide hy
   obtain ⟨b2,hb2⟩:∃b2,(y.k != 0)=b2:=⟨_,rfl⟩
   clear hcE he
   go_wp2_with fail
   clear q3_4 q4_0 q8_5 q8_0
   by_cases hnm:e.name=nm
   rotate_left
   ·have HU2:=hide (show useB up nm e=false from by unfold useB;simp [hnm])
    have hnb1:(e.name==nm)=false:=by simpa using hnm
    have hnb3:¬({data:=e.name.toArray}:ByteArray)={data:=nm.toArray}:=by simpa using hnm
    clear hy hb2
    refine wp_region_planN (fun w'=>Below wr.heap.size wr w') [(0,true),(1,true),(2,true),(3,true),(4,true),(5,true),(6,true),(7,true),(8,true),(9,true),(10,true),(11,true),(12,true),(13,true),(14,true),(15,true),(16,true),(17,false),(18,true),(19,true),(20,true)] (by kernel_rfl) (by kernel_rfl) (by kernel_rfl) (by kernel_rfl) rfl (fun _ _ _ _ _ h=>h) (below_drew (below_self wr)) (fun hHeld=>?_)
    simp only [planOps,List.filterMap_cons,List.filterMap_nil,List.getElem?_toArray,List.getElem?_cons_succ,List.getElem?_cons_zero,Option.map_some]
    refine wpPlan_take (v:=?_) (by kernel_rfl) (fun wS hSw=>?_) ?_
    rotate_left
    ·(try dsimp only at hSw);go_simp;(try with_reducible rfl)
    (try simp only [Act.put,pu1,pu2,pu3])
    refine wpPlan_take (v:=?_) (by kernel_rfl) (fun wS hSw=>?_) ?_
    rotate_left
    ·have qx:=((RN.out.on hSw).cell 5).trans (show (nodC x (.slice A1 n1 c1) (.slice (some ⟨bE,oE,none⟩) m1 d1))[5]?=some (.slice (some ⟨bE,oE,none⟩) m1 d1) from rfl);go_simp;(try with_reducible rfl)
    (try simp only [Act.put,pu1,pu2,pu3])
    iterate 3
     refine wpPlan_take (v:=?_) (by kernel_rfl) (fun wS hSw=>?_) ?_
     rotate_left
     ·(try dsimp only at hSw);go_simp;(try with_reducible rfl)
     (try simp only [Act.put,pu1,pu2,pu3])
    refine wpPlan_take (v:=?_) (by kernel_rfl) (fun wS hSw=>?_) ?_
    rotate_left
    ·have qx:=(hSw.cell (p:=⟨bE,oE+j*3+2,none⟩) hbE').trans (HCE.out 2 _ rfl);go_simp;(try with_reducible rfl)
    (try simp only [Act.put,pu1,pu2,pu3])
    iterate 3
     refine wpPlan_take (v:=?_) (by kernel_rfl) (fun wS hSw=>?_) ?_
     rotate_left
     ·(try dsimp only at hSw);go_simp;(try with_reducible rfl)
     (try simp only [Act.put,pu1,pu2,pu3])
    refine wpPlan_skip (by kernel_rfl) ?_
    (try simp only [Act.put,pu1,pu2,pu3])
    refine wpPlan_skip (by kernel_rfl) ?_
    (try simp only [Act.put,pu1,pu2,pu3])
    refine wpPlan_skip (by kernel_rfl) ?_
    (try simp only [Act.put,pu1,pu2,pu3])
    refine wpPlan_skip (by kernel_rfl) ?_
    (try simp only [Act.put,pu1,pu2,pu3])
    refine wpPlan_skip (by kernel_rfl) ?_
    (try simp only [Act.put,pu1,pu2,pu3])
    refine wpPlan_skip (by kernel_rfl) ?_
    (try simp only [Act.put,pu1,pu2,pu3])
    refine wpPlan_skip (by kernel_rfl) ?_
    (try simp only [Act.put,pu1,pu2,pu3])
    refine wpPlan_skip (by kernel_rfl) ?_
    (try simp only [Act.put,pu1,pu2,pu3])
    refine wpPlan_skip (by kernel_rfl) ?_
    (try simp only [Act.put,pu1,pu2,pu3])
    refine wpPlan_skip (by kernel_rfl) ?_
    (try simp only [Act.put,pu1,pu2,pu3])
    refine wpPlan_skip (by kernel_rfl) ?_
    (try simp only [Act.put,pu1,pu2,pu3])
    refine wpPlan_take (v:=?_) (by kernel_rfl) (fun wS hSw=>?_) ?_
    rotate_left
    ·(try dsimp only at hSw);go_simp;(try with_reducible rfl)
    (try simp only [Act.put,pu1,pu2,pu3])
    refine wpPlan_end ?_
    have HBX:=hide (HBR.out.trans (hHeld.mono HBR.out.size))
    clear hHeld
    go_wp2_with fail
    go_roundw
    case rel=>exact ⟨j+1,by omega,by go_num,HBX.out,find_take_none HN.out HEJ.out HU2.out⟩
    case measure=>simp [intOf];omega
   have HU2:=hide (show useB up nm e=b2 from by
    rw [←hb2,←hy]
    unfold useB
    by_cases hk0:(nodAt up e.ino).k=0 <;> simp [hk0,hnm])
   subst hnm
   have hee:(e.name==e.name)=true:=by simp
   clear hy
   cases b2
   ·skip
    refine wp_region_planN (fun w'=>Below wr.heap.size wr w') [(0,true),(1,true),(2,true),(3,true),(4,true),(5,true),(6,true),(7,true),(8,true),(9,true),(10,true),(11,true),(12,true),(13,true),(14,true),(15,true),(16,true),(17,false),(18,true),(19,true),(20,true)] (by kernel_rfl) (by kernel_rfl) (by kernel_rfl) (by kernel_rfl) rfl (fun _ _ _ _ _ h=>h) (below_drew (below_self wr)) (fun hHeld=>?_)
    simp only [planOps,List.filterMap_cons,List.filterMap_nil,List.getElem?_toArray,List.getElem?_cons_succ,List.getElem?_cons_zero,Option.map_some]
    refine wpPlan_take (v:=?_) (by kernel_rfl) (fun wS hSw=>?_) ?_
    rotate_left
    ·(try dsimp only at hSw);go_simp;(try with_reducible rfl)
    (try simp only [Act.put,pu1,pu2,pu3])
    refine wpPlan_take (v:=?_) (by kernel_rfl) (fun wS hSw=>?_) ?_
    rotate_left
    ·have qx:=((RN.out.on hSw).cell 5).trans (show (nodC x (.slice A1 n1 c1) (.slice (some ⟨bE,oE,none⟩) m1 d1))[5]?=some (.slice (some ⟨bE,oE,none⟩) m1 d1) from rfl);go_simp;(try with_reducible rfl)
    (try simp only [Act.put,pu1,pu2,pu3])
    iterate 3
     refine wpPlan_take (v:=?_) (by kernel_rfl) (fun wS hSw=>?_) ?_
     rotate_left
     ·(try dsimp only at hSw);go_simp;(try with_reducible rfl)
     (try simp only [Act.put,pu1,pu2,pu3])
    refine wpPlan_take (v:=?_) (by kernel_rfl) (fun wS hSw=>?_) ?_
    rotate_left
    ·have qx:=(hSw.cell (p:=⟨bE,oE+j*3+2,none⟩) hbE').trans (HCE.out 2 _ rfl);go_simp;(try with_reducible rfl)
    (try simp only [Act.put,pu1,pu2,pu3])
    iterate 4
     refine wpPlan_take (v:=?_) (by kernel_rfl) (fun wS hSw=>?_) ?_
     rotate_left
     ·(try dsimp only at hSw);go_simp;(try with_reducible rfl)
     (try simp only [Act.put,pu1,pu2,pu3])
    refine wpPlan_take (v:=?_) (by kernel_rfl) (fun wS hSw=>?_) ?_
    rotate_left
    ·have qx:=((R3.out.on hSw).cell 4).trans (show (stkC g (.slice AU nU cU) (.slice AL nL cL))[4]?=some (.slice AU nU cU) from rfl);go_simp;(try with_reducible rfl)
    (try simp only [Act.put,pu1,pu2,pu3])
    refine wpPlan_take (v:=?_) (by kernel_rfl) (fun wS hSw=>?_) ?_
    rotate_left
    ·(try dsimp only at hSw);go_simp;(try with_reducible rfl)
    (try simp only [Act.put,pu1,pu2,pu3])
    refine wpPlan_take (v:=?_) (by kernel_rfl) (fun wS hSw=>?_) ?_
    rotate_left
    ·have qx:=((RN.out.on hSw).cell 5).trans (show (nodC x (.slice A1 n1 c1) (.slice (some ⟨bE,oE,none⟩) m1 d1))[5]?=some (.slice (some ⟨bE,oE,none⟩) m1 d1) from rfl);go_simp;(try with_reducible rfl)
    (try simp only [Act.put,pu1,pu2,pu3])
    iterate 3
     refine wpPlan_take (v:=?_) (by kernel_rfl) (fun wS hSw=>?_) ?_
     rotate_left
     ·(try dsimp only at hSw);go_simp;(try with_reducible rfl)
     (try simp only [Act.put,pu1,pu2,pu3])
    refine wpPlan_take (v:=?_) (by kernel_rfl) (fun wS hSw=>?_) ?_
    rotate_left
    ·have qx:=(hSw.cell (p:=⟨bE,oE+j*3+1,none⟩) hbE').trans (HCE.out 1 _ rfl);go_simp;(try with_reducible rfl)
    (try simp only [Act.put,pu1,pu2,pu3])
    refine wpPlan_call (by kernel_rfl) (fun K hK=>?_)
    have hOld:=hide hHeld
    clear hHeld
    go_simp
    go_at_call 101
    refine (At_e HY.out (B:=B) _ (HU.out.under hOld.out (by omega)) (by have:=hOld.out.size;omega) (by have:=HFU.out.1;omega)).mono ?_
    rintro e w' ⟨A9,n9,c9,C9,m9,d9,rfl,-,-,-,-,hbel⟩
    have hf0:=nod_f0 y (.slice A9 n9 c9) (.slice C9 m9 d9)
    refine hK.out _ _ (hOld.out.trans (hbel.mono hOld.out.size)) (fun hHeld=>?_)
    clear hK K
    (try simp only [Act.put,pu1,pu2,pu3])
    iterate 3
     refine wpPlan_take (v:=?_) (by kernel_rfl) (fun wS hSw=>?_) ?_
     rotate_left
     ·(try dsimp only at hSw);go_simp;(try with_reducible rfl)
     (try simp only [Act.put,pu1,pu2,pu3])
    refine wpPlan_end ?_
    have HBX:=hide (HBR.out.trans (hHeld.mono HBR.out.size))
    clear hHeld
    go_wp2_with fail
    go_roundw
    case rel=>exact ⟨j+1,by omega,by go_num,HBX.out,find_take_none HN.out HEJ.out HU2.out⟩
    case measure=>simp [intOf];omega
   ·skip
    refine wp_region_planN (fun w'=>Below wr.heap.size wr w') [(0,true),(1,true),(2,true),(3,true),(4,true),(5,true),(6,true),(7,true),(8,true),(9,true),(10,true),(11,true),(12,true),(13,true),(14,true),(15,true),(16,true),(17,false),(18,true),(19,true),(20,true)] (by kernel_rfl) (by kernel_rfl) (by kernel_rfl) (by kernel_rfl) rfl (fun _ _ _ _ _ h=>h) (below_drew (below_self wr)) (fun hHeld=>?_)
    simp only [planOps,List.filterMap_cons,List.filterMap_nil,List.getElem?_toArray,List.getElem?_cons_succ,List.getElem?_cons_zero,Option.map_some]
    refine wpPlan_take (v:=?_) (by kernel_rfl) (fun wS hSw=>?_) ?_
    rotate_left
    ·(try dsimp only at hSw);go_simp;(try with_reducible rfl)
    (try simp only [Act.put,pu1,pu2,pu3])
    refine wpPlan_take (v:=?_) (by kernel_rfl) (fun wS hSw=>?_) ?_
    rotate_left
    ·have qx:=((RN.out.on hSw).cell 5).trans (show (nodC x (.slice A1 n1 c1) (.slice (some ⟨bE,oE,none⟩) m1 d1))[5]?=some (.slice (some ⟨bE,oE,none⟩) m1 d1) from rfl);go_simp;(try with_reducible rfl)
    (try simp only [Act.put,pu1,pu2,pu3])
    iterate 3
     refine wpPlan_take (v:=?_) (by kernel_rfl) (fun wS hSw=>?_) ?_
     rotate_left
     ·(try dsimp only at hSw);go_simp;(try with_reducible rfl)
     (try simp only [Act.put,pu1,pu2,pu3])
    refine wpPlan_take (v:=?_) (by kernel_rfl) (fun wS hSw=>?_) ?_
    rotate_left
    ·have qx:=(hSw.cell (p:=⟨bE,oE+j*3+2,none⟩) hbE').trans (HCE.out 2 _ rfl);go_simp;(try with_reducible rfl)
    (try simp only [Act.put,pu1,pu2,pu3])
    iterate 4
     refine wpPlan_take (v:=?_) (by kernel_rfl) (fun wS hSw=>?_) ?_
     rotate_left
     ·(try dsimp only at hSw);go_simp;(try with_reducible rfl)
     (try simp only [Act.put,pu1,pu2,pu3])
    refine wpPlan_take (v:=?_) (by kernel_rfl) (fun wS hSw=>?_) ?_
    rotate_left
    ·have qx:=((R3.out.on hSw).cell 4).trans (show (stkC g (.slice AU nU cU) (.slice AL nL cL))[4]?=some (.slice AU nU cU) from rfl);go_simp;(try with_reducible rfl)
    (try simp only [Act.put,pu1,pu2,pu3])
    refine wpPlan_take (v:=?_) (by kernel_rfl) (fun wS hSw=>?_) ?_
    rotate_left
    ·(try dsimp only at hSw);go_simp;(try with_reducible rfl)
    (try simp only [Act.put,pu1,pu2,pu3])
    refine wpPlan_take (v:=?_) (by kernel_rfl) (fun wS hSw=>?_) ?_
    rotate_left
    ·have qx:=((RN.out.on hSw).cell 5).trans (show (nodC x (.slice A1 n1 c1) (.slice (some ⟨bE,oE,none⟩) m1 d1))[5]?=some (.slice (some ⟨bE,oE,none⟩) m1 d1) from rfl);go_simp;(try with_reducible rfl)
    (try simp only [Act.put,pu1,pu2,pu3])
    iterate 3
     refine wpPlan_take (v:=?_) (by kernel_rfl) (fun wS hSw=>?_) ?_
     rotate_left
     ·(try dsimp only at hSw);go_simp;(try with_reducible rfl)
     (try simp only [Act.put,pu1,pu2,pu3])
    refine wpPlan_take (v:=?_) (by kernel_rfl) (fun wS hSw=>?_) ?_
    rotate_left
    ·have qx:=(hSw.cell (p:=⟨bE,oE+j*3+1,none⟩) hbE').trans (HCE.out 1 _ rfl);go_simp;(try with_reducible rfl)
    (try simp only [Act.put,pu1,pu2,pu3])
    refine wpPlan_call (by kernel_rfl) (fun K hK=>?_)
    have hOld:=hide hHeld
    clear hHeld
    go_simp
    go_at_call 101
    refine (At_e HY.out (B:=B) _ (HU.out.under hOld.out (by omega)) (by have:=hOld.out.size;omega) (by have:=HFU.out.1;omega)).mono ?_
    rintro e w' ⟨A9,n9,c9,C9,m9,d9,rfl,-,-,-,-,hbel⟩
    have hf0:=nod_f0 y (.slice A9 n9 c9) (.slice C9 m9 d9)
    refine hK.out _ _ (hOld.out.trans (hbel.mono hOld.out.size)) (fun hHeld=>?_)
    clear hK K
    (try simp only [Act.put,pu1,pu2,pu3])
    iterate 3
     refine wpPlan_take (v:=?_) (by kernel_rfl) (fun wS hSw=>?_) ?_
     rotate_left
     ·(try dsimp only at hSw);go_simp;(try with_reducible rfl)
     (try simp only [Act.put,pu1,pu2,pu3])
    refine wpPlan_end ?_
    have eFO:FO=some e:=by
     rw [←HFO.out]
     unfold firstB
     rw [HEL.out hk,find_take_some HN.out HEJ.out HU2.out]
    subst eFO
    replace HCE:=hide (fun (j':Nat) (v:Value) (hv:(cellsE e)[j']?=some v)=>(hHeld.cell (p:=⟨bE,oE+j*3+j',none⟩) hbE').trans (HCE.out j' v hv))
    replace HB:=hide (HB.out.trans (hHeld.mono HB.out.size))
    replace R3:=hide (R3.out.on hHeld)
    replace R4:=hide (R4.out.on hHeld)
    replace R6:=hide (R6.out.on hHeld)
    replace HU:=hide (HU.out.under hHeld (by omega))
    replace HE:=hide (HE.out.under hHeld (by omega))
    replace RN:=hide (RN.out.on hHeld)
    have hsz6:=hHeld.size
    have q3_4:w'.cell? ⟨w.heap.size,4,none⟩=some (.slice AU nU cU):=R3.out.cell 4
    have q4_0:w'.cell? ⟨w.heap.size+1,0,none⟩=some (.int .i64 u):=R4.out.cell 0
    have q8_5:w'.cell? ⟨wN.heap.size,5,none⟩=some (.slice (some ⟨bE,oE,none⟩) m1 d1):=RN.out.cell 5
    have q8_0:w'.cell? ⟨wN.heap.size,0,none⟩=some (.int .i64 x.k):=RN.out.cell 0
    clear hHeld
    go_wp2_with (first|(refine wpList_loadX rfl 42 (.tmp 51) rfl 3 entw_agg entw_size bE (oE+j*3) rfl (cellsE e) HCE.out rfl ?_)|(refine wpList_storeW rfl 42 (.tmp 6) (.tmp 52) rfl 3 entw_size (w.heap.size+1+1) 42 rfl [.int .i64 0,.int .i64 0,.string ⟨#[]⟩] (cellsE e) rfl R6.out rfl rfl (cellsE_one _) ?_;intro wS7 hr7 hg7 hs7;clear q3_4 q4_0 q8_5 q8_0;replace HB:=hide (HB.out.grown hg7 (by omega) (pu4 (by omega)));replace R3:=hide (R3.out.grown hg7 (pu5 (by omega)));replace R4:=hide (R4.out.grown hg7 (pu5 (by omega)));replace HU:=hide (und_grown HU.out hg7 (by omega) (by omega));replace HE:=hide (und_grown HE.out hg7 (by omega) (by omega));replace RN:=hide (RN.out.grown hg7 (pu5 (by omega)));have hsz8:=hg7.size;replace R6:=hide hr7;have q3_4:wS7.cell? ⟨w.heap.size,4,none⟩=some (.slice AU nU cU):=R3.out.cell 4;have q4_0:wS7.cell? ⟨w.heap.size+1,0,none⟩=some (.int .i64 u):=R4.out.cell 0;have q8_5:wS7.cell? ⟨wN.heap.size,5,none⟩=some (.slice (some ⟨bE,oE,none⟩) m1 d1):=RN.out.cell 5;have q8_0:wS7.cell? ⟨wN.heap.size,0,none⟩=some (.int .i64 x.k):=RN.out.cell 0;clear hr7 hg7 hs7))
    exact bodyPost_ret (res_cell2 Tryz.results93 rfl rfl entw_agg entw_size R6.out rfl) rfl ⟨rfl,HB.out⟩
  ·obtain rfl:m1=j:=by omega
   have hjj:¬(m1:Int) < (m1:Int):=by omega
   have eFO:FO=none:=by
    by_cases hk:x.k=1
    ·rw [←HFO.out]
     unfold firstB
     have h1:=HN.out
     rw [List.take_of_length_le (by have:=HEM.out;omega)] at h1
     rw [HEL.out hk,h1]
    ·exact HNL.out hk
   subst eFO
   go_wp2_with (first|(refine wpList_storeW rfl 42 (.tmp 6) (.tmp 53) rfl 3 entw_size (w.heap.size+1+1) 42 rfl [.int .i64 0,.int .i64 0,.string ⟨#[]⟩] (cellsE ent0) rfl R6.out rfl rfl (cellsE_one _) ?_;intro wS6 hr6 hg6 hs6;clear q3_4 q4_0 q8_5 q8_0;replace HB:=hide (HB.out.grown hg6 (by omega) (pu4 (by omega)));replace R3:=hide (R3.out.grown hg6 (pu5 (by omega)));replace R4:=hide (R4.out.grown hg6 (pu5 (by omega)));replace HU:=hide (und_grown HU.out hg6 (by omega) (by omega));replace HE:=hide (und_grown HE.out hg6 (by omega) (by omega));replace RN:=hide (RN.out.grown hg6 (pu5 (by omega)));have hsz7:=hg6.size;replace R6:=hide hr6;have q3_4:wS6.cell? ⟨w.heap.size,4,none⟩=some (.slice AU nU cU):=R3.out.cell 4;have q4_0:wS6.cell? ⟨w.heap.size+1,0,none⟩=some (.int .i64 u):=R4.out.cell 0;have q8_5:wS6.cell? ⟨wN.heap.size,5,none⟩=some (.slice C1 m1 d1):=RN.out.cell 5;have q8_0:wS6.cell? ⟨wN.heap.size,0,none⟩=some (.int .i64 x.k):=RN.out.cell 0;clear hr6 hg6 hs6))
   exact bodyPost_ret (res_cell2 Tryz.results93 rfl rfl entw_agg entw_size R6.out rfl) rfl ⟨rfl,HB.out⟩
theorem REnt17_e {g:GeoQ} {AU AL:Option Addr} {nU cU nL cL B:Nat} {up:List NodV} {u:Int} {AV:Option Addr} {nV cV:Nat} {nm:List UInt8} {E:EntV} {b:Bool} (hE:entO (firstB up u nm)=E) (hb:(firstB up u nm).isSome=b) (w:World) (hu:RdE nodEn w (Under B) AU nU up) (hB:B≤w.heap.size) (hup:FewU up):Calls Tryz.prog 93 #[.agg (stkC g (.slice AU nU cU) (.slice AL nL cL)).toArray,.agg (viwC u (.slice AV nV cV)).toArray,.string ⟨nm.toArray⟩] w (fun e w'=>e=.returned (.tuple #[.agg (cellsE E).toArray,.bool b])∧Below w.heap.size w w'):=by
 subst hE hb
 exact REnt17_any w hu hB hup
end Go.Proofs.YthdoimgbbabcaaaGreat

