import Derived.Test.YtggnbflbbfdohaaGreatSt35
import Derived.Test.YtggnbflbbfdohaaGreatSt36
import Derived.Test.YtggnbflbbfdohaaGreatSt32
import Derived.Test.YtggnbflbbfdohaaGreatSt34
import Derived.Test.YtggnbflbbfdohaaGreatSt16
import Derived.Test.YtggnbflbbfdohaaGreatSt19
import Derived.Test.YtggnbflbbfdohaaGreatSt17
import Derived.Test.YtggnbflbbfdohaaGreatSt30
import Derived.Test.YtggnbflbbfdohaaGreatSt9
import Derived.Test.YtggnbflbbfdohaaGreatSt31
import Derived.Test.YtggnbflbbfdohaaGreatSt8
import Derived.Test.YtggnbflbbfdohaaGreatSt24

namespace Go.Proofs.YtggnbflbbfdohaaGreat
open Go.RowKit Go.Shelf Plain

set_option maxRecDepth 100000 in
set_option maxHeartbeats 8000000 in
theorem RCount_any {g:GeoQ} {AU AL:Option Addr} {nU cU nL cL B:Nat} {up:List NodV} {ls:List (List NodV)} {p:Int×Int} (w:World) (hu:RdE nodEn w (Under B) AU nU up) (h:RdE layEn w (Under B) AL nL ls) (hB:B≤w.heap.size) (hF:FewL ls) (hup:FewU up):Calls Tryz.prog 12 #[.agg (stkC g (.slice AU nU cU) (.slice AL nL cL)).toArray,.agg #[.int .i64 p.1,.int .i64 p.2]] w (fun e w'=>e=.returned (.int .i64 (cntS (allS up ls) p))∧Below w.heap.size w w'):=by
 obtain ⟨W1,hW1⟩:∃W1,((w.alloc (.cells (stkC g (.slice AU nU cU) (.slice AL nL cL)).toArray 29)).alloc (.cells ([.int .i64 p.1,.int .i64 p.2]:List Value).toArray 31))=W1:=⟨_,rfl⟩;obtain ⟨r0,r1,hb1,hs1⟩:=rowA2 w _ _ _ _ hW1;have hW1':((w.alloc (.cells #[.int .i64 g.a,.int .i64 g.b,.int .i64 g.c,.int .i64 g.d,.slice AU nU cU,.slice AL nL cL] 29)).alloc (.cells #[.int .i64 p.1,.int .i64 p.2] 31))=W1:=hW1;have R2:=hide r0;have R3:=hide r1;have HB:=hide hb1;have hsz0:=hb1.size;have HU:=hide (hu.under hb1 hB);have HL:=hide (h.under hb1 hB);have HF:=hide hF;have HFU:=hide hup;have hal:=all_len HF.out HFU.out;obtain ⟨l,hl⟩:∃l,allS up ls=l:=⟨_,rfl⟩;have HLL:=hide hl;rw [hl] at hal;rw [hl]
 have hs1':w.heap.size+1≤W1.heap.size:=by omega
 have hs2':w.heap.size+1 < W1.heap.size:=by omega
 unfold stkC;clear r0 r1 hb1 hW1 hu h hF hup hs1 hl
 go_enter Tryz.func12,Tryz.ntmps12
 go_wp2_with (first|(refine wpList_loadW rfl 29 (.tmp 2) rfl 6 stk_agg stk_size (w.heap.size) 29 rfl (stkC g (.slice AU nU cU) (.slice AL nL cL)) R2.out rfl ?_))
 refine (RAll_any W1 HU.out HL.out (by omega) HF.out HFU.out).mono ?_
 rintro e1 w2 ⟨A9,n9,c9,rfl,-,hrd,hbel⟩
 rw [HLL.out] at hrd;have hln:l.length=n9:=hrd.1;have H:=hide hrd;have HB2:=hide (HB.out.trans (hbel.mono (by omega)));have R32:=hide (R3.out.on hbel);have hz2:=hbel.size;clear hrd hbel HU HL
 go_wp2_with fail
 go_loopw [7,5] (fun v7 v5 wr=>∃j:Nat,j≤n9∧v7=.int .i64 j∧v5=.int .i64 (cntS (l.take j) p)∧Below w2.heap.size w2 wr) (fun v7 _ _=>n9 - (intOf v7).toNat)
 case atStart=>exact ⟨0,by omega,rfl,rfl,below_self _⟩
 case round =>
  obtain ⟨j,hj,rfl,rfl,hbr⟩:=hrel;have HBR:=hide hbr;have hbs:=hbr.size;have R3r:=hide (R32.out.on hbr)
  by_cases hlt:j < n9
  ·obtain ⟨x,hx⟩:∃x,l[j]?=some x:=⟨_,List.getElem?_eq_getElem (by omega)⟩
   obtain ⟨b,o,rfl,hbD,hc⟩:=shn_get (H.out.on hbr) hx;have hbl:b < wr.heap.size:=hbD;have HCX:=hide hc
   have hjn:(j:Int) < (n9:Int):=by omega
   have hct:=cnt_succ (p:=p) hx;have hcl:cntS (l.take j) p≤180000000:=Nat.le_trans (cnt_le _ _) (by rw [List.length_take];omega);clear hbr hc hx hbD
   by_cases hk:x.2.1=1
   ·rw [if_pos hk,Nat.add_zero] at hct
    have HCT:=hide hct
    have hkn:(!decide (x.2.1=1))=false:=by simp [hk]
    have hkn2:(x.2.1 != 1)=false:=by simp [hk]
    clear hct
    go_wp2_with fail
    refine wp_region_planN (fun w'=>Below wr.heap.size wr w') [(0,true),(1,true),(2,true),(3,true),(4,true),(5,true),(6,true),(7,true),(8,true),(9,true),(10,true),(11,true),(12,true),(13,true),(14,true)] (by kernel_rfl) (by kernel_rfl) (by kernel_rfl) (by kernel_rfl) rfl (fun _ _ _ _ _ h=>h) (below_drew (below_self wr)) (fun hHh=>?_);simp only [planOps,List.filterMap_cons,List.filterMap_nil,List.getElem?_toArray,List.getElem?_cons_succ,List.getElem?_cons_zero,Option.map_some]
    iterate 4
     refine wpPlan_take (v:=?_) (by kernel_rfl) (fun wS hSw=>?_) ?_;rotate_left
     ·(try dsimp only at hSw);go_simp;(try with_reducible rfl)
     (try simp only [Act.put,pu1,pu2,pu3])
    refine wpPlan_take (v:=?_) (by kernel_rfl) (fun wS hSw=>?_) ?_;rotate_left
    ·have qx':wS.cell? ⟨b,o+j*4+1,none⟩=some (.int .i64 x.2.1):=(hSw.cell hbl).trans (HCX.out 1 _ rfl);go_simp;(try with_reducible rfl)
    (try simp only [Act.put,pu1,pu2,pu3]);refine wpPlan_take (v:=?_) (by kernel_rfl) (fun wS hSw=>?_) ?_;rotate_left
    ·go_simp;(try simp only [hkn,hkn2]);(try with_reducible rfl)
    (try simp only [Act.put,pu1,pu2,pu3]);refine wpPlan_take (v:=?_) (by kernel_rfl) (fun wS hSw=>?_) ?_;rotate_left
    ·(try dsimp only at hSw);go_simp;(try with_reducible rfl)
    (try simp only [Act.put,pu1,pu2,pu3]);refine wpPlan_skip (by kernel_rfl) ?_;(try simp only [Act.put,pu1,pu2,pu3]);refine wpPlan_skip (by kernel_rfl) ?_;(try simp only [Act.put,pu1,pu2,pu3]);refine wpPlan_skip (by kernel_rfl) ?_;(try simp only [Act.put,pu1,pu2,pu3]);refine wpPlan_skip (by kernel_rfl) ?_;(try simp only [Act.put,pu1,pu2,pu3]);refine wpPlan_skip (by kernel_rfl) ?_;(try simp only [Act.put,pu1,pu2,pu3]);refine wpPlan_skip (by kernel_rfl) ?_;(try simp only [Act.put,pu1,pu2,pu3]);refine wpPlan_skip (by kernel_rfl) ?_;(try simp only [Act.put,pu1,pu2,pu3]);refine wpPlan_take (v:=?_) (by kernel_rfl) (fun wS hSw=>?_) ?_;rotate_left
    ·(try dsimp only at hSw);go_simp;(try with_reducible rfl)
    (try simp only [Act.put,pu1,pu2,pu3]);refine wpPlan_end ?_;have HBX:=hide (HBR.out.trans (hHh.mono HBR.out.size));clear hHh
    go_wp2_with fail
    go_roundw
    case rel=>exact ⟨j+1,by omega,by go_num,by rw [HCT.out];rfl,HBX.out⟩
    case measure=>simp [intOf];omega
   ·rw [if_neg hk] at hct
    obtain ⟨r,hr⟩:∃r,decide (x.2.2.1=p.1∧x.2.2.2=p.2)=r:=⟨_,rfl⟩;have heq:=fun W=>eq_plcB hr W
    have hkn:(!decide (x.2.1=1))=true:=by simp [hk]
    have hkn2:(x.2.1 != 1)=true:=by simp [hk]
    have HCT:=hide hct;have HR:=hide hr;clear hct hr
    go_wp2_with fail
    cases r with
    | true =>
     refine wp_region_planN (fun w'=>Below wr.heap.size wr w') [(0,true),(1,true),(2,true),(3,true),(4,true),(5,true),(6,true),(7,true),(8,true),(9,true),(10,true),(11,true),(12,true),(13,true),(14,true)] (by kernel_rfl) (by kernel_rfl) (by kernel_rfl) (by kernel_rfl) rfl (fun _ _ _ _ _ h=>h) (below_drew (below_self wr)) (fun hHh=>?_);simp only [planOps,List.filterMap_cons,List.filterMap_nil,List.getElem?_toArray,List.getElem?_cons_succ,List.getElem?_cons_zero,Option.map_some]
     iterate 4
      refine wpPlan_take (v:=?_) (by kernel_rfl) (fun wS hSw=>?_) ?_;rotate_left
      ·(try dsimp only at hSw);go_simp;(try with_reducible rfl)
      (try simp only [Act.put,pu1,pu2,pu3])
     refine wpPlan_take (v:=?_) (by kernel_rfl) (fun wS hSw=>?_) ?_;rotate_left
     ·have qx':wS.cell? ⟨b,o+j*4+1,none⟩=some (.int .i64 x.2.1):=(hSw.cell hbl).trans (HCX.out 1 _ rfl);go_simp;(try with_reducible rfl)
     (try simp only [Act.put,pu1,pu2,pu3]);refine wpPlan_take (v:=?_) (by kernel_rfl) (fun wS hSw=>?_) ?_;rotate_left
     ·go_simp;(try simp only [hkn,hkn2]);(try with_reducible rfl)
     (try simp only [Act.put,pu1,pu2,pu3])
     iterate 5
      refine wpPlan_take (v:=?_) (by kernel_rfl) (fun wS hSw=>?_) ?_;rotate_left
      ·(try dsimp only at hSw);go_simp;(try with_reducible rfl)
      (try simp only [Act.put,pu1,pu2,pu3])
     refine wpPlan_take (v:=?_) (by kernel_rfl) (fun wS hSw=>?_) ?_;rotate_left
     ·refine execOp_load (x:=.tmp 26) (k:=2) (g:=b) (off:=o+j*4+2) (cs:=[.int .i64 x.2.2.1,.int .i64 x.2.2.2]) ?_ plc_agg plc_size ?_ (fun k v hv=>by rw [Nat.add_assoc];exact (hSw.cell hbl).trans (HCX.out (2+k) v (sub_cell (cur:=shnC x) (k:=2) rfl hv))) rfl <;> rfl
     (try simp only [Act.put,pu1,pu2,pu3]);refine wpPlan_take (v:=?_) (by kernel_rfl) (fun wS hSw=>?_) ?_;rotate_left
     ·refine execOp_load (x:=.tmp 3) (k:=2) (g:=w.heap.size+1) (off:=0) (cs:=[.int .i64 p.1,.int .i64 p.2]) ?_ plc_agg plc_size ?_ (fun k v hv=>by rw [Nat.zero_add];exact ((R3r.out.on hSw).cell k).trans hv) rfl <;> rfl
     (try simp only [Act.put,pu1,pu2,pu3]);refine wpPlan_take (v:=?_) (by kernel_rfl) (fun wS hSw=>?_) ?_;rotate_left
     ·have qx':=heq wS;go_simp;(try with_reducible rfl)
     (try simp only [Act.put,pu1,pu2,pu3]);refine wpPlan_take (v:=?_) (by kernel_rfl) (fun wS hSw=>?_) ?_;rotate_left
     ·(try dsimp only at hSw);go_simp;(try with_reducible rfl)
     (try simp only [Act.put,pu1,pu2,pu3]);refine wpPlan_end ?_;have HBX:=hide (HBR.out.trans (hHh.mono HBR.out.size));clear hHh
     go_wp2_with fail
     go_roundw
     case rel=>exact ⟨j+1,by omega,by go_num,by rw [HCT.out,if_pos (of_decide_eq_true HR.out)];rfl,HBX.out⟩
     case measure=>simp [intOf];omega
    | false =>
     refine wp_region_planN (fun w'=>Below wr.heap.size wr w') [(0,true),(1,true),(2,true),(3,true),(4,true),(5,true),(6,true),(7,true),(8,true),(9,true),(10,true),(11,true),(12,true),(13,true),(14,true)] (by kernel_rfl) (by kernel_rfl) (by kernel_rfl) (by kernel_rfl) rfl (fun _ _ _ _ _ h=>h) (below_drew (below_self wr)) (fun hHh=>?_);simp only [planOps,List.filterMap_cons,List.filterMap_nil,List.getElem?_toArray,List.getElem?_cons_succ,List.getElem?_cons_zero,Option.map_some]
     iterate 4
      refine wpPlan_take (v:=?_) (by kernel_rfl) (fun wS hSw=>?_) ?_;rotate_left
      ·(try dsimp only at hSw);go_simp;(try with_reducible rfl)
      (try simp only [Act.put,pu1,pu2,pu3])
     refine wpPlan_take (v:=?_) (by kernel_rfl) (fun wS hSw=>?_) ?_;rotate_left
     ·have qx':wS.cell? ⟨b,o+j*4+1,none⟩=some (.int .i64 x.2.1):=(hSw.cell hbl).trans (HCX.out 1 _ rfl);go_simp;(try with_reducible rfl)
     (try simp only [Act.put,pu1,pu2,pu3]);refine wpPlan_take (v:=?_) (by kernel_rfl) (fun wS hSw=>?_) ?_;rotate_left
     ·go_simp;(try simp only [hkn,hkn2]);(try with_reducible rfl)
     (try simp only [Act.put,pu1,pu2,pu3])
     iterate 5
      refine wpPlan_take (v:=?_) (by kernel_rfl) (fun wS hSw=>?_) ?_;rotate_left
      ·(try dsimp only at hSw);go_simp;(try with_reducible rfl)
      (try simp only [Act.put,pu1,pu2,pu3])
     refine wpPlan_take (v:=?_) (by kernel_rfl) (fun wS hSw=>?_) ?_;rotate_left
     ·refine execOp_load (x:=.tmp 26) (k:=2) (g:=b) (off:=o+j*4+2) (cs:=[.int .i64 x.2.2.1,.int .i64 x.2.2.2]) ?_ plc_agg plc_size ?_ (fun k v hv=>by rw [Nat.add_assoc];exact (hSw.cell hbl).trans (HCX.out (2+k) v (sub_cell (cur:=shnC x) (k:=2) rfl hv))) rfl <;> rfl
     (try simp only [Act.put,pu1,pu2,pu3]);refine wpPlan_take (v:=?_) (by kernel_rfl) (fun wS hSw=>?_) ?_;rotate_left
     ·refine execOp_load (x:=.tmp 3) (k:=2) (g:=w.heap.size+1) (off:=0) (cs:=[.int .i64 p.1,.int .i64 p.2]) ?_ plc_agg plc_size ?_ (fun k v hv=>by rw [Nat.zero_add];exact ((R3r.out.on hSw).cell k).trans hv) rfl <;> rfl
     (try simp only [Act.put,pu1,pu2,pu3]);refine wpPlan_take (v:=?_) (by kernel_rfl) (fun wS hSw=>?_) ?_;rotate_left
     ·have qx':=heq wS;go_simp;(try with_reducible rfl)
     (try simp only [Act.put,pu1,pu2,pu3]);refine wpPlan_take (v:=?_) (by kernel_rfl) (fun wS hSw=>?_) ?_;rotate_left
     ·(try dsimp only at hSw);go_simp;(try with_reducible rfl)
     (try simp only [Act.put,pu1,pu2,pu3]);refine wpPlan_end ?_;have HBX:=hide (HBR.out.trans (hHh.mono HBR.out.size));clear hHh
     go_wp2_with fail
     go_roundw
     case rel=>exact ⟨j+1,by omega,by go_num,by rw [HCT.out,if_neg (of_decide_eq_false HR.out),Nat.add_zero],HBX.out⟩
     case measure=>simp [intOf];omega
  ·obtain rfl:j=n9:=by omega
   have hjn:¬((j:Int) < (j:Int)):=by omega
   clear hbr
   go_wp2_with fail
   go_ret
   have h2:l.take j=l:=List.take_of_length_le (by omega);rw [h2];exact ⟨rfl,HB2.out.trans (HBR.out.mono (by omega))⟩
theorem RCount_e {g:GeoQ} {AU AL:Option Addr} {nU cU nL cL B:Nat} {up:List NodV} {ls:List (List NodV)} {p:Int×Int} {m:Nat} (hm:cntS (allS up ls) p=m) (w:World) (hu:RdE nodEn w (Under B) AU nU up) (h:RdE layEn w (Under B) AL nL ls) (hB:B≤w.heap.size) (hF:FewL ls) (hup:FewU up):Calls Tryz.prog 12 #[.agg (stkC g (.slice AU nU cU) (.slice AL nL cL)).toArray,.agg #[.int .i64 p.1,.int .i64 p.2]] w (fun e w'=>e=.returned (.int .i64 m)∧Below w.heap.size w w'):=by
 rw [←hm];exact RCount_any w hu h hB hF hup
set_option maxRecDepth 100000 in
set_option maxHeartbeats 16000000 in
theorem law_ShownTells {g:GeoQ} {AU AL AX:Option Addr} {nU cU nL cL nX cX:Nat} {up:List NodV} {ls:List (List NodV)} {p:Int×Int} {LX:List ShnV} (w:World) (hu:RdE nodEn w (Under w.heap.size) AU nU up) (h:RdE layEn w (Under w.heap.size) AL nL ls) (hx:RdE shnEn w (Under w.heap.size) AX nX LX) (hfu:FineN up) (hfl:∀ns∈ls,FineN ns):Calls Tryz.prog 3 #[.agg (stkC g (.slice AU nU cU) (.slice AL nL cL)).toArray,.agg #[.int .i64 p.1,.int .i64 p.2],.slice AX nX cX] w (LawOk w):=by
 obtain ⟨W1,hW1⟩:∃W1,((w.alloc (.cells (stkC g (.slice AU nU cU) (.slice AL nL cL)).toArray 29)).alloc (.cells ([.int .i64 p.1,.int .i64 p.2]:List Value).toArray 31))=W1:=⟨_,rfl⟩;obtain ⟨r0,r1,hb1,hs1⟩:=rowA2 w _ _ _ _ hW1;have hW1':((w.alloc (.cells #[.int .i64 g.a,.int .i64 g.b,.int .i64 g.c,.int .i64 g.d,.slice AU nU cU,.slice AL nL cL] 29)).alloc (.cells #[.int .i64 p.1,.int .i64 p.2] 31))=W1:=hW1;have R3:=hide r0;have R4:=hide r1;have HB:=hide hb1;have hsz0:=hb1.size;have HU:=hide (hu.under hb1 (Nat.le_refl _));have HL:=hide (h.under hb1 (Nat.le_refl _));have HX:=hide (hx.under hb1 (Nat.le_refl _));have HFN:=hide hfu;have HFL:=hide hfl
 have hs1':w.heap.size+1≤W1.heap.size:=by omega
 have hs2':w.heap.size+1 < W1.heap.size:=by omega
 unfold stkC;clear r0 r1 hb1 hW1 hu h hx hfu hfl hs1
 go_enter Tryz.func3,Tryz.ntmps3
 go_wp2_with (first|(refine wpList_loadW rfl 29 (.tmp 3) rfl 6 stk_agg stk_size (w.heap.size) 29 rfl (stkC g (.slice AU nU cU) (.slice AL nL cL)) R3.out rfl ?_))
 clear hW1';refine (PStackM_any (by omega) W1 (und_up HU.out (by omega)) (und_up HL.out (by omega)) HFN.out HFL.out).mono ?_
 rintro e w2 ⟨q,rfl,hb2,hq⟩
 have HQ:=hide hq;have HB2:=hide (HB.out.trans (hb2.mono HB.out.size));have R32:=hide (R3.out.on hb2);have R42:=hide (R4.out.on hb2);have HU2:=hide (HU.out.under hb2 (by omega));have HL2:=hide (HL.out.under hb2 (by omega));have HX2:=hide (HX.out.under hb2 (by omega));have hz2:=hb2.size;clear hq hb2 R3 R4 HB HU HL HX
 cases q with
 | false =>
  go_wp2_with fail
  refine (awake19_any _).mono ?_
  rintro e98 wz ⟨rfl,hbz⟩
  have HBZ:=hide (HB2.out.trans (hbz.mono (by have:=(HB2.out).size;omega)));clear hbz
  go_wp2_with fail
  go_ret
  exact LawOk.of HBZ.out
 | true =>
  obtain ⟨hF,hB10⟩:=HQ.out (by first|rfl|trivial);have hup:FewU up:=⟨by have h1:=hB10.1;omega,hB10.2⟩;have HF:=hide hF;have HFU:=hide hup;clear hF hB10 hup HQ
  by_cases hn:(60:Int) < (nX:Int)
  ·go_wp2_with fail
   refine (awake19_any _).mono ?_
   rintro e98 wz ⟨rfl,hbz⟩
   have HBZ:=hide (HB2.out.trans (hbz.mono (by have:=(HB2.out).size;omega)));clear hbz
   go_wp2_with fail
   go_ret
   exact LawOk.of HBZ.out
  have hn60:nX≤60:=by omega
  obtain ⟨allSl,hal⟩:∃n,(allS up ls).length=n:=⟨_,rfl⟩;have HAL:=hide hal;have hal2:=all_len HF.out HFU.out;rw [hal] at hal2;obtain ⟨K,hK⟩:∃K,cntS (allS up ls) p=K:=⟨_,rfl⟩;have HK:=hide hK;clear hal hK
  go_wp2_with fail
  refine wp_region_planN (fun w'=>Below w2.heap.size w2 w') [(0,true),(2,true),(1,false),(3,false),(4,false),(5,true),(6,true),(7,true),(9,true),(10,true),(8,false),(11,false),(12,true),(13,true),(14,true),(15,true),(17,true),(16,false),(18,false),(19,false),(20,true),(21,true),(22,false),(23,true),(24,true)] (by kernel_rfl) (by kernel_rfl) (by kernel_rfl) (by kernel_rfl) rfl (fun _ _ _ _ _ h=>h) (below_drew (below_self w2)) (fun hHh=>?_);simp only [planOps,List.filterMap_cons,List.filterMap_nil,List.getElem?_toArray,List.getElem?_cons_succ,List.getElem?_cons_zero,Option.map_some];refine wpPlan_take (v:=?_) (by kernel_rfl) (fun wS hSw=>?_) ?_;rotate_left
  ·refine execOp_load (x:=.tmp 3) (k:=6) (g:=w.heap.size) (off:=0) (cs:=[.int .i64 g.a,.int .i64 g.b,.int .i64 g.c,.int .i64 g.d,.slice AU nU cU,.slice AL nL cL]) ?_ stk_agg stk_size ?_ (fun j v hv=>by rw [Nat.zero_add];exact ((R32.out.on hSw).cell j).trans hv) rfl <;> rfl
  (try simp only [Act.put,pu1,pu2,pu3]);refine wpPlan_take (v:=?_) (by kernel_rfl) (fun wS hSw=>?_) ?_;rotate_left
  ·refine execOp_load (x:=.tmp 3) (k:=6) (g:=w.heap.size) (off:=0) (cs:=[.int .i64 g.a,.int .i64 g.b,.int .i64 g.c,.int .i64 g.d,.slice AU nU cU,.slice AL nL cL]) ?_ stk_agg stk_size ?_ (fun j v hv=>by rw [Nat.zero_add];exact ((R32.out.on hSw).cell j).trans hv) rfl <;> rfl
  (try simp only [Act.put,pu1,pu2,pu3]);refine wpPlan_call (by kernel_rfl) (fun K hK=>?_);have hOh:=hide hHh;clear hHh
  go_simp
  go_at_call 9
  refine (All_any (g:=g) _ (HU2.out.under hOh.out (by omega)) (HL2.out.under hOh.out (by omega)) (by have:=hOh.out.size;omega) HF.out HFU.out).mono ?_
  rintro e w' ⟨A5,n5,c5,rfl,-,h5,hbel⟩
  have H5:=hide h5
  have hn5:allSl=n5:=by rw [←HAL.out];exact h5.1
  clear h5;refine hK.out _ _ (hOh.out.trans (hbel.mono hOh.out.size)) (fun hHh=>?_);clear hK K;(try simp only [Act.put,pu1,pu2,pu3]);refine wpPlan_call (by kernel_rfl) (fun K hK=>?_);have hOh:=hide hHh;clear hHh
  go_simp
  go_at_call 10
  refine (RAll_any (g:=g) _ (HU2.out.under hOh.out (by omega)) (HL2.out.under hOh.out (by omega)) (by have:=hOh.out.size;omega) HF.out HFU.out).mono ?_
  rintro e w' ⟨A6,n6,c6,rfl,-,h6,hbel⟩
  have H6:=hide h6;have H5':=hide (und_up (H5.out.under hbel (Nat.le_refl _)) hbel.size);clear h6 H5;refine hK.out _ _ (hOh.out.trans (hbel.mono hOh.out.size)) (fun hHh=>?_);clear hK K;(try simp only [Act.put,pu1,pu2,pu3]);refine wpPlan_call (by kernel_rfl) (fun K hK=>?_);have hOh:=hide hHh;clear hHh
  go_simp
  go_at_call 8
  refine (EqShn_same _ H5'.out H6.out (by omega)).mono ?_
  rintro e w' ⟨rfl,hbel⟩
  clear H5' H6;refine hK.out _ _ (hOh.out.trans (hbel.mono hOh.out.size)) (fun hHh=>?_);clear hK K;(try simp only [Act.put,pu1,pu2,pu3]);refine wpPlan_take (v:=?_) (by kernel_rfl) (fun wS hSw=>?_) ?_;rotate_left
  ·(try dsimp only at hSw);go_simp;(try with_reducible rfl)
  (try simp only [Act.put,pu1,pu2,pu3]);refine wpPlan_take (v:=?_) (by kernel_rfl) (fun wS hSw=>?_) ?_;rotate_left
  ·refine execOp_load (x:=.tmp 3) (k:=6) (g:=w.heap.size) (off:=0) (cs:=[.int .i64 g.a,.int .i64 g.b,.int .i64 g.c,.int .i64 g.d,.slice AU nU cU,.slice AL nL cL]) ?_ stk_agg stk_size ?_ (fun j v hv=>by rw [Nat.zero_add];exact ((R32.out.on hSw).cell j).trans hv) rfl <;> rfl
  (try simp only [Act.put,pu1,pu2,pu3]);refine wpPlan_take (v:=?_) (by kernel_rfl) (fun wS hSw=>?_) ?_;rotate_left
  ·refine execOp_load (x:=.tmp 4) (k:=2) (g:=w.heap.size+1) (off:=0) (cs:=[.int .i64 p.1,.int .i64 p.2]) ?_ plc_agg plc_size ?_ (fun j v hv=>by rw [Nat.zero_add];exact ((R42.out.on hSw).cell j).trans hv) rfl <;> rfl
  (try simp only [Act.put,pu1,pu2,pu3]);refine wpPlan_take (v:=?_) (by kernel_rfl) (fun wS hSw=>?_) ?_;rotate_left
  ·refine execOp_load (x:=.tmp 3) (k:=6) (g:=w.heap.size) (off:=0) (cs:=[.int .i64 g.a,.int .i64 g.b,.int .i64 g.c,.int .i64 g.d,.slice AU nU cU,.slice AL nL cL]) ?_ stk_agg stk_size ?_ (fun j v hv=>by rw [Nat.zero_add];exact ((R32.out.on hSw).cell j).trans hv) rfl <;> rfl
  (try simp only [Act.put,pu1,pu2,pu3]);refine wpPlan_take (v:=?_) (by kernel_rfl) (fun wS hSw=>?_) ?_;rotate_left
  ·refine execOp_load (x:=.tmp 4) (k:=2) (g:=w.heap.size+1) (off:=0) (cs:=[.int .i64 p.1,.int .i64 p.2]) ?_ plc_agg plc_size ?_ (fun j v hv=>by rw [Nat.zero_add];exact ((R42.out.on hSw).cell j).trans hv) rfl <;> rfl
  (try simp only [Act.put,pu1,pu2,pu3]);refine wpPlan_call (by kernel_rfl) (fun K hK=>?_);have hOh:=hide hHh;clear hHh
  go_simp
  go_at_call 11
  refine (Count_e (g:=g) (p:=p) HK.out _ (HU2.out.under hOh.out (by omega)) (HL2.out.under hOh.out (by omega)) (by have:=hOh.out.size;omega) HF.out HFU.out).mono ?_
  rintro e w' ⟨rfl,hbel⟩
  refine hK.out _ _ (hOh.out.trans (hbel.mono hOh.out.size)) (fun hHh=>?_);clear hK K;(try simp only [Act.put,pu1,pu2,pu3]);refine wpPlan_call (by kernel_rfl) (fun K hK=>?_);have hOh:=hide hHh;clear hHh
  go_simp
  go_at_call 12
  refine (RCount_e (g:=g) (p:=p) HK.out _ (HU2.out.under hOh.out (by omega)) (HL2.out.under hOh.out (by omega)) (by have:=hOh.out.size;omega) HF.out HFU.out).mono ?_
  rintro e w' ⟨rfl,hbel⟩
  refine hK.out _ _ (hOh.out.trans (hbel.mono hOh.out.size)) (fun hHh=>?_);clear hK K;(try simp only [Act.put,pu1,pu2,pu3])
  iterate 5
   refine wpPlan_take (v:=?_) (by kernel_rfl) (fun wS hSw=>?_) ?_;rotate_left
   ·(try dsimp only at hSw);go_simp;(try with_reducible rfl)
   (try simp only [Act.put,pu1,pu2,pu3])
  refine wpPlan_call (by kernel_rfl) (fun K hK=>?_);have hOh:=hide hHh;clear hHh
  go_simp
  go_at_call 14
  refine (Paths_any _ (und_up (HX2.out.under hOh.out (by omega)) (by have:=hOh.out.size;omega)) (by omega)).mono ?_
  rintro e w' ⟨A7,c7,rfl,h7,hbel⟩
  have H7:=hide h7.rd;clear h7;refine hK.out _ _ (hOh.out.trans (hbel.mono hOh.out.size)) (fun hHh=>?_);clear hK K;(try simp only [Act.put,pu1,pu2,pu3]);refine wpPlan_call (by kernel_rfl) (fun K hK=>?_);have hOh:=hide hHh;clear hHh
  go_simp
  go_at_call 15
  refine (RPaths_any _ (und_up (HX2.out.under hOh.out (by omega)) (by have:=hOh.out.size;omega)) (by omega)).mono ?_
  rintro e w' ⟨A8,c8,rfl,h8,hbel⟩
  have H8:=hide h8.rd;have H7':=hide (H7.out.on hbel);clear h8 H7;refine hK.out _ _ (hOh.out.trans (hbel.mono hOh.out.size)) (fun hHh=>?_);clear hK K;(try simp only [Act.put,pu1,pu2,pu3]);refine wpPlan_call (by kernel_rfl) (fun K hK=>?_);have hOh:=hide hHh;clear hHh
  go_simp
  go_at_call 13
  refine (EqS_b (show (LX.map (fun x=>x.1)==LX.map (fun x=>x.1))=true from by simp) _ H7'.out H8.out (by omega)).mono ?_
  rintro e w' ⟨rfl,hbel⟩
  clear H7' H8;refine hK.out _ _ (hOh.out.trans (hbel.mono hOh.out.size)) (fun hHh=>?_);clear hK K;(try simp only [Act.put,pu1,pu2,pu3])
  iterate 2
   refine wpPlan_take (v:=?_) (by kernel_rfl) (fun wS hSw=>?_) ?_;rotate_left
   ·(try dsimp only at hSw);go_simp;(try with_reducible rfl)
   (try simp only [Act.put,pu1,pu2,pu3])
  refine wpPlan_call (by kernel_rfl) (fun K hK=>?_);have hOh:=hide hHh;clear hHh
  go_simp
  go_at_call 7
  refine (awake19_any _).mono ?_
  rintro e w' ⟨rfl,hbel⟩
  refine hK.out _ _ (hOh.out.trans (hbel.mono hOh.out.size)) (fun hHh=>?_);clear hK K;(try simp only [Act.put,pu1,pu2,pu3])
  iterate 2
   refine wpPlan_take (v:=?_) (by kernel_rfl) (fun wS hSw=>?_) ?_;rotate_left
   ·(try dsimp only at hSw);go_simp;(try with_reducible rfl)
   (try simp only [Act.put,pu1,pu2,pu3])
  refine wpPlan_end ?_;have HBX:=hide (HB2.out.trans (hHh.mono HB2.out.size));clear hHh
  go_wp2_with fail
  go_ret
  exact LawOk.of HBX.out
end Go.Proofs.YtggnbflbbfdohaaGreat

namespace Go.Proofs.YtggnbflbbfdohaaGreat
open Go.RowKit Go.Shelf Plain Go.WideShapes Go.ChangeShapes

section
variable {H : Type} {enc : TypeId × Value → H} {w : World} {spare : Nat → Bool} {held : Bool}
theorem six_ {l:List Value} (h:l.length=6):∃a b c d e f,l=[a,b,c,d,e,f]:=by
 match l,h with
 | [a,b,c,d,e,f],_=>exact ⟨a,b,c,d,e,f,rfl⟩
set_option maxRecDepth 100000 in
theorem trod_lay {fuel:Nat} {cs:List Value} {y:DataW H×List MemPlace} (hl:cs.length=1) (h:DataW.trod enc Tryz.prog w 0 spare held fuel 26 cs=some y):∃x:List NodV,layEn.R w (Under w.heap.size) cs x∧∀d∈x,d.ents.length≤maxLen:=by
 obtain ⟨c0,rfl⟩:=one_cell hl;obtain ⟨xs,n,-,-,-,hlen,hp⟩:=DataW.trod_struct Tryz.underlying26 h
 match xs,hlen,hp with
 | [x0],_,hp =>
  obtain ⟨A,n,c,ns,e1,hn,-,r,hfine⟩:=open_rdeF (e:=65) (cs:=[c0]) nodEn (fun x=>x.ents.length≤maxLen) Tryz.underlying24 (by kernel_rfl) (by decide) (fun _ cs _ hl hy=>trod_node hl hy) (hp 0 _ rfl)
  cases e1
  exact ⟨ns,⟨A,n,c,rfl,hn,r⟩,hfine⟩
set_option maxRecDepth 100000 in
theorem open_stack {r:Reach} {b0:Nat} {v:Value} {d:DataW H} {p:List MemPlace} (hv:Value.okWide Tryz.prog w r b0 29 v) (h:DataW.Trod enc Tryz.prog w 0 spare held 29 v d p) :
  ∃(g:GeoQ) (AU AL:Option Addr) (nU cU nL cL:Nat) (up:List NodV) (ls:List (List NodV)),v=.agg (stkC g (.slice AU nU cU) (.slice AL nL cL)).toArray∧nU≤cU∧nL≤cL∧RdE nodEn w (Under w.heap.size) AU nU up∧RdE layEn w (Under w.heap.size) AL nL ls∧(∀x∈up,x.ents.length≤maxLen)∧∀ns∈ls,∀x∈ns,x.ents.length≤maxLen:=by
 obtain ⟨cs,rfl,hsz⟩:=okWide_struct Tryz.underlying29 hv
 have hC:Tryz.prog.cellsOf 29=6:=by kernel_rfl
 obtain ⟨l⟩:=cs;obtain ⟨c0,c1,c2,c3,c4,c5,rfl⟩:=six_ (l:=l) (hsz.trans hC);obtain ⟨fuel,hf⟩:=h;obtain ⟨xs,n,-,-,-,hlen,hp⟩:=DataW.trod_struct Tryz.underlying29 hf
 match xs,hlen,hp with
 | [x0,x1,x2],_,hp =>
  have p0:=hp 0 _ rfl
  have p1:=hp 1 _ rfl
  obtain ⟨ys,m,-,-,-,hyl,hq⟩:=DataW.trod_struct Tryz.underlying23 (cs:=[c0,c1,c2,c3]) p0
  match ys,hyl,hq with
  | [y0,y1,y2,y3],_,hq =>
   obtain ⟨a0,rfl⟩:=cell_i64 (c:=c0) (hq 0 _ rfl);obtain ⟨a1,rfl⟩:=cell_i64 (c:=c1) (hq 1 _ rfl);obtain ⟨a2,rfl⟩:=cell_i64 (c:=c2) (hq 2 _ rfl);obtain ⟨a3,rfl⟩:=cell_i64 (c:=c3) (hq 3 _ rfl);obtain ⟨up,⟨AU,nU,cU,eU,hU,rU⟩,fU⟩:=trod_lay (cs:=[c4]) rfl p1;obtain ⟨AL,nL,cL,ls,eL,hL,-,rL,fL⟩:=open_rdeF (e:=26) (cs:=[c5]) layEn (fun ns=>∀x∈ns,x.ents.length≤maxLen) Tryz.underlying27 (by kernel_rfl) (by decide) (fun _ cs _ hl hy=>trod_lay hl hy) (hp 2 _ rfl)
   cases eU
   cases eL
   exact ⟨⟨a0,a1,a2,a3⟩,AU,AL,nU,cU,nL,cL,up,ls,rfl,hU,hL,rU,rL,fU,fL⟩
end
end Go.Proofs.YtggnbflbbfdohaaGreat

namespace Go.Proofs.YtggnbflbbfdohaaGreat
open Go.RowKit Go.Shelf Plain Go.WideShapes Go.ChangeShapes

section
variable {H : Type} {enc : TypeId × Value → H} {w : World} {base : Nat} {spare : Nat → Bool} {held : Bool}
theorem four_cells {l:List Value} (h:l.length=4):∃a b c d,l=[a,b,c,d]:=by
 match l,h with
 | [a,b,c,d],_=>exact ⟨a,b,c,d,rfl⟩
set_option maxRecDepth 100000 in
theorem trod_shn {fuel:Nat} {cs:List Value} {y:DataW H×List MemPlace} (hl:cs.length=4) (h:DataW.trod enc Tryz.prog w base spare held fuel 37 cs=some y):∃x:ShnV,cs=shnC x:=by
 obtain ⟨c0,c1,c2,c3,rfl⟩:=four_cells hl;obtain ⟨xs,n,-,-,-,hlen,hp⟩:=DataW.trod_struct Tryz.underlying37 h
 match xs,hlen,hp with
 | [x0,x1,x2],_,hp =>
  have p2:=hp 2 _ rfl
  obtain ⟨a0,rfl⟩:=cell_str (c:=c0) (hp 0 _ rfl);obtain ⟨a1,rfl⟩:=cell_i64 (c:=c1) (hp 1 _ rfl);obtain ⟨ys,m,-,-,-,hyl,hq⟩:=DataW.trod_struct Tryz.underlying31 (cs:=[c2,c3]) p2
  match ys,hyl,hq with
  | [y0,y1],_,hq =>
   obtain ⟨a2,rfl⟩:=cell_i64 (c:=c2) (hq 0 _ rfl);obtain ⟨a3,rfl⟩:=cell_i64 (c:=c3) (hq 1 _ rfl);exact ⟨(a0,a1,(a2,a3)),rfl⟩
theorem open_shown {fuel:Nat} {cs:List Value} {x:DataW H×List MemPlace} (h:DataW.trod enc Tryz.prog w 0 spare held fuel 32 cs=some x):∃A n c l,cs=[.slice A n c]∧n≤c∧RdE shnEn w (Under w.heap.size) A n l :=
 open_rde (e:=37) shnEn Tryz.underlying32 (by kernel_rfl) (by decide) (fun _ _ _ hl hy=>by
  obtain ⟨x,h1⟩:=trod_shn hl hy
  exact ⟨x,h1⟩) h
end
end Go.Proofs.YtggnbflbbfdohaaGreat

