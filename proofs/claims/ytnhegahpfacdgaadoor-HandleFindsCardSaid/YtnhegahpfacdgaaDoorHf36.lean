import Derived.Test.YtnhegahpfacdgaaDoorHf35
import Derived.Test.YtnhegahpfacdgaaDoorHf31

namespace Go.Proofs.YtnhegahpfacdgaaDoor
open Go.RowKit Go.Shelf Plain

set_option maxRecDepth 100000 in
set_option maxHeartbeats 16000000 in
theorem law_HandleFinds {g:GeoQ} {AU AL:Option Addr} {nU cU nL cL:Nat} {up:List NodV} {ls:List (List NodV)} {o p:OriV} (w:World) (hu:RdE nodEn w (Under w.heap.size) AU nU up) (h:RdE layEn w (Under w.heap.size) AL nL ls) (hfu:FineN up) (hfl:∀ns∈ls,FineN ns) (hw:HanW w):Calls Tryd.prog 4 #[.agg (stkC g (.slice AU nU cU) (.slice AL nL cL)).toArray,.agg (oriC o).toArray,.agg (oriC p).toArray] w (LawOk w):=by
 obtain ⟨W1,hW1⟩:∃W1,(((w.alloc (.cells (stkC g (.slice AU nU cU) (.slice AL nL cL)).toArray 37)).alloc (.cells (oriC o).toArray 23)).alloc (.cells (oriC p).toArray 23))=W1:=⟨_,rfl⟩
 obtain ⟨r0,r1,r2,hb1,hs1⟩:=rowA3 w _ _ _ _ _ _ hW1
 have hW1':(((w.alloc (.cells #[.int .i64 g.a,.int .i64 g.b,.int .i64 g.c,.int .i64 g.d,.slice AU nU cU,.slice AL nL cL] 37)).alloc (.cells #[.int .i64 o.1,.int .i64 o.2.1,.int .i64 o.2.2] 23)).alloc (.cells #[.int .i64 p.1,.int .i64 p.2.1,.int .i64 p.2.2] 23))=W1:=hW1
 have R3:=hide r0
 have R4:=hide r1
 have R5:=hide r2
 have HB:=hide hb1
 have hsz0:=hb1.size
 have HW:=hide (hw.below hb1)
 have HU:=hide (hu.under hb1 (Nat.le_refl _))
 have HL:=hide (h.under hb1 (Nat.le_refl _))
 have HFN:=hide hfu
 have HFL:=hide hfl
 obtain ⟨r,hr⟩:∃r,decide (o=p)=r:=⟨_,rfl⟩
 have HR:=hide hr
 have heq:=fun W=>eq_ori o p hr W
 have hs1':w.heap.size+3≤W1.heap.size:=by omega
 unfold stkC oriC
 clear hW1 r0 r1 r2 hb1 hu h hw hfu hfl hs1 hr
 go_enter Tryd.func4,Tryd.ntmps4
 go_wp2_with (first|(refine wpList_loadW rfl 37 (.tmp 3) rfl 6 stk_agg stk_size (w.heap.size) 37 rfl (stkC g (.slice AU nU cU) (.slice AL nL cL)) R3.out rfl ?_))
 clear hW1'
 refine (PStackM_any (by omega) W1 (und_up HU.out (by omega)) (und_up HL.out (by omega)) HFN.out HFL.out).mono ?_
 rintro e w2 ⟨q,rfl,hb2,hq⟩
 have HQ:=hide hq
 replace HB:=hide (HB.out.trans (hb2.mono (by omega)))
 replace HW:=hide (HW.out.below hb2)
 replace R3:=hide (R3.out.on hb2)
 replace R4:=hide (R4.out.on hb2)
 replace R5:=hide (R5.out.on hb2)
 replace HU:=hide (HU.out.under hb2 (by omega))
 replace HL:=hide (HL.out.under hb2 (by omega))
 have hzhb2:=hb2.size
 clear hq hb2
 cases q with
 | false =>
  go_wp2_with fail
  refine (awake15_any _ HW.out).mono ?_
  rintro e98 wz ⟨rfl,hbz⟩
  have HBZ:=hide (HB.out.trans (hbz.mono (by have:=(HB.out).size;omega)))
  clear hbz
  go_wp2_with fail
  go_ret
  exact LawOk.of HBZ.out
 | true =>
  obtain ⟨hF,hB10⟩:=HQ.out (by first|rfl|trivial)
  have hup:FewU up:=⟨by have h1:=hB10.1;omega,hB10.2⟩
  have HF:=hide hF
  have HFU:=hide hup
  obtain ⟨⟨x,b⟩,hx⟩:∃q:NodV×Bool,handF ls o=q:=⟨_,rfl⟩
  have hfew:=handF_few hF o
  rw [hx] at hfew
  obtain ⟨hx1,hx2⟩:=hfew
  have hx1:x.data.length≤300:=hx1
  have hx2:x.ents.length≤16:=hx2
  have HX:=hide hx
  clear hF hB10 hup HQ hx
  go_upto_region 5 with (first|(refine wpList_loadW rfl 37 (.tmp 3) rfl 6 stk_agg stk_size (w.heap.size) 37 rfl (stkC g (.slice AU nU cU) (.slice AL nL cL)) R3.out rfl ?_)|(refine wpList_loadW rfl 23 (.tmp 4) rfl 3 ori_agg ori_size (w.heap.size+1) 23 rfl [.int .i64 o.1,.int .i64 o.2.1,.int .i64 o.2.2] R4.out rfl ?_)|(go_at_call 11;refine (HFind_e (g:=g) (cU:=cU) (cL:=cL) HX.out w2 (und_up HU.out (by omega)) (und_up HL.out (by omega)) HF.out HFU.out).mono ?_;rintro eA wA ⟨A1,n1,c1,C1,m1,d1,rfl,hd1,he1,hbA⟩;have HD1:=hide hd1;have HE1:=hide he1;replace HB:=hide (HB.out.trans (hbA.mono (by omega)));replace HW:=hide (HW.out.below hbA);replace R3:=hide (R3.out.on hbA);replace R4:=hide (R4.out.on hbA);replace R5:=hide (R5.out.on hbA);replace HU:=hide (HU.out.under hbA (by omega));replace HL:=hide (HL.out.under hbA (by omega));have hzhbA:=hbA.size;clear hd1 he1 hbA)|(refine wpList_storeW rfl 44 (.tmp 7) (.tmp 19) rfl 13 nod_size (wA.heap.size) 44 rfl (nodC nod0 (.slice none 0 0) (.slice none 0 0)) (nodC x (.slice A1 n1 c1) (.slice C1 m1 d1)) rfl (RowL.new wA 44 (nodC nod0 (.slice none 0 0) (.slice none 0 0))) rfl rfl (nodC_one _ _ _ _ _ _ _) ?_;intro wB hr6 hg6 hs6;have R7:=hide hr6;have hb6:=below_stored' hg6;replace HB:=hide (HB.out.trans (hb6.mono (by omega)));replace HW:=hide (HW.out.below hb6);replace R3:=hide (R3.out.on hb6);replace R4:=hide (R4.out.on hb6);replace R5:=hide (R5.out.on hb6);replace HU:=hide (HU.out.under hb6 (by omega));replace HL:=hide (HL.out.under hb6 (by omega));replace HD1:=hide (HD1.out.under hb6 (Nat.le_refl _));replace HD1:=hide (und_up HD1.out hb6.size);replace HE1:=hide (HE1.out.under hb6 (Nat.le_refl _));replace HE1:=hide (und_up HE1.out hb6.size);have hzhb6:=hb6.size;clear hr6 hg6 hs6 hb6)|(go_at_call 12;refine (RFind15E_any (g:=g) (cU:=cU) (cL:=cL) HX.out wB HU.out HL.out (by omega) HF.out HFU.out).mono ?_;rintro eC wC ⟨A2,n2,c2,C2,m2,d2,rfl,hd2,he2,hbC⟩;have HD2:=hide (und_up hd2 (by have:=hbC.size;omega));have HE2:=hide (und_up he2 (by have:=hbC.size;omega));replace HB:=hide (HB.out.trans (hbC.mono (by omega)));replace HW:=hide (HW.out.below hbC);replace R3:=hide (R3.out.on hbC);replace R4:=hide (R4.out.on hbC);replace R5:=hide (R5.out.on hbC);replace HU:=hide (HU.out.under hbC (by omega));replace HL:=hide (HL.out.under hbC (by omega));replace HD1:=hide (HD1.out.under hbC (Nat.le_refl _));replace HD1:=hide (und_up HD1.out hbC.size);replace HE1:=hide (HE1.out.under hbC (Nat.le_refl _));replace HE1:=hide (und_up HE1.out hbC.size);replace R7:=hide (R7.out.on hbC);have hzhbC:=hbC.size;clear hd2 he2 hbC)|(refine wpList_storeW rfl 44 (.tmp 9) (.tmp 25) rfl 13 nod_size (wC.heap.size) 44 rfl (nodC nod0 (.slice none 0 0) (.slice none 0 0)) (nodC x (.slice A2 n2 c2) (.slice C2 m2 d2)) rfl (RowL.new wC 44 (nodC nod0 (.slice none 0 0) (.slice none 0 0))) rfl rfl (nodC_one _ _ _ _ _ _ _) ?_;intro wD hr7 hg7 hs7;have R9:=hide hr7;have hb7:=below_stored' hg7;replace HB:=hide (HB.out.trans (hb7.mono (by omega)));replace HW:=hide (HW.out.below hb7);replace R3:=hide (R3.out.on hb7);replace R4:=hide (R4.out.on hb7);replace R5:=hide (R5.out.on hb7);replace HU:=hide (HU.out.under hb7 (by omega));replace HL:=hide (HL.out.under hb7 (by omega));replace HD1:=hide (HD1.out.under hb7 (Nat.le_refl _));replace HD1:=hide (und_up HD1.out hb7.size);replace HE1:=hide (HE1.out.under hb7 (Nat.le_refl _));replace HE1:=hide (und_up HE1.out hb7.size);replace HD2:=hide (HD2.out.under hb7 (Nat.le_refl _));replace HD2:=hide (und_up HD2.out hb7.size);replace HE2:=hide (HE2.out.under hb7 (Nat.le_refl _));replace HE2:=hide (und_up HE2.out hb7.size);replace R7:=hide (R7.out.on hb7);have hzhb7:=hb7.size;clear hr7 hg7 hs7 hb7))
  have hn1:=HD1.out.1
  have hm1:=HE1.out.1
  have hn2:=HD2.out.1
  have hm2:=HE2.out.1
  refine wp_region_planN (fun w'=>Below wD.heap.size wD w') [(0,true),(1,true),(2,false),(3,true),(4,true),(5,true),(6,true),(7,true),(8,true),(9,true),(10,true),(12,true),(13,true),(14,true),(11,false),(15,true),(16,true),(17,true),(18,false),(19,true),(20,true)] (by kernel_rfl) (by kernel_rfl) (by kernel_rfl) (by kernel_rfl) rfl (fun _ _ _ _ _ h=>h) (below_drew (below_self wD)) (fun hHeld=>?_)
  simp only [planOps,List.filterMap_cons,List.filterMap_nil,List.getElem?_toArray,List.getElem?_cons_succ,List.getElem?_cons_zero,Option.map_some]
  refine wpPlan_take (v:=?_) (by kernel_rfl) (fun wS hSw=>?_) ?_
  rotate_left
  ·refine execOp_load (x:=.tmp 7) (k:=13) (g:=wA.heap.size) (off:=0) (cs:=(nodC x (.slice A1 n1 c1) (.slice C1 m1 d1))) ?_ nod_agg nod_size ?_ (fun j v hv=>by rw [Nat.zero_add];exact ((R7.out.on hSw).cell j).trans hv) rfl <;> rfl
  (try simp only [Act.put,pu1,pu2,pu3])
  refine wpPlan_take (v:=?_) (by kernel_rfl) (fun wS hSw=>?_) ?_
  rotate_left
  ·refine execOp_load (x:=.tmp 9) (k:=13) (g:=wC.heap.size) (off:=0) (cs:=(nodC x (.slice A2 n2 c2) (.slice C2 m2 d2))) ?_ nod_agg nod_size ?_ (fun j v hv=>by rw [Nat.zero_add];exact ((R9.out.on hSw).cell j).trans hv) rfl <;> rfl
  (try simp only [Act.put,pu1,pu2,pu3])
  refine wpPlan_call (by kernel_rfl) (fun K hK=>?_)
  have hOld:=hide hHeld
  clear hHeld
  go_simp
  go_at_call 13
  refine (SamN_same (x:=x) _ (und_up (HD1.out.under hOld.out (Nat.le_refl _)) hOld.out.size) (und_up (HE1.out.under hOld.out (Nat.le_refl _)) hOld.out.size) (und_up (HD2.out.under hOld.out (Nat.le_refl _)) hOld.out.size) (und_up (HE2.out.under hOld.out (Nat.le_refl _)) hOld.out.size) (by omega) (by omega)).mono ?_
  rintro e w' ⟨rfl,hbel⟩
  refine hK.out _ _ (hOld.out.trans (hbel.mono hOld.out.size)) (fun hHeld=>?_)
  clear hK K
  (try simp only [Act.put,pu1,pu2,pu3])
  iterate 3
   refine wpPlan_take (v:=?_) (by kernel_rfl) (fun wS hSw=>?_) ?_
   rotate_left
   ·(try dsimp only at hSw);go_simp;(try with_reducible rfl)
   (try simp only [Act.put,pu1,pu2,pu3])
  refine wpPlan_take (v:=?_) (by kernel_rfl) (fun wS hSw=>?_) ?_
  rotate_left
  ·(try dsimp only at hSw);go_simp;(try simp only [beq_self_eq_true]);(try with_reducible rfl)
  (try simp only [Act.put,pu1,pu2,pu3])
  iterate 2
   refine wpPlan_take (v:=?_) (by kernel_rfl) (fun wS hSw=>?_) ?_
   rotate_left
   ·(try dsimp only at hSw);go_simp;(try with_reducible rfl)
   (try simp only [Act.put,pu1,pu2,pu3])
  refine wpPlan_take (v:=?_) (by kernel_rfl) (fun wS hSw=>?_) ?_
  rotate_left
  ·refine execOp_load (x:=.tmp 4) (k:=3) (g:=w.heap.size+1) (off:=0) (cs:=[.int .i64 o.1,.int .i64 o.2.1,.int .i64 o.2.2]) ?_ ori_agg ori_size ?_ (fun j v hv=>by rw [Nat.zero_add];exact ((R4.out.on hSw).cell j).trans hv) rfl <;> rfl
  (try simp only [Act.put,pu1,pu2,pu3])
  refine wpPlan_take (v:=?_) (by kernel_rfl) (fun wS hSw=>?_) ?_
  rotate_left
  ·refine execOp_load (x:=.tmp 5) (k:=3) (g:=w.heap.size+1+1) (off:=0) (cs:=[.int .i64 p.1,.int .i64 p.2.1,.int .i64 p.2.2]) ?_ ori_agg ori_size ?_ (fun j v hv=>by rw [Nat.zero_add];exact ((R5.out.on hSw).cell j).trans hv) rfl <;> rfl
  (try simp only [Act.put,pu1,pu2,pu3])
  refine wpPlan_take (v:=?_) (by kernel_rfl) (fun wS hSw=>?_) ?_
  rotate_left
  ·refine execOp_load (x:=.tmp 4) (k:=3) (g:=w.heap.size+1) (off:=0) (cs:=[.int .i64 o.1,.int .i64 o.2.1,.int .i64 o.2.2]) ?_ ori_agg ori_size ?_ (fun j v hv=>by rw [Nat.zero_add];exact ((R4.out.on hSw).cell j).trans hv) rfl <;> rfl
  (try simp only [Act.put,pu1,pu2,pu3])
  refine wpPlan_take (v:=?_) (by kernel_rfl) (fun wS hSw=>?_) ?_
  rotate_left
  ·refine execOp_load (x:=.tmp 5) (k:=3) (g:=w.heap.size+1+1) (off:=0) (cs:=[.int .i64 p.1,.int .i64 p.2.1,.int .i64 p.2.2]) ?_ ori_agg ori_size ?_ (fun j v hv=>by rw [Nat.zero_add];exact ((R5.out.on hSw).cell j).trans hv) rfl <;> rfl
  (try simp only [Act.put,pu1,pu2,pu3])
  refine wpPlan_take (v:=?_) (by kernel_rfl) (fun wS hSw=>?_) ?_
  rotate_left
  ·(try dsimp only at hSw);go_simp;(try simp only [heq]);(try with_reducible rfl)
  (try simp only [Act.put,pu1,pu2,pu3])
  refine wpPlan_call (by kernel_rfl) (fun K hK=>?_)
  have hOld:=hide hHeld
  clear hHeld
  go_simp
  go_at_call 14
  refine (HSame_any (a:=o) (b:=p) HR.out _).mono ?_
  rintro e w' ⟨rfl,hbel⟩
  refine hK.out _ _ (hOld.out.trans (hbel.mono hOld.out.size)) (fun hHeld=>?_)
  clear hK K
  (try simp only [Act.put,pu1,pu2,pu3])
  refine wpPlan_take (v:=?_) (by kernel_rfl) (fun wS hSw=>?_) ?_
  rotate_left
  ·(try dsimp only at hSw);go_simp;(try simp only [beq_self_eq_true]);(try with_reducible rfl)
  (try simp only [Act.put,pu1,pu2,pu3])
  iterate 2
   refine wpPlan_take (v:=?_) (by kernel_rfl) (fun wS hSw=>?_) ?_
   rotate_left
   ·(try dsimp only at hSw);go_simp;(try with_reducible rfl)
   (try simp only [Act.put,pu1,pu2,pu3])
  refine wpPlan_call (by kernel_rfl) (fun K hK=>?_)
  have hOld:=hide hHeld
  clear hHeld
  go_simp
  go_at_call 5
  refine (awake15_any _ (HW.out.below hOld.out)).mono ?_
  rintro e w' ⟨rfl,hbel⟩
  refine hK.out _ _ (hOld.out.trans (hbel.mono hOld.out.size)) (fun hHeld=>?_)
  clear hK K
  (try simp only [Act.put,pu1,pu2,pu3])
  iterate 2
   refine wpPlan_take (v:=?_) (by kernel_rfl) (fun wS hSw=>?_) ?_
   rotate_left
   ·(try dsimp only at hSw);go_simp;(try with_reducible rfl)
   (try simp only [Act.put,pu1,pu2,pu3])
  refine wpPlan_end ?_
  have HBX:=hide (HB.out.trans (hHeld.mono (by omega)))
  clear hHeld
  go_wp2_with fail
  go_ret
  exact LawOk.of HBX.out
end Go.Proofs.YtnhegahpfacdgaaDoor

