import Derived.Test.YtpndfahgflgocaaGreatDoorXt30
import Derived.Test.YtpndfahgflgocaaGreatDoorXt32

namespace Go.Proofs.YtpndfahgflgocaaGreatDoor
open Go.RowKit Go.Shelf Plain

set_option maxRecDepth 100000 in
set_option maxHeartbeats 16000000 in
theorem RXIn_any {g:GeoQ} {AU AL:Option Addr} {nU cU nL cL B:Nat} {up:List NodV} {ls:List (List NodV)} {rs:List Bool} (hrs:reachL up (walkW up [1]).1=rs) {i:Int} {r:Bool} (hr:inX up ls rs i=r) (w:World) (hu:RdE nodEn w (Under B) AU nU up) (h:RdE layEn w (Under B) AL nL ls) (hB:B≤w.heap.size) (hF:FewL ls) (hup:FewU up):Calls Tryz.prog 14 #[.agg (stkC g (.slice AU nU cU) (.slice AL nL cL)).toArray,.int .i64 i] w (BoolB w r):=by
 obtain ⟨W1,hW1⟩:∃W1,(w.alloc (.cells (stkC g (.slice AU nU cU) (.slice AL nL cL)).toArray 29))=W1:=⟨_,rfl⟩
 obtain ⟨r0,hb1,hs1⟩:=rowA1 w _ _ hW1
 have hW1':(w.alloc (.cells #[.int .i64 g.a,.int .i64 g.b,.int .i64 g.c,.int .i64 g.d,.slice AU nU cU,.slice AL nL cL] 29))=W1:=hW1
 have R2:=hide r0
 have HB:=hide hb1
 have hsz0:=hb1.size
 have HU:=hide (hu.under hb1 hB)
 have HL:=hide (h.under hb1 hB)
 have HF:=hide hF
 have HFU:=hide hup
 have hs1':w.heap.size+1≤W1.heap.size:=by omega
 have HRS:=hide hrs
 obtain ⟨EL,hEL⟩:∃EL,entB up 3=EL:=⟨_,rfl⟩
 have HEL:=hide hEL
 have hl16:=entB_len hup.2 3
 rw [hEL] at hl16
 have HR:=hide hr
 unfold stkC
 clear r0 hb1 hW1 hu h hF hup hs1 hrs hr hEL
 go_enter Tryz.func14,Tryz.ntmps14
 go_wp2_with (first|(refine wpList_loadW rfl 29 (.tmp 2) rfl 6 stk_agg stk_size (w.heap.size) 29 rfl (stkC g (.slice AU nU cU) (.slice AL nL cL)) R2.out rfl ?_)|(go_at_call 28;refine (RXEnts_any (g:=g) (cU:=cU) (AL:=AL) (nL:=nL) (cL:=cL) HEL.out W1 HU.out (by omega) HFU.out).mono ?_;rintro e1 wA ⟨C,m,d,rfl,hmd,he,hbel⟩;replace HB:=hide (HB.out.trans (hbel.mono HB.out.size));replace R2:=hide (R2.out.on hbel);replace HU:=hide (HU.out.under hbel (by omega));replace HL:=hide (HL.out.under hbel (by omega));have hsz2:=hbel.size;have HE:=hide he;clear he;clear hbel))
 have hEm:=HE.out.1
 have hm16:m≤16:=by omega
 have HEM:=hide hEm
 have hszA:w.heap.size+1≤wA.heap.size:=by omega
 clear hEm hl16 hW1'
 go_loopw [6] (fun v6 wr=>∃j:Nat,j≤m∧v6=.int .i64 j∧(∀k e,k < j→EL[k]?=some e→e.ino=i→badX up ls rs e=true)∧Below wA.heap.size wA wr) (fun v6 _=>m - (intOf v6).toNat)
 case atStart=>exact ⟨0,by omega,rfl,fun k e hk=>absurd hk (by omega),below_self _⟩
 case round =>
  obtain ⟨j,hj,rfl,hno,hbr⟩:=hrel
  have HNO:=hide hno
  have hbsz:=hbr.size
  have HBR:=hide hbr
  have HBw:=hide (HB.out.trans (hbr.mono (by omega)))
  have R2r:=hide (R2.out.on hbr)
  have HUr:=hide (HU.out.under hbr (by omega))
  have HLr:=hide (HL.out.under hbr (by omega))
  have HEr:=hide (HE.out.under hbr (by omega))
  clear hno hbr
  by_cases hlt:j < m
  ·obtain ⟨e,he⟩:∃e,EL[j]?=some e:=⟨_,List.getElem?_eq_getElem (by have:=HEM.out;omega)⟩
   obtain ⟨bE,oE,rfl,hbE,hcE⟩:=ent_get HEr.out he
   have HCE:=hide hcE
   have HEJ:=hide he
   have hjm:(j:Int) < (m:Int):=by omega
   have hbE':bE < wr.heap.size:=by have h9:bE < B:=hbE;omega
   obtain ⟨b,hb⟩:∃b,badX up ls rs e=b:=⟨_,rfl⟩
   have HBD:=hide hb
   clear he hcE hb
   by_cases hi:e.ino=i
   ·have hei:(e.ino==i)=true:=by simp [hi]
    have HI:=hide hi
    clear hi
    cases b with
    | true =>
     go_upto_region 5 with fail
     refine wp_region_plan (fun w'=>Below wr.heap.size wr w') [(0,true),(1,true),(2,true),(3,true),(4,true),(5,true),(6,true),(7,true),(8,true),(9,true),(10,true),(11,true),(12,true),(13,false),(14,true),(15,true)] (by kernel_rfl) (by kernel_rfl) (by kernel_rfl) (by kernel_rfl) rfl (fun _ _ _ _ _ h=>h) (below_drew (below_self wr)) (fun hHeld=>?_)
     simp only [planOps,List.filterMap_cons,List.filterMap_nil,List.getElem?_toArray,List.getElem?_cons_succ,List.getElem?_cons_zero,Option.map_some]
     iterate 4
      refine wpPlan_take (v:=?_) (by kernel_rfl) (fun wS hSw=>?_) ?_
      rotate_left
      ·(try dsimp only at hSw);go_simp;(try with_reducible rfl)
      (try simp only [Act.put,pu1,pu2,pu3])
     refine wpPlan_take (v:=?_) (by kernel_rfl) (fun wS hSw=>?_) ?_
     rotate_left
     ·have qx:=(hSw.cell (p:=⟨bE,oE+j*3+1,none⟩) hbE').trans (HCE.out 1 _ rfl);go_simp;(try with_reducible rfl)
     (try simp only [Act.put,pu1,pu2,pu3])
     refine wpPlan_take (v:=?_) (by kernel_rfl) (fun wS hSw=>?_) ?_
     rotate_left
     ·(try dsimp only at hSw);go_simp;(try with_reducible rfl)
     (try simp only [Act.put,pu1,pu2,pu3])
     refine wpPlan_take (v:=?_) (by kernel_rfl) (fun wS hSw=>?_) ?_
     rotate_left
     ·(try dsimp only at hSw);go_simp;(try simp only [hei]);(try with_reducible rfl)
     (try simp only [Act.put,pu1,pu2,pu3])
     refine wpPlan_take (v:=?_) (by kernel_rfl) (fun wS hSw=>?_) ?_
     rotate_left
     ·(try dsimp only at hSw);go_simp;(try with_reducible rfl)
     (try simp only [Act.put,pu1,pu2,pu3])
     refine wpPlan_take (v:=?_) (by kernel_rfl) (fun wS hSw=>?_) ?_
     rotate_left
     ·refine execOp_load (x:=.tmp 2) (k:=6) (g:=w.heap.size) (off:=0) (cs:=(stkC g (.slice AU nU cU) (.slice AL nL cL))) ?_ stk_agg stk_size ?_ (fun j v hv=>by rw [Nat.zero_add];exact ((R2r.out.on hSw).cell j).trans hv) rfl <;> rfl
     (try simp only [Act.put,pu1,pu2,pu3])
     iterate 3
      refine wpPlan_take (v:=?_) (by kernel_rfl) (fun wS hSw=>?_) ?_
      rotate_left
      ·(try dsimp only at hSw);go_simp;(try with_reducible rfl)
      (try simp only [Act.put,pu1,pu2,pu3])
     refine wpPlan_take (v:=?_) (by kernel_rfl) (fun wS hSw=>?_) ?_
     rotate_left
     ·refine execOp_load (x:=.tmp 26) (k:=3) (g:=bE) (off:=oE+j*3) (cs:=cellsE e) ?_ ixe_agg ixe_size ?_ (fun k v hv=>(hSw.cell (p:=⟨bE,oE+j*3+k,none⟩) hbE').trans (HCE.out k v hv)) rfl <;> rfl
     (try simp only [Act.put,pu1,pu2,pu3])
     refine wpPlan_call (by kernel_rfl) (fun K hK=>?_)
     have hOld:=hide hHeld
     clear hHeld
     go_simp
     go_at_call 12
     refine (RXBad_any (g:=g) (cU:=cU) (cL:=cL) HRS.out HBD.out _ (HUr.out.under hOld.out (by omega)) (HLr.out.under hOld.out (by omega)) (by have:=hOld.out.size;omega) HF.out HFU.out).mono ?_
     rintro e w' ⟨rfl,hbel⟩
     have HBZ:=hide (HBw.out.trans ((hOld.out.trans (hbel.mono hOld.out.size)).mono (by omega)))
     have HBR2:=hide (HBR.out.trans ((hOld.out.trans (hbel.mono hOld.out.size)).mono (by omega)))
     refine hK.out _ _ (hOld.out.trans (hbel.mono hOld.out.size)) (fun hHeld=>?_)
     clear hK K
     (try simp only [Act.put,pu1,pu2,pu3])
     iterate 2
      refine wpPlan_take (v:=?_) (by kernel_rfl) (fun wS hSw=>?_) ?_
      rotate_left
      ·(try dsimp only at hSw);go_simp;(try with_reducible rfl)
      (try simp only [Act.put,pu1,pu2,pu3])
     refine wpPlan_end ?_
     go_wp2_with fail
     go_roundw
     case rel=>exact ⟨j+1,by omega,by go_num,fun k e' hk hk2 hk3=>by
      by_cases hkj:k=j
      ·subst hkj
       rw [HEJ.out] at hk2
       cases hk2
       exact HBD.out
      ·exact HNO.out k e' (by omega) hk2 hk3,HBR2.out⟩
     case measure=>simp [intOf];omega
    | false =>
     have hyes:inX up ls rs i=true:=inX_at (j:=j) (by rw [HEL.out];exact HEJ.out) HI.out HBD.out
     have HY:=hide (hyes.symm.trans HR.out)
     clear hyes
     go_upto_region 5 with fail
     refine wp_region_plan (fun w'=>Below wr.heap.size wr w') [(0,true),(1,true),(2,true),(3,true),(4,true),(5,true),(6,true),(7,true),(8,true),(9,true),(10,true),(11,true),(12,true),(13,false),(14,true),(15,true)] (by kernel_rfl) (by kernel_rfl) (by kernel_rfl) (by kernel_rfl) rfl (fun _ _ _ _ _ h=>h) (below_drew (below_self wr)) (fun hHeld=>?_)
     simp only [planOps,List.filterMap_cons,List.filterMap_nil,List.getElem?_toArray,List.getElem?_cons_succ,List.getElem?_cons_zero,Option.map_some]
     iterate 4
      refine wpPlan_take (v:=?_) (by kernel_rfl) (fun wS hSw=>?_) ?_
      rotate_left
      ·(try dsimp only at hSw);go_simp;(try with_reducible rfl)
      (try simp only [Act.put,pu1,pu2,pu3])
     refine wpPlan_take (v:=?_) (by kernel_rfl) (fun wS hSw=>?_) ?_
     rotate_left
     ·have qx:=(hSw.cell (p:=⟨bE,oE+j*3+1,none⟩) hbE').trans (HCE.out 1 _ rfl);go_simp;(try with_reducible rfl)
     (try simp only [Act.put,pu1,pu2,pu3])
     refine wpPlan_take (v:=?_) (by kernel_rfl) (fun wS hSw=>?_) ?_
     rotate_left
     ·(try dsimp only at hSw);go_simp;(try with_reducible rfl)
     (try simp only [Act.put,pu1,pu2,pu3])
     refine wpPlan_take (v:=?_) (by kernel_rfl) (fun wS hSw=>?_) ?_
     rotate_left
     ·(try dsimp only at hSw);go_simp;(try simp only [hei]);(try with_reducible rfl)
     (try simp only [Act.put,pu1,pu2,pu3])
     refine wpPlan_take (v:=?_) (by kernel_rfl) (fun wS hSw=>?_) ?_
     rotate_left
     ·(try dsimp only at hSw);go_simp;(try with_reducible rfl)
     (try simp only [Act.put,pu1,pu2,pu3])
     refine wpPlan_take (v:=?_) (by kernel_rfl) (fun wS hSw=>?_) ?_
     rotate_left
     ·refine execOp_load (x:=.tmp 2) (k:=6) (g:=w.heap.size) (off:=0) (cs:=(stkC g (.slice AU nU cU) (.slice AL nL cL))) ?_ stk_agg stk_size ?_ (fun j v hv=>by rw [Nat.zero_add];exact ((R2r.out.on hSw).cell j).trans hv) rfl <;> rfl
     (try simp only [Act.put,pu1,pu2,pu3])
     iterate 3
      refine wpPlan_take (v:=?_) (by kernel_rfl) (fun wS hSw=>?_) ?_
      rotate_left
      ·(try dsimp only at hSw);go_simp;(try with_reducible rfl)
      (try simp only [Act.put,pu1,pu2,pu3])
     refine wpPlan_take (v:=?_) (by kernel_rfl) (fun wS hSw=>?_) ?_
     rotate_left
     ·refine execOp_load (x:=.tmp 26) (k:=3) (g:=bE) (off:=oE+j*3) (cs:=cellsE e) ?_ ixe_agg ixe_size ?_ (fun k v hv=>(hSw.cell (p:=⟨bE,oE+j*3+k,none⟩) hbE').trans (HCE.out k v hv)) rfl <;> rfl
     (try simp only [Act.put,pu1,pu2,pu3])
     refine wpPlan_call (by kernel_rfl) (fun K hK=>?_)
     have hOld:=hide hHeld
     clear hHeld
     go_simp
     go_at_call 12
     refine (RXBad_any (g:=g) (cU:=cU) (cL:=cL) HRS.out HBD.out _ (HUr.out.under hOld.out (by omega)) (HLr.out.under hOld.out (by omega)) (by have:=hOld.out.size;omega) HF.out HFU.out).mono ?_
     rintro e w' ⟨rfl,hbel⟩
     have HBZ:=hide (HBw.out.trans ((hOld.out.trans (hbel.mono hOld.out.size)).mono (by omega)))
     have HBR2:=hide (HBR.out.trans ((hOld.out.trans (hbel.mono hOld.out.size)).mono (by omega)))
     refine hK.out _ _ (hOld.out.trans (hbel.mono hOld.out.size)) (fun hHeld=>?_)
     clear hK K
     (try simp only [Act.put,pu1,pu2,pu3])
     iterate 2
      refine wpPlan_take (v:=?_) (by kernel_rfl) (fun wS hSw=>?_) ?_
      rotate_left
      ·(try dsimp only at hSw);go_simp;(try with_reducible rfl)
      (try simp only [Act.put,pu1,pu2,pu3])
     refine wpPlan_end ?_
     go_wp2_with fail
     go_ret
     rw [←HY.out]
     exact BoolB.of HBZ.out
   ·have hei:(e.ino==i)=false:=by simp [hi]
    have HI:=hide hi
    clear hi
    go_upto_region 5 with fail
    refine wp_region_plan (fun w'=>Below wr.heap.size wr w') [(0,true),(1,true),(2,true),(3,true),(4,true),(5,true),(6,true),(7,true),(8,true),(9,true),(10,true),(11,true),(12,true),(13,false),(14,true),(15,true)] (by kernel_rfl) (by kernel_rfl) (by kernel_rfl) (by kernel_rfl) rfl (fun _ _ _ _ _ h=>h) (below_drew (below_self wr)) (fun hHeld=>?_)
    simp only [planOps,List.filterMap_cons,List.filterMap_nil,List.getElem?_toArray,List.getElem?_cons_succ,List.getElem?_cons_zero,Option.map_some]
    iterate 4
     refine wpPlan_take (v:=?_) (by kernel_rfl) (fun wS hSw=>?_) ?_
     rotate_left
     ·(try dsimp only at hSw);go_simp;(try with_reducible rfl)
     (try simp only [Act.put,pu1,pu2,pu3])
    refine wpPlan_take (v:=?_) (by kernel_rfl) (fun wS hSw=>?_) ?_
    rotate_left
    ·have qx:=(hSw.cell (p:=⟨bE,oE+j*3+1,none⟩) hbE').trans (HCE.out 1 _ rfl);go_simp;(try with_reducible rfl)
    (try simp only [Act.put,pu1,pu2,pu3])
    refine wpPlan_take (v:=?_) (by kernel_rfl) (fun wS hSw=>?_) ?_
    rotate_left
    ·(try dsimp only at hSw);go_simp;(try with_reducible rfl)
    (try simp only [Act.put,pu1,pu2,pu3])
    refine wpPlan_take (v:=?_) (by kernel_rfl) (fun wS hSw=>?_) ?_
    rotate_left
    ·(try dsimp only at hSw);go_simp;(try simp only [hei]);(try with_reducible rfl)
    (try simp only [Act.put,pu1,pu2,pu3])
    refine wpPlan_take (v:=?_) (by kernel_rfl) (fun wS hSw=>?_) ?_
    rotate_left
    ·(try dsimp only at hSw);go_simp;(try with_reducible rfl)
    (try simp only [Act.put,pu1,pu2,pu3])
    refine wpPlan_skip (by kernel_rfl) ?_
    (try simp only [Act.put,pu1,pu2,pu3])
    refine wpPlan_skip (by kernel_rfl) ?_
    (try simp only [Act.put,pu1,pu2,pu3])
    refine wpPlan_skip (by kernel_rfl) ?_
    (try simp only [Act.put,pu1,pu2,pu3])
    refine wpPlan_skip (by kernel_rfl) ?_
    (try simp only [Act.put,pu1,pu2,pu3])
    refine wpPlan_skip (by kernel_rfl) ?_
    (try simp only [Act.put,pu1,pu2,pu3])
    refine wpPlan_skip (by kernel_rfl) ?_
    (try simp only [Act.put,pu1,pu2,pu3])
    refine wpPlan_skip (by kernel_rfl) ?_
    (try simp only [Act.put,pu1,pu2,pu3])
    refine wpPlan_take (v:=?_) (by kernel_rfl) (fun wS hSw=>?_) ?_
    rotate_left
    ·(try dsimp only at hSw);go_simp;(try with_reducible rfl)
    (try simp only [Act.put,pu1,pu2,pu3])
    refine wpPlan_end ?_
    have HBR2:=hide (HBR.out.trans (hHeld.mono (by omega)))
    go_wp2_with fail
    go_roundw
    case rel=>exact ⟨j+1,by omega,by go_num,fun k e' hk hk2 hk3=>by
     by_cases hkj:k=j
     ·subst hkj
      rw [HEJ.out] at hk2
      cases hk2
      exact absurd hk3 HI.out
     ·exact HNO.out k e' (by omega) hk2 hk3,HBR2.out⟩
    case measure=>simp [intOf];omega
  ·obtain rfl:j=m:=by omega
   have hnone:inX up ls rs i=false:=inX_none (fun k e hk hi=>HNO.out k e (by have h1:=(List.getElem?_eq_some_iff.1 hk).1;have h2:=HEM.out;rw [HEL.out] at h1;omega) (by rw [←HEL.out];exact hk) hi)
   have HY:=hide (hnone.symm.trans HR.out)
   have hjn:¬((j:Int) < (j:Int)):=by omega
   clear hnone
   go_wp2_with fail
   go_ret
   rw [←HY.out]
   exact BoolB.of HBw.out
set_option maxRecDepth 100000 in
set_option maxHeartbeats 16000000 in
theorem RXFinds_any {g:GeoQ} {AU AL:Option Addr} {nU cU nL cL B:Nat} {up:List NodV} {ls:List (List NodV)} {rs:List Bool} (hrs:reachL up (walkW up [1]).1=rs) (w:World) (hu:RdE nodEn w (Under B) AU nU up) (h:RdE layEn w (Under B) AL nL ls) (hB:B≤w.heap.size) (hF:FewL ls) (hup:FewU up):Calls Tryz.prog 10 #[.agg (stkC g (.slice AU nU cU) (.slice AL nL cL)).toArray] w (FinsX w (findX up ls rs)):=by
 obtain ⟨W1,hW1⟩:∃W1,(w.alloc (.cells (stkC g (.slice AU nU cU) (.slice AL nL cL)).toArray 29))=W1:=⟨_,rfl⟩
 obtain ⟨r0,hb1,hs1⟩:=rowA1 w _ _ hW1
 have hW1':(w.alloc (.cells #[.int .i64 g.a,.int .i64 g.b,.int .i64 g.c,.int .i64 g.d,.slice AU nU cU,.slice AL nL cL] 29))=W1:=hW1
 have R1:=hide r0
 have HB:=hide hb1
 have hsz0:=hb1.size
 have HU:=hide (hu.under hb1 hB)
 have HL:=hide (h.under hb1 hB)
 have HF:=hide hF
 have HFU:=hide hup
 have hs1':w.heap.size+1≤W1.heap.size:=by omega
 have HRS:=hide hrs
 obtain ⟨EL,hEL⟩:∃EL,entB up 3=EL:=⟨_,rfl⟩
 have HEL:=hide hEL
 have hl16:=entB_len hup.2 3
 rw [hEL] at hl16
 obtain ⟨WL,hWL⟩:∃WL,entB up 2=WL:=⟨_,rfl⟩
 have HWL:=hide hWL
 have hw16:=entB_len hup.2 2
 rw [hWL] at hw16
 unfold stkC
 clear r0 hb1 hW1 hu h hF hup hs1 hrs hEL hWL
 go_enter Tryz.func10,Tryz.ntmps10
 go_upto_region 2 with fail
 have HE0:=hide (OwE.empty finEn W1 37)
 have hbe:=below_new (below_self W1) (.cells #[] 37)
 have hWE:W1.heap.size+1=(W1.alloc (.cells #[] 37)).heap.size:=by simp
 generalize W1.alloc (.cells #[] 37)=wE at *
 have hWE1:W1.heap.size+1≤wE.heap.size:=by omega
 have hWE2:wE.heap.size≤W1.heap.size+1:=by omega
 clear hWE
 replace R1:=hide (R1.out.on hbe)
 replace HU:=hide (HU.out.under hbe (by omega))
 replace HL:=hide (HL.out.under hbe (by omega))
 replace HB:=hide (HB.out.trans (hbe.mono HB.out.size))
 have hbesz:=hbe.size
 clear hbe hW1'
 go_upto_region 3 with (first|(refine wpList_loadW rfl 29 (.tmp 1) rfl 6 stk_agg stk_size (w.heap.size) 29 rfl (stkC g (.slice AU nU cU) (.slice AL nL cL)) R1.out rfl ?_)|(go_at_call 28;refine (RXEnts_any (g:=g) (cU:=cU) (AL:=AL) (nL:=nL) (cL:=cL) HEL.out wE HU.out (by omega) HFU.out).mono ?_;rintro e31 wA ⟨C1,m1,d1,rfl,hmd1,he,hbel⟩;replace HB:=hide (HB.out.trans (hbel.mono HB.out.size));replace R1:=hide (R1.out.on hbel);replace HU:=hide (HU.out.under hbel (by omega));replace HL:=hide (HL.out.under hbel (by omega));replace HE0:=hide (HE0.out.below hbel);have hsz32:=hbel.size;have HE1:=hide he;clear he;clear hbel))
 have hEm:=HE1.out.1
 have hm16:m1≤16:=by omega
 have HEM:=hide hEm
 have hszA:wE.heap.size≤wA.heap.size:=by omega
 clear hEm hl16
 go_wp2_with fail
 go_loopw [3,5] (fun v3 v5 wr=>∃(j n6:Nat) (A6:Option Addr) (c6:Nat),j≤m1∧v5=.int .i64 j∧v3=.slice A6 n6 c6∧n6≤j∧OwL finEn wr W1.heap.size wA.heap.size 37 A6 n6 c6 (rowX up ls rs EL j)∧Below wA.heap.size wA wr) (fun _ v5 _=>m1 - (intOf v5).toNat)
 case atStart=>exact ⟨0,0,_,0,by omega,rfl,rfl,by omega,.inr ⟨_,rfl,rfl,rfl,rfl,HE0.out⟩,below_self _⟩
 case round =>
  obtain ⟨j,n6,A6,c6,hj,rfl,rfl,hn6,ho,hbr⟩:=hrel
  have HO:=hide ho
  have HBR:=hide hbr
  have hbsz:=hbr.size
  have HBw:=hide (HB.out.trans (hbr.mono (by omega)))
  have R1r:=hide (R1.out.on hbr)
  have HUr:=hide (HU.out.under hbr (by omega))
  have HLr:=hide (HL.out.under hbr (by omega))
  have HEr:=hide (HE1.out.under hbr (by omega))
  clear ho hbr
  by_cases hlt:j < m1
  ·obtain ⟨e,he⟩:∃e,EL[j]?=some e:=⟨_,List.getElem?_eq_getElem (by have:=HEM.out;omega)⟩
   obtain ⟨bE,oE,rfl,hbE,hcE⟩:=ent_get HEr.out he
   have HCE:=hide hcE
   have hjm:(j:Int) < (m1:Int):=by omega
   have hbE':bE < wr.heap.size:=by have h9:bE < B:=hbE;omega
   obtain ⟨b,hb⟩:∃b,badX up ls rs e=b:=⟨_,rfl⟩
   have HBD:=hide hb
   have HST:=hide (rowX_succ he hb)
   clear he hcE hb
   cases b with
   | true =>
    go_upto_region 6 with fail
    refine wp_region_plan (fun w'=>Below wr.heap.size wr w') [(0,true),(1,true),(2,true),(3,true),(4,true),(5,false)] (by kernel_rfl) (by kernel_rfl) (by kernel_rfl) (by kernel_rfl) rfl (fun _ _ _ _ _ h=>h) (below_drew (below_self wr)) (fun hHeld=>?_)
    simp only [planOps,List.filterMap_cons,List.filterMap_nil,List.getElem?_toArray,List.getElem?_cons_succ,List.getElem?_cons_zero,Option.map_some]
    refine wpPlan_take (v:=?_) (by kernel_rfl) (fun wS hSw=>?_) ?_
    rotate_left
    ·refine execOp_load (x:=.tmp 1) (k:=6) (g:=w.heap.size) (off:=0) (cs:=(stkC g (.slice AU nU cU) (.slice AL nL cL))) ?_ stk_agg stk_size ?_ (fun j v hv=>by rw [Nat.zero_add];exact ((R1r.out.on hSw).cell j).trans hv) rfl <;> rfl
    (try simp only [Act.put,pu1,pu2,pu3])
    iterate 3
     refine wpPlan_take (v:=?_) (by kernel_rfl) (fun wS hSw=>?_) ?_
     rotate_left
     ·(try dsimp only at hSw);go_simp;(try with_reducible rfl)
     (try simp only [Act.put,pu1,pu2,pu3])
    refine wpPlan_take (v:=?_) (by kernel_rfl) (fun wS hSw=>?_) ?_
    rotate_left
    ·refine execOp_load (x:=.tmp 19) (k:=3) (g:=bE) (off:=oE+j*3) (cs:=cellsE e) ?_ ixe_agg ixe_size ?_ (fun k v hv=>(hSw.cell (p:=⟨bE,oE+j*3+k,none⟩) hbE').trans (HCE.out k v hv)) rfl <;> rfl
    (try simp only [Act.put,pu1,pu2,pu3])
    refine wpPlan_call (by kernel_rfl) (fun K hK=>?_)
    have hOld:=hide hHeld
    clear hHeld
    go_simp
    go_at_call 12
    refine (RXBad_any (g:=g) (cU:=cU) (cL:=cL) HRS.out HBD.out _ (HUr.out.under hOld.out (by omega)) (HLr.out.under hOld.out (by omega)) (by have:=hOld.out.size;omega) HF.out HFU.out).mono ?_
    rintro e w' ⟨rfl,hbel⟩
    have hw8:=hOld.out.trans (hbel.mono hOld.out.size)
    have HBR8:=hide (HBR.out.trans (hw8.mono (by omega)))
    have HO8:=hide (HO.out.below hw8)
    have q8:w'.cell? ⟨bE,oE+j*3,none⟩=some (.int .i64 e.slot):=(hw8.cell (p:=⟨bE,oE+j*3,none⟩) hbE').trans (HCE.out 0 _ rfl)
    have hz8:=hw8.size
    refine hK.out _ _ (hOld.out.trans (hbel.mono hOld.out.size)) (fun hHeld=>?_)
    clear hK K
    (try simp only [Act.put,pu1,pu2,pu3])
    refine wpPlan_end ?_
    have hlit:=litX_fin 16 0 3 e.slot w'
    go_wp2_with (at_builtin;have hba:=below_new (below_self w') (.cells (finC ⟨16,0,3,e.slot⟩).toArray 37);refine wpList_append_OwL (E:=finEn) _ rfl (.tmp 22) (.tmp 29) 35 rfl W1.heap.size wA.heap.size 37 (.agg #[.int .i64 0,.int .i64 0,.int .i64 0,.int .i64 0]) 32 Tryz.underlying35 finX_info rfl (by decide) A6 n6 c6 _ rfl (HO8.out.below hba) (fun b=>w'.heap.size≤b∧b < (w'.alloc (.cells (finC ⟨16,0,3,e.slot⟩).toArray 37)).heap.size) (some ⟨w'.heap.size,0,none⟩) 1 1 [⟨16,0,3,e.slot⟩] rfl (encX_lit1 (finX_R ⟨16,0,3,e.slot⟩) w' 37 (Nat.le_refl _)) (fun b hb=>⟨⟨hb.2,fun _ _ _ _=>rfl⟩,fun a ha=>(fun e=>by have h1:=hb.1;rw [e] at h1;have:=HO8.out.ltB a ha;omega)⟩) (by omega) (n6+1) rfl (by omega) (by omega) (by simp;omega) (by simp;omega) ?_;intro A9 c9 w9 ho9 hb9 _;have HO9:=hide ho9;have HB9:=hide ((HBR8.out.alloc (by omega) _).trans hb9);clear ho9 hb9 hba)
    go_roundw
    case rel=>exact ⟨j+1,n6+1,A9,c9,by omega,by go_num,rfl,by omega,by (first|rw [HST.out,if_pos rfl]|rw [HST.out,if_pos trivial]);exact .inl HO9.out,HB9.out⟩
    case measure=>simp [intOf];omega
   | false =>
    go_upto_region 6 with fail
    refine wp_region_plan (fun w'=>Below wr.heap.size wr w') [(0,true),(1,true),(2,true),(3,true),(4,true),(5,false)] (by kernel_rfl) (by kernel_rfl) (by kernel_rfl) (by kernel_rfl) rfl (fun _ _ _ _ _ h=>h) (below_drew (below_self wr)) (fun hHeld=>?_)
    simp only [planOps,List.filterMap_cons,List.filterMap_nil,List.getElem?_toArray,List.getElem?_cons_succ,List.getElem?_cons_zero,Option.map_some]
    refine wpPlan_take (v:=?_) (by kernel_rfl) (fun wS hSw=>?_) ?_
    rotate_left
    ·refine execOp_load (x:=.tmp 1) (k:=6) (g:=w.heap.size) (off:=0) (cs:=(stkC g (.slice AU nU cU) (.slice AL nL cL))) ?_ stk_agg stk_size ?_ (fun j v hv=>by rw [Nat.zero_add];exact ((R1r.out.on hSw).cell j).trans hv) rfl <;> rfl
    (try simp only [Act.put,pu1,pu2,pu3])
    iterate 3
     refine wpPlan_take (v:=?_) (by kernel_rfl) (fun wS hSw=>?_) ?_
     rotate_left
     ·(try dsimp only at hSw);go_simp;(try with_reducible rfl)
     (try simp only [Act.put,pu1,pu2,pu3])
    refine wpPlan_take (v:=?_) (by kernel_rfl) (fun wS hSw=>?_) ?_
    rotate_left
    ·refine execOp_load (x:=.tmp 19) (k:=3) (g:=bE) (off:=oE+j*3) (cs:=cellsE e) ?_ ixe_agg ixe_size ?_ (fun k v hv=>(hSw.cell (p:=⟨bE,oE+j*3+k,none⟩) hbE').trans (HCE.out k v hv)) rfl <;> rfl
    (try simp only [Act.put,pu1,pu2,pu3])
    refine wpPlan_call (by kernel_rfl) (fun K hK=>?_)
    have hOld:=hide hHeld
    clear hHeld
    go_simp
    go_at_call 12
    refine (RXBad_any (g:=g) (cU:=cU) (cL:=cL) HRS.out HBD.out _ (HUr.out.under hOld.out (by omega)) (HLr.out.under hOld.out (by omega)) (by have:=hOld.out.size;omega) HF.out HFU.out).mono ?_
    rintro e w' ⟨rfl,hbel⟩
    have hw8:=hOld.out.trans (hbel.mono hOld.out.size)
    have HBR8:=hide (HBR.out.trans (hw8.mono (by omega)))
    have HO8:=hide (HO.out.below hw8)
    have q8:w'.cell? ⟨bE,oE+j*3,none⟩=some (.int .i64 e.slot):=(hw8.cell (p:=⟨bE,oE+j*3,none⟩) hbE').trans (HCE.out 0 _ rfl)
    have hz8:=hw8.size
    refine hK.out _ _ (hOld.out.trans (hbel.mono hOld.out.size)) (fun hHeld=>?_)
    clear hK K
    (try simp only [Act.put,pu1,pu2,pu3])
    refine wpPlan_end ?_
    go_wp2_with fail
    go_roundw
    case rel=>exact ⟨j+1,n6,A6,c6,by omega,by go_num,rfl,by omega,by rw [HST.out,if_neg (by simp)];exact HO8.out,HBR8.out⟩
    case measure=>simp [intOf];omega
  ·obtain rfl:j=m1:=by omega
   have hjn:¬((j:Int) < (j:Int)):=by omega
   go_upto_region 8 with fail
   go_upto_region 9 with (first|(refine wpList_loadW rfl 29 (.tmp 1) rfl 6 stk_agg stk_size (w.heap.size) 29 rfl (stkC g (.slice AU nU cU) (.slice AL nL cL)) R1r.out rfl ?_)|(go_at_call 28;refine (RXEnts_any (g:=g) (cU:=cU) (AL:=AL) (nL:=nL) (cL:=cL) HWL.out wr HUr.out (by omega) HFU.out).mono ?_;rintro e61 w15 ⟨C2,m2,d2,rfl,hmd2,he,hbel⟩;replace HBw:=hide (HBw.out.trans (hbel.mono (by omega)));replace R1r:=hide (R1r.out.on hbel);replace HUr:=hide (HUr.out.under hbel (by omega));replace HO:=hide (HO.out.below hbel);have hsz62:=hbel.size;have HBR2:=hide (HBR.out.trans (hbel.mono (by omega)));have HE2:=hide he;clear he;clear hbel))
   have hEm2:=HE2.out.1
   have hm216:m2≤16:=by omega
   have HEM2:=hide hEm2
   have hEj:EL.length=j:=HEM.out
   clear hEm2 hw16
   obtain ⟨L1,hL1⟩:∃L1,rowX up ls rs EL j=L1:=⟨_,rfl⟩
   rw [hL1] at HO
   have HL1:=hide hL1
   clear hL1
   go_wp2_with fail
   go_loopw [3,6] (fun v3 v6 wr2=>∃(j2 n6:Nat) (A6:Option Addr) (c6:Nat),j2≤m2∧v6=.int .i64 j2∧v3=.slice A6 n6 c6∧n6≤j+j2∧OwL finEn wr2 W1.heap.size wA.heap.size 37 A6 n6 c6 (wrkX L1 WL j2)∧Below wA.heap.size wA wr2∧RdE entEn wr2 (Under B) C2 m2 WL) (fun _ v6 _=>m2 - (intOf v6).toNat)
   case atStart=>exact ⟨0,n6,A6,c6,by omega,rfl,rfl,by omega,HO.out,HBR2.out,HE2.out⟩
   case round =>
    clear HO HBR HBR2 HE2
    obtain ⟨j2,n6,A6,c6,hj2,rfl,rfl,hn6,ho,hbr,he2⟩:=hrel
    have HO:=hide ho
    have HBR:=hide hbr
    have HE2:=hide he2
    have hbsz2:=hbr.size
    clear ho hbr he2
    by_cases hlt2:j2 < m2
    ·obtain ⟨e,he⟩:∃e,WL[j2]?=some e:=⟨_,List.getElem?_eq_getElem (by have:=HEM2.out;omega)⟩
     obtain ⟨bE,oE,rfl,hbE,hcE⟩:=ent_get HE2.out he
     have HCE:=hide hcE
     have hjm2:(j2:Int) < (m2:Int):=by omega
     have HST:=hide (wrkX_succ (l:=L1) he)
     have q8:wr.cell? ⟨bE,oE+j2*3,none⟩=some (.int .i64 e.slot):=hcE 0 _ rfl
     have hlit:=fun W=>litX_fin 17 0 2 e.slot W
     clear he hcE
     go_wp2_with (at_builtin;have hba:=below_new (below_self wr) (.cells (finC ⟨17,0,2,e.slot⟩).toArray 37);refine wpList_append_OwL (E:=finEn) _ rfl (.tmp 39) (.tmp 46) 35 rfl W1.heap.size wA.heap.size 37 (.agg #[.int .i64 0,.int .i64 0,.int .i64 0,.int .i64 0]) 32 Tryz.underlying35 finX_info rfl (by decide) A6 n6 c6 _ rfl (HO.out.below hba) (fun b=>wr.heap.size≤b∧b < (wr.alloc (.cells (finC ⟨17,0,2,e.slot⟩).toArray 37)).heap.size) (some ⟨wr.heap.size,0,none⟩) 1 1 [⟨17,0,2,e.slot⟩] rfl (encX_lit1 (finX_R ⟨17,0,2,e.slot⟩) wr 37 (Nat.le_refl _)) (fun b hb=>⟨⟨hb.2,fun _ _ _ _=>rfl⟩,fun a ha=>(fun e=>by have h1:=hb.1;rw [e] at h1;have:=HO.out.ltB a ha;omega)⟩) (by omega) (n6+1) rfl (by omega) (by omega) (by simp;omega) (by simp;omega) ?_;intro A9 c9 w9 ho9 hb9 _;have HO9:=hide ho9;have HE9:=hide (und_at HE2.out (((below_new (below_self wr) _).mono (by omega:wA.heap.size≤wr.heap.size)).trans hb9) (by omega));have HB9:=hide ((HBR.out.alloc (by omega) _).trans hb9);clear ho9 hb9 hba)
     go_roundw
     case rel=>exact ⟨j2+1,n6+1,A9,c9,by omega,by go_num,rfl,by omega,by rw [HST.out];exact .inl HO9.out,HB9.out,HE9.out⟩
     case measure=>simp [intOf];omega
    ·obtain rfl:j2=m2:=by omega
     have hfx:findX up ls rs=wrkX L1 WL j2:=by
      unfold findX
      rw [HEL.out,HWL.out,hEj,HL1.out,HEM2.out]
     have HFX:=hide hfx
     have hjn2:¬((j2:Int) < (j2:Int)):=by omega
     clear hfx
     go_upto_region 13 with fail
     go_wp2_with fail
     go_ret
     exact ⟨A6,n6,c6,rfl,by rw [HFX.out];exact HO.out.read rfl,HB.out.trans (HBR.out.mono (by have:=HB.out.size;omega))⟩
end Go.Proofs.YtpndfahgflgocaaGreatDoor

