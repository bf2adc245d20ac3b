import Derived.Test.YtmhiohnkjpglfaaIs32

namespace Go.Proofs.Ytmhiohnkjpglfaa
open Go.RowKit Go.Shelf Plain

set_option maxRecDepth 100000 in
set_option maxHeartbeats 3200000 in
theorem IAsked_any {AU:Option Addr} {nU cU nR cR B:Nat} {up:List NodV} {bR oR:Nat} {rs:List Bool} {j:Nat} {r b1 b2 d:Bool} (h1:((j:Int)+1==2)=b1) (h2:((j:Int)+1==3)=b2) (hd:isDir up ((j:Int)+1)=d) (hri:rs[j]?=some r) (w:World) (hu:RdE nodEn w (Under B) AU nU up) (hB:B≤w.heap.size) (hup:FewU up) (hr:Rd Value.bool w w.heap.size (some ⟨bR,oR,none⟩) nR rs) (hrl:rs.length=up.length):Calls Try.prog 18 #[.agg (imtC (.slice AU nU cU) (.slice (some ⟨bR,oR,none⟩) nR cR)).toArray,.int .i64 ((j:Int)+1)] w (BoolB w (r||((b1||b2)&&d))):=by
 obtain ⟨W1,hW1⟩:∃W1,(w.alloc (.cells (imtC (.slice AU nU cU) (.slice (some ⟨bR,oR,none⟩) nR cR)).toArray 56))=W1:=⟨_,rfl⟩
 obtain ⟨r0,hb1,hs1⟩:=rowA1 w _ _ hW1
 have hW1':(w.alloc (.cells #[.slice AU nU cU,.slice (some ⟨bR,oR,none⟩) nR cR] 56))=W1:=hW1
 have R2:=hide r0
 have HB:=hide hb1
 have hsz0:=hb1.size
 have HU:=hide (hu.under hb1 hB)
 have HFU:=hide hup
 have HD:=hide hd
 have hju:j < up.length:=by rw [←hrl];exact (List.getElem?_eq_some_iff.1 hri).1
 have hnR:rs.length=nR:=hr.1
 have hjn:(j:Int) < (nR:Int):=by omega
 have hw1:IntKind.i64.wrap ((j:Int)+1 - 1)=(j:Int):=by rw [show (j:Int)+1 - 1=(j:Int) from by omega];exact IntWalk.i64_in _ (by have:=hup.1;omega)
 have hwj:IntKind.i64.wrap (j:Int)=(j:Int):=IntWalk.i64_in _ (by have:=hup.1;omega)
 have qb:=rd_cell (hr.on hb1) hri
 have q2_1:W1.cell? ⟨w.heap.size,1,none⟩=some (.slice (some ⟨bR,oR,none⟩) nR cR):=R2.out.cell 1
 have q2_0:W1.cell? ⟨w.heap.size,0,none⟩=some (.slice AU nU cU):=R2.out.cell 0
 unfold imtC
 clear r0 hb1 hW1 hu hup hr hd hri
 cases r <;> cases b1 <;> cases b2
 all_goals
  go_enter Try.func18,Try.ntmps18
  go_wp2_with (first|(refine wpList_loadW rfl 56 (.tmp 2) rfl 2 imt_agg imt_size (w.heap.size) 56 rfl (imtC (.slice AU nU cU) (.slice (some ⟨bR,oR,none⟩) nR cR)) R2.out rfl ?_)|(go_at_call 29;refine (IDir_any HD.out W1 HU.out (by omega) HFU.out).mono ?_;rintro e2 w2 ⟨rfl,hb2⟩;replace HB:=hide (HB.out.trans (hb2.mono HB.out.size));clear hb2))
  go_ret
  first
  | exact BoolB.of HB.out
  | exact BoolB.eq (by simp) HB.out
theorem badI_is {up:List NodV} {rs:List Bool} {i:Nat} {x:NodV} {r b1 b2 d a q:Bool} {v:Int} (hx:up[i]?=some x) (h1:((i:Int)+1==2)=b1) (h2:((i:Int)+1==3)=b2) (hd:isDir up ((i:Int)+1)=d) (hv:wantI up rs ((i:Int)+1)=v) (ha:(r||((b1||b2)&&d))=a) (hq:(x.p != v)=q):badI up rs i x r=(a&&q):=by
 unfold badI
 rw [hv,←ha,←hq,←h1,←h2,←hd]
 unfold isDir
 rw [nodAt_get hx]
 have e1:decide (i=1∨i=2)=(((i:Int)+1==2)||((i:Int)+1==3)):=by
  rw [Bool.eq_iff_iff]
  simp
  omega
 have e2:decide (x.p≠v)=(x.p != v):=by
  rw [Bool.eq_iff_iff]
  simp
 rw [e1,e2]
set_option maxRecDepth 100000 in
set_option maxHeartbeats 16000000 in
theorem IFinds_any {g:GeoQ} {AU AL:Option Addr} {nU cU nL cL B:Nat} {up:List NodV} {rs:List Bool} (hrs:reachL up (walkW up [1]).1=rs) (w:World) (hu:RdE nodEn w (Under B) AU nU up) (hB:B≤w.heap.size) (hup:FewU up):Calls Try.prog 8 #[.agg (stkC g (.slice AU nU cU) (.slice AL nL cL)).toArray] w (FinsO w (findI up rs up.length)):=by
 obtain ⟨W1,hW1⟩:∃W1,(w.alloc (.cells (stkC g (.slice AU nU cU) (.slice AL nL cL)).toArray 29))=W1:=⟨_,rfl⟩
 obtain ⟨r0,hb1,hs1⟩:=rowA1 w _ _ hW1
 have hW1':(w.alloc (.cells #[.int .i64 g.a,.int .i64 g.b,.int .i64 g.c,.int .i64 g.d,.slice AU nU cU,.slice AL nL cL] 29))=W1:=hW1
 have R1:=hide r0
 have HB:=hide hb1
 have hsz0:=hb1.size
 have HU:=hide (hu.under hb1 hB)
 have HFU:=hide hup
 have HRS:=hide hrs
 have hrl:rs.length=up.length:=by rw [←hrs,reachL_len]
 clear r0 hb1 hW1 hu hup hrs
 unfold stkC
 go_enter Try.func8,Try.ntmps8
 go_wp2_with (first|(refine wpList_loadW rfl 29 (.tmp 1) rfl 6 stk_agg stk_size (w.heap.size) 29 rfl (stkC g (.slice AU nU cU) (.slice AL nL cL)) R1.out rfl ?_)|(go_at_call 17;refine (IBegin_any HRS.out W1 HU.out (by omega) HFU.out).mono ?_;rintro e1 wG ⟨AR,nR,cR,rfl,hrd,hbel⟩;replace HB:=hide (HB.out.trans (hbel.mono HB.out.size));replace R1:=hide (R1.out.on hbel);replace HU:=hide (HU.out.under hbel (by omega));have hsz2:=hbel.size;have HRD:=hide hrd;clear hrd;clear hbel)|(refine wpList_storeW rfl 56 (.tmp 3) (.tmp 9) rfl 2 imt_size (wG.heap.size) 56 rfl (imtC (.slice none 0 0) (.slice none 0 0)) (imtC (.slice AU nU cU) (.slice AR nR cR)) rfl (RowL.new wG 56 (imtC (.slice none 0 0) (.slice none 0 0))) rfl rfl (imtC_one _ _ _ _ _ _) ?_;intro wS3 hr3 hg3 hs3;have hzb:=below_stored' hg3;replace HB:=hide (HB.out.trans (hzb.mono HB.out.size));replace R1:=hide (R1.out.on hzb);replace HU:=hide (HU.out.under hzb (by omega));replace HRD:=hide (HRD.out.on hzb);have hsz4:=hzb.size;have R3:=hide hr3;have hlt3:=hr3.lt;have q3_0:wS3.cell? ⟨wG.heap.size,0,none⟩=some (.slice AU nU cU):=R3.out.cell 0;have q3_1:wS3.cell? ⟨wG.heap.size,1,none⟩=some (.slice AR nR cR):=R3.out.cell 1;clear hzb hr3;clear hg3 hs3))
 clear hW1' R1
 have hWT:W1.heap.size≤wS3.heap.size:=by omega
 have hnR:nR=nU:=by have h1:=HRD.out.1;have h2:=HU.out.1;omega
 subst hnR
 have hn24:nR≤24:=by have h1:=HFU.out.1;have h2:=HU.out.1;omega
 have hul:up.length=nR:=HU.out.1
 have hg3l:=R3.out.lt
 have hg3:W1.heap.size≤wG.heap.size:=by omega
 generalize wG.heap.size=g3 at *
 generalize wS3=wT at *
 go_loopw [4,14] (fun v4 v14 wr=>∃(i n6:Nat) (A6:Option Addr) (c6:Nat),i≤nR∧v14=.int .i64 i∧v4=.slice A6 n6 c6∧n6≤i∧OwE finEn wr wT.heap.size 35 A6 n6 c6 (findI up rs i)∧Below wT.heap.size wT wr) (fun _ v14 _=>nR - (intOf v14).toNat)
 case atStart=>exact ⟨0,0,none,0,by omega,rfl,rfl,by omega,OwE.nil_ _ _ _ _,Below.refl _ _⟩
 case round =>
  obtain ⟨i,n6,A6,c6,hi,rfl,rfl,hn6,ho,hbr⟩:=hrel
  have hbsz:=hbr.size
  have HBQ:=hide hbr
  have HO2:=hide ho
  have HBT:=HB
  replace R3:=hide (show RowL wr g3 _ _ from (hbr.block _ (by omega)).trans R3.out)
  replace HU:=hide (und_at HU.out hbr (by omega))
  replace HRD:=hide ((HRD.out.below hbr).more (by omega))
  clear ho hbr
  by_cases hlt:i < nR
  ·obtain ⟨x,hx⟩:∃x,up[i]?=some x:=⟨_,List.getElem?_eq_getElem (by omega)⟩
   obtain ⟨r,hri⟩:∃r,rs[i]?=some r:=⟨_,List.getElem?_eq_getElem (by omega)⟩
   obtain ⟨b1,h1⟩:∃b,((i:Int)+1==2)=b:=⟨_,rfl⟩
   obtain ⟨b2,h2⟩:∃b,((i:Int)+1==3)=b:=⟨_,rfl⟩
   obtain ⟨d,hd⟩:∃d,isDir up ((i:Int)+1)=d:=⟨_,rfl⟩
   obtain ⟨v,hv⟩:∃v,wantI up rs ((i:Int)+1)=v:=⟨_,rfl⟩
   obtain ⟨a,ha⟩:∃a,(r||((b1||b2)&&d))=a:=⟨_,rfl⟩
   obtain ⟨q,hq⟩:∃q,(x.p != v)=q:=⟨_,rfl⟩
   have hbad:badI up rs i x r=(a&&q):=badI_is hx h1 h2 hd hv ha hq
   have HTO:=hide (oneI_is hx hri hbad)
   have HTS:=hide (findI_succ up rs i)
   have HDI:=hide hd
   have HVW:=hide hv
   have HA:=hide ha
   have HRI:=hide hri
   have HQ:=hide hq
   obtain ⟨bU,oU,A0,n0,k0,C0,m0,d0,rfl,hbU,hcx⟩:=nod_cells HU.out hx
   have HCX:=hide hcx
   obtain ⟨bR,oR,rfl⟩:=rd_some HRD.out (by omega)
   have hin:(i:Int) < (nR:Int):=by omega
   have hw1:IntKind.i64.wrap ((i:Int)+1)=(i:Int)+1:=IntWalk.i64_in _ (by omega)
   clear hcx hx hv hd ha hri hq hbad
   go_wp2_with (first|(refine wpList_loadX rfl 46 (.tmp 17) rfl 13 nod_agg nod_size bU (oU+i*13) rfl (nodC x (.slice A0 n0 k0) (.slice C0 m0 d0)) HCX.out rfl ?_)|(refine wpList_storeW rfl 46 (.tmp 6) (.tmp 18) rfl 13 nod_size (wr.heap.size) 46 rfl (nodC nod0 (.slice none 0 0) (.slice none 0 0)) (nodC x (.slice A0 n0 k0) (.slice C0 m0 d0)) rfl (RowL.new wr 46 (nodC nod0 (.slice none 0 0) (.slice none 0 0))) rfl rfl (nodC_one _ _ _ _ _ _ _) ?_;intro wS121 hr121 hg121 hs121;have hzb:=below_stored' hg121;replace HBQ:=hide (HBQ.out.trans (hzb.mono (by omega)));replace R3:=hide (R3.out.on hzb);replace HU:=hide (HU.out.under hzb (by omega));replace HRD:=hide (HRD.out.on hzb);replace HO2:=hide (HO2.out.below hzb);have hsz122:=hzb.size;have R6:=hide hr121;have hlt121:=hr121.lt;have q6_1:wS121.cell? ⟨wr.heap.size,1,none⟩=some (.int .i64 x.p):=R6.out.cell 1;clear hzb hr121;clear hg121 hs121))
   cases a with
   | false =>
    refine wp_region_planN (fun w'=>Below wS121.heap.size wS121 w') [(0,true),(1,true),(2,false),(3,true),(4,true),(5,true),(6,true),(7,true),(8,false),(9,true),(10,true)] (by kernel_rfl) (by kernel_rfl) (by kernel_rfl) (by kernel_rfl) rfl (fun _ _ _ _ _ h=>h) (below_drew (below_self wS121)) (fun hHeld=>?_)
    simp only [planOps,List.filterMap_cons,List.filterMap_nil,List.getElem?_toArray,List.getElem?_cons_succ,List.getElem?_cons_zero,Option.map_some]
    refine wpPlan_take (v:=?_) (by kernel_rfl) (fun wS hSw=>?_) ?_
    rotate_left
    ·refine execOp_load (x:=.tmp 3) (k:=2) (g:=g3) (off:=0) (cs:=(imtC (.slice (some ⟨bU,oU,none⟩) nR cU) (.slice (some ⟨bR,oR,none⟩) nR cR))) ?_ imt_agg imt_size ?_ (fun j v hv=>by rw [Nat.zero_add];exact ((R3.out.on hSw).cell j).trans hv) rfl <;> rfl
    (try simp only [Act.put,pu1,pu2,pu3])
    refine wpPlan_take (v:=?_) (by kernel_rfl) (fun wS hSw=>?_) ?_
    rotate_left
    ·(try dsimp only at hSw);go_simp;(try with_reducible rfl)
    (try simp only [Act.put,pu1,pu2,pu3])
    refine wpPlan_call (by kernel_rfl) (fun K hK=>?_)
    have hOld:=hide hHeld
    clear hHeld
    go_simp
    go_at_call 18
    refine ((show Calls Try.prog 18 #[.agg (imtC (.slice (some ⟨bU,oU,none⟩) nR cU) (.slice (some ⟨bR,oR,none⟩) nR cR)).toArray,.int .i64 ((i:Int)+1)] _ (BoolB _ false) from by rw [←HA.out];exact IAsked_any h1 h2 HDI.out HRI.out _ (HU.out.under hOld.out (by omega)) (by have:=hOld.out.size;omega) HFU.out (HRD.out.on hOld.out) hrl)).mono ?_
    rintro e w' ⟨rfl,hbel⟩
    refine hK.out _ _ (hOld.out.trans (hbel.mono hOld.out.size)) (fun hHeld=>?_)
    clear hK K
    (try simp only [Act.put,pu1,pu2,pu3])
    refine wpPlan_take (v:=?_) (by kernel_rfl) (fun wS hSw=>?_) ?_
    rotate_left
    ·(try dsimp only at hSw);go_simp;(try with_reducible rfl)
    (try simp only [Act.put,pu1,pu2,pu3])
    refine wpPlan_skip (by kernel_rfl) ?_
    (try simp only [Act.put,pu1,pu2,pu3])
    refine wpPlan_skip (by kernel_rfl) ?_
    (try simp only [Act.put,pu1,pu2,pu3])
    refine wpPlan_skip (by kernel_rfl) ?_
    (try simp only [Act.put,pu1,pu2,pu3])
    refine wpPlan_skip (by kernel_rfl) ?_
    (try simp only [Act.put,pu1,pu2,pu3])
    refine wpPlan_skip (by kernel_rfl) ?_
    (try simp only [Act.put,pu1,pu2,pu3])
    refine wpPlan_skip (by kernel_rfl) ?_
    (try simp only [Act.put,pu1,pu2,pu3])
    refine wpPlan_take (v:=?_) (by kernel_rfl) (fun wS hSw=>?_) ?_
    rotate_left
    ·(try dsimp only at hSw);go_simp;(try with_reducible rfl)
    (try simp only [Act.put,pu1,pu2,pu3])
    refine wpPlan_end ?_
    rename World=>wH
    clear q6_1
    replace HBQ:=hide (HBQ.out.trans (hHeld.mono (by omega)))
    replace R3:=hide (R3.out.on hHeld)
    replace HU:=hide (HU.out.under hHeld (by omega))
    replace HRD:=hide (HRD.out.on hHeld)
    replace HO2:=hide (HO2.out.below hHeld)
    replace R6:=hide (R6.out.on hHeld)
    have hsz123:=hHeld.size
    have q6_1:wH.cell? ⟨wr.heap.size,1,none⟩=some (.int .i64 x.p):=R6.out.cell 1
    clear hHeld
    go_wp2_with fail
    go_roundw
    case rel=>exact ⟨i+1,n6,A6,c6,by omega,by go_num,rfl,by omega,by rw [HTS.out,HTO.out,if_neg (by simp),List.append_nil];exact HO2.out,HBQ.out⟩
    case measure=>simp [intOf];omega
   | true =>
    have hq:=HQ.out
    refine wp_region_planN (fun w'=>Below wS121.heap.size wS121 w') [(0,true),(1,true),(2,false),(3,true),(4,true),(5,true),(6,true),(7,true),(8,false),(9,true),(10,true)] (by kernel_rfl) (by kernel_rfl) (by kernel_rfl) (by kernel_rfl) rfl (fun _ _ _ _ _ h=>h) (below_drew (below_self wS121)) (fun hHeld=>?_)
    simp only [planOps,List.filterMap_cons,List.filterMap_nil,List.getElem?_toArray,List.getElem?_cons_succ,List.getElem?_cons_zero,Option.map_some]
    refine wpPlan_take (v:=?_) (by kernel_rfl) (fun wS hSw=>?_) ?_
    rotate_left
    ·refine execOp_load (x:=.tmp 3) (k:=2) (g:=g3) (off:=0) (cs:=(imtC (.slice (some ⟨bU,oU,none⟩) nR cU) (.slice (some ⟨bR,oR,none⟩) nR cR))) ?_ imt_agg imt_size ?_ (fun j v hv=>by rw [Nat.zero_add];exact ((R3.out.on hSw).cell j).trans hv) rfl <;> rfl
    (try simp only [Act.put,pu1,pu2,pu3])
    refine wpPlan_take (v:=?_) (by kernel_rfl) (fun wS hSw=>?_) ?_
    rotate_left
    ·(try dsimp only at hSw);go_simp;(try with_reducible rfl)
    (try simp only [Act.put,pu1,pu2,pu3])
    refine wpPlan_call (by kernel_rfl) (fun K hK=>?_)
    have hOld:=hide hHeld
    clear hHeld
    go_simp
    go_at_call 18
    refine ((show Calls Try.prog 18 #[.agg (imtC (.slice (some ⟨bU,oU,none⟩) nR cU) (.slice (some ⟨bR,oR,none⟩) nR cR)).toArray,.int .i64 ((i:Int)+1)] _ (BoolB _ true) from by rw [←HA.out];exact IAsked_any h1 h2 HDI.out HRI.out _ (HU.out.under hOld.out (by omega)) (by have:=hOld.out.size;omega) HFU.out (HRD.out.on hOld.out) hrl)).mono ?_
    rintro e w' ⟨rfl,hbel⟩
    refine hK.out _ _ (hOld.out.trans (hbel.mono hOld.out.size)) (fun hHeld=>?_)
    clear hK K
    (try simp only [Act.put,pu1,pu2,pu3])
    iterate 2
     refine wpPlan_take (v:=?_) (by kernel_rfl) (fun wS hSw=>?_) ?_
     rotate_left
     ·(try dsimp only at hSw);go_simp;(try with_reducible rfl)
     (try simp only [Act.put,pu1,pu2,pu3])
    refine wpPlan_take (v:=?_) (by kernel_rfl) (fun wS hSw=>?_) ?_
    rotate_left
    ·have qx:=((R6.out.on hSw).cell 1).trans (show (nodC x (.slice A0 n0 k0) (.slice C0 m0 d0))[1]?=some (.int .i64 x.p) from rfl);go_simp;(try with_reducible rfl)
    (try simp only [Act.put,pu1,pu2,pu3])
    refine wpPlan_take (v:=?_) (by kernel_rfl) (fun wS hSw=>?_) ?_
    rotate_left
    ·refine execOp_load (x:=.tmp 3) (k:=2) (g:=g3) (off:=0) (cs:=(imtC (.slice (some ⟨bU,oU,none⟩) nR cU) (.slice (some ⟨bR,oR,none⟩) nR cR))) ?_ imt_agg imt_size ?_ (fun j v hv=>by rw [Nat.zero_add];exact ((R3.out.on hSw).cell j).trans hv) rfl <;> rfl
    (try simp only [Act.put,pu1,pu2,pu3])
    refine wpPlan_take (v:=?_) (by kernel_rfl) (fun wS hSw=>?_) ?_
    rotate_left
    ·(try dsimp only at hSw);go_simp;(try with_reducible rfl)
    (try simp only [Act.put,pu1,pu2,pu3])
    refine wpPlan_call (by kernel_rfl) (fun K hK=>?_)
    have hOld:=hide hHeld
    clear hHeld
    go_simp
    go_at_call 19
    refine (IWantT_any HVW.out _ (HU.out.under hOld.out (by omega)) (by have:=hOld.out.size;omega) HFU.out (HRD.out.on hOld.out) hrl).mono ?_
    rintro e w' ⟨rfl,hbel⟩
    refine hK.out _ _ (hOld.out.trans (hbel.mono hOld.out.size)) (fun hHeld=>?_)
    clear hK K
    (try simp only [Act.put,pu1,pu2,pu3])
    refine wpPlan_take (v:=?_) (by kernel_rfl) (fun wS hSw=>?_) ?_
    rotate_left
    ·(try dsimp only at hSw);go_simp;(try rw [hq]);(try with_reducible rfl)
    (try simp only [Act.put,pu1,pu2,pu3])
    refine wpPlan_take (v:=?_) (by kernel_rfl) (fun wS hSw=>?_) ?_
    rotate_left
    ·(try dsimp only at hSw);go_simp;(try with_reducible rfl)
    (try simp only [Act.put,pu1,pu2,pu3])
    refine wpPlan_end ?_
    rename World=>wH
    clear q6_1
    replace HBQ:=hide (HBQ.out.trans (hHeld.mono (by omega)))
    replace R3:=hide (R3.out.on hHeld)
    replace HU:=hide (HU.out.under hHeld (by omega))
    replace HRD:=hide (HRD.out.on hHeld)
    replace HO2:=hide (HO2.out.below hHeld)
    replace R6:=hide (R6.out.on hHeld)
    have hsz123:=hHeld.size
    have q6_1:wH.cell? ⟨wr.heap.size,1,none⟩=some (.int .i64 x.p):=R6.out.cell 1
    clear hHeld hq
    cases q with
    | false =>
     go_wp2_with fail
     go_roundw
     case rel=>exact ⟨i+1,n6,A6,c6,by omega,by go_num,rfl,by omega,by rw [HTS.out,HTO.out,if_neg (by simp),List.append_nil];exact HO2.out,HBQ.out⟩
     case measure=>simp [intOf];omega
    | true =>
     have hlit:=litW_fin 18 0 ((i:Int)+1) (-1) wH
     go_wp2_with (first|(at_builtin;have hba:=below_new (below_self wH) (.cells #[.int .i64 18,.int .i64 0,.int .i64 ((i:Int)+1),.int .i64 (-1)] 35);refine wpList_append_OwE (E:=finEn) _ rfl (.tmp 32) (.tmp 35) 33 rfl wT.heap.size 35 (.agg #[.int .i64 0,.int .i64 0,.int .i64 0,.int .i64 0]) 32 Try.underlying33 finW_info rfl (by decide) A6 n6 c6 _ rfl (HO2.out.below hba) (fun b=>wH.heap.size≤b∧b < (wH.alloc (.cells (finC ⟨18,0,(i:Int)+1,-1⟩).toArray 35)).heap.size) (some ⟨wH.heap.size,0,none⟩) 1 1 [⟨18,0,(i:Int)+1,-1⟩] rfl (enc_lit1 (OFin_R ⟨18,0,(i:Int)+1,-1⟩) wH 35 (Nat.le_refl _)) (fun b hb=>⟨⟨hb.2,fun _ _ _ _=>rfl⟩,fun a ha=>(fun e=>by have h1:=hb.1;rw [e] at h1;have:=OwE.lt HO2.out a ha;omega)⟩) (n6+1) rfl (by omega) (by omega) (by simp;omega) ?_;intro A9 c9 w9 ho9 hb9;have HO9:=hide ho9;have HB9:=hide ((HBQ.out.alloc (by omega) _).trans hb9);clear ho9 hb9 hba))
     go_roundw
     case rel=>exact ⟨i+1,n6+1,A9,c9,by omega,by go_num,rfl,by omega,by rw [HTS.out,HTO.out,if_pos (by simp)];exact HO9.out,HB9.out⟩
     case measure=>simp [intOf];omega
  ·obtain rfl:nR=i:=by omega
   have hnlt:¬((nR:Int) < (nR:Int)):=by omega
   go_wp2_with fail
   go_ret
   have ho:=(HO2.out.rd rfl).plain
   exact ⟨A6,n6,c6,rfl,by first|exact ho|(rw [hul];exact ho),HB.out.trans (HBQ.out.mono (by have:=HB.out.size;omega))⟩
end Go.Proofs.Ytmhiohnkjpglfaa

