import Derived.Test.YtmhiohnkjpglfaaIt35
import Derived.Test.YtmhiohnkjpglfaaIt29

namespace Go.Proofs.Ytmhiohnkjpglfaa
open Go.RowKit Go.Shelf Plain

set_option maxRecDepth 100000 in
theorem nod_f6 (x:NodV) (A B:Option Addr) (n c m d:Nat) (W:World):(Instr.field 46 (.agg (nodC x (.slice A n c) (.slice B m d)).toArray) 6).run Try.prog W=.ok (.agg (attC x.att).toArray) W:=by kernel_rfl
set_option maxRecDepth 100000 in
set_option maxHeartbeats 8000000 in
theorem RWant24_any {g:GeoQ} {AU AL:Option Addr} {nU cU nL cL B:Nat} {up:List NodV} {rs:List Bool} {i v:Int} (hrs:reachL up (walkW up [1]).1=rs) (hv:wantI up rs i=v) (w:World) (hu:RdE nodEn w (Under B) AU nU up) (hB:B≤w.heap.size) (hup:FewU up):Calls Try.prog 11 #[.agg (stkC g (.slice AU nU cU) (.slice AL nL cL)).toArray,.int .i64 i] w (IntI w v):=by
 obtain ⟨W1,hW1⟩:∃W1,(w.alloc (.cells (stkC g (.slice AU nU cU) (.slice AL nL cL)).toArray 29))=W1:=⟨_,rfl⟩
 obtain ⟨r0,hb1,hs1⟩:=rowA1 w _ _ hW1
 have hW1':(w.alloc (.cells #[.int .i64 g.a,.int .i64 g.b,.int .i64 g.c,.int .i64 g.d,.slice AU nU cU,.slice AL nL cL] 29))=W1:=hW1
 have R2:=hide r0
 have HB:=hide hb1
 have hsz0:=hb1.size
 have HU:=hide (hu.under hb1 hB)
 have HFU:=hide hup
 have HRS:=hide hrs
 have HV:=hide hv
 have hrl:rs.length=up.length:=by rw [←hrs,reachL_len]
 obtain ⟨x,hx⟩:∃x,nodAt up i=x:=⟨_,rfl⟩
 have HX:=hide hx
 have hs1':w.heap.size+1≤W1.heap.size:=by omega
 have q2_4:W1.cell? ⟨w.heap.size,4,none⟩=some (.slice AU nU cU):=R2.out.cell 4
 unfold stkC
 clear r0 hb1 hW1 hu hup hrs hv hs1
 by_cases hk:x.k=1
 ·have hk1:(x.k != 1)=false:=by rw [hk];rfl
  have hdi:isDir up i=true:=by unfold isDir;rw [hx,hk];rfl
  have hin:=isDir_in hdi
  obtain ⟨j,x',rfl,hxj,hx'⟩:=nodAt_in hin
  have hju:j < up.length:=(List.getElem?_eq_some_iff.1 hxj).1
  obtain ⟨r,hri⟩:∃r,rs[j]?=some r:=⟨_,List.getElem?_eq_getElem (by omega)⟩
  obtain ⟨c,hc⟩:∃c,x.ents.any (copI up)=c:=⟨_,rfl⟩
  have HW:=hide (wantI_is (rs:=rs) (r:=r) (b:=c) (by rw [hx];exact hk) (by rw [show ((j:Int)+1 - 1).toNat=j from by omega];exact hri) (by rw [hx];exact hc))
  have hw1:IntKind.i64.wrap ((j:Int)+1 - 1)=(j:Int):=by rw [show (j:Int)+1 - 1=(j:Int) from by omega];exact IntWalk.i64_in _ (by have:=HFU.out.1;omega)
  have hwj:IntKind.i64.wrap (j:Int)=(j:Int):=IntWalk.i64_in _ (by have:=HFU.out.1;omega)
  have hxe:x.ents.length≤16:=by rw [←hx];exact (nodAt_plain HFU.out.2 _).2.2.2.2.1
  have HC:=hide hc
  clear hin hdi hxj hx' hx hk hc
  go_enter Try.func11,Try.ntmps11
  go_wp2_with (first|(refine wpList_loadC rfl 26 (.tmp 7) rfl 1 lay_agg lay_size (w.heap.size) 4 29 rfl (stkC g (.slice AU nU cU) (.slice AL nL cL)) [.slice AU nU cU] R2.out rfl rfl ?_)|(go_at_call 21;refine (At_e HX.out W1 HU.out (by omega) (by have:=HFU.out.1;omega)).mono ?_;rintro e1 wA ⟨D0,n0,k0,C0,m0,d0,rfl,-,-,-,he,hbel⟩;clear q2_4;replace HB:=hide (HB.out.trans (hbel.mono HB.out.size));replace R2:=hide (R2.out.on hbel);replace HU:=hide (HU.out.under hbel (by omega));have hsz2:=hbel.size;have q2_4:wA.cell? ⟨w.heap.size,4,none⟩=some (.slice AU nU cU):=R2.out.cell 4;have HE:=hide he;clear he;clear hbel)|(refine wpList_storeW rfl 46 (.tmp 5) (.tmp 10) rfl 13 nod_size (wA.heap.size) 46 rfl (nodC nod0 (.slice none 0 0) (.slice none 0 0)) (nodC x (.slice D0 n0 k0) (.slice C0 m0 d0)) rfl (RowL.new wA 46 (nodC nod0 (.slice none 0 0) (.slice none 0 0))) rfl rfl (nodC_one _ _ _ _ _ _ _) ?_;intro wS3 hr3 hg3 hs3;have hzb:=below_stored' hg3;clear q2_4;replace HB:=hide (HB.out.trans (hzb.mono HB.out.size));replace R2:=hide (R2.out.on hzb);replace HU:=hide (HU.out.under hzb (by omega));replace HE:=hide (HE.out.under hzb (by omega));have hsz4:=hzb.size;have q2_4:wS3.cell? ⟨w.heap.size,4,none⟩=some (.slice AU nU cU):=R2.out.cell 4;have R5:=hide hr3;have hlt3:=hr3.lt;have q5_0:wS3.cell? ⟨wA.heap.size,0,none⟩=some (.int .i64 x.k):=R5.out.cell 0;have q5_5:wS3.cell? ⟨wA.heap.size,5,none⟩=some (.slice C0 m0 d0):=R5.out.cell 5;clear hzb hr3;clear hg3 hs3)|(refine wpList_loadC rfl 26 (.tmp 15) rfl 1 lay_agg lay_size (w.heap.size) 4 29 rfl (stkC g (.slice AU nU cU) (.slice AL nL cL)) [.slice AU nU cU] R2.out rfl rfl ?_))
  clear hW1'
  have hml:x.ents.length=m0:=HE.out.1
  refine (RReach_any _ (und_up (HU.out.under (below_new (below_self wS3) (.cells #[.int .i64 1] 3)) (by omega)) (by simp;omega)) (one_row (RowL.new wS3 3 [.int .i64 1])) (plain_many HFU.out.1 HFU.out.2).1 (by omega)).mono ?_
  rintro e1 wR ⟨AR,nR,cR,rfl,-,hrd,hbel0,-⟩
  have hbel:Below wS3.heap.size wS3 wR:=(below_new (below_self wS3) (.cells #[.int .i64 1] 3)).trans (hbel0.mono (by simp))
  rw [HRS.out] at hrd
  clear q2_4 q5_0 q5_5
  replace HB:=hide (HB.out.trans (hbel.mono HB.out.size))
  replace R2:=hide (R2.out.on hbel)
  replace HU:=hide (HU.out.under hbel (by omega))
  replace HE:=hide (HE.out.under hbel (by omega))
  replace R5:=hide (R5.out.on hbel)
  have hsz5:=hbel.size
  have q2_4:wR.cell? ⟨w.heap.size,4,none⟩=some (.slice AU nU cU):=R2.out.cell 4
  have q5_0:wR.cell? ⟨wA.heap.size,0,none⟩=some (.int .i64 x.k):=R5.out.cell 0
  have q5_5:wR.cell? ⟨wA.heap.size,5,none⟩=some (.slice C0 m0 d0):=R5.out.cell 5
  clear hbel hbel0
  have hnR:rs.length=nR:=hrd.1
  obtain ⟨bR,oR,rfl⟩:=rd_some hrd (by omega)
  have qb:=rd_cell hrd hri
  have hjn:(j:Int) < (nR:Int):=by omega
  clear hrd hri
  cases r with
  | false =>
   go_wp2_with fail
   go_ret
   have e:v=0:=by rw [←HV.out,HW.out];simp
   rw [e]
   exact ⟨rfl,HB.out⟩
  | true =>
   go_wp2_with fail
   clear qb
   go_loopw [6] (fun v6 wr=>∃k:Nat,k≤m0∧v6=.int .i64 k∧(x.ents.take k).any (copI up)=false∧Below wR.heap.size wR wr) (fun v6 _=>m0 - (intOf v6).toNat)
   case atStart=>exact ⟨0,by omega,rfl,rfl,below_self _⟩
   case round =>
    obtain ⟨k,hk,rfl,hno,hbr⟩:=hrel
    have hbsz:=hbr.size
    have HBQ:=hide hbr
    have HN:=hide hno
    replace R2:=hide (R2.out.on hbr)
    replace R5:=hide (R5.out.on hbr)
    replace HU:=hide (HU.out.under hbr (by omega))
    replace HE:=hide (HE.out.under hbr (by omega))
    have q5_5':wr.cell? ⟨wA.heap.size,5,none⟩=some (.slice C0 m0 d0):=R5.out.cell 5
    clear hno hbr
    by_cases hlt:k < m0
    ·obtain ⟨e,he⟩:∃e,x.ents[k]?=some e:=⟨_,List.getElem?_eq_getElem (by omega)⟩
     obtain ⟨bE,oE,rfl,hbE,hce⟩:=ent_get HE.out he
     have HCE:=hide hce
     obtain ⟨y,hy0⟩:∃y,nodAt up e.ino=y:=⟨_,rfl⟩
     have HY:=hide hy0
     have hy:=(nodAt_plain HFU.out.2 e.ino).2.2.1
     rw [hy0] at hy
     obtain ⟨c1,hc1⟩:∃c,has4 y=c:=⟨_,rfl⟩
     have HYC:=hide (show decide (y.att.h / 4 % 2=1)=c1 from hc1)
     have HTK:=hide (show (x.ents.take (k+1)).any (copI up)=((x.ents.take k).any (copI up)||c1) from by rw [List.take_add_one,he,Option.toList_some,List.any_append,←hc1,←hy0];simp [copI])
     have HME:=hide (List.mem_of_getElem? he)
     have HCP:=hide (show copI up e=c1 from by rw [←hc1,←hy0];rfl)
     have hkm:(k:Int) < (m0:Int):=by omega
     clear hce he hy0 hc1
     go_wp2_with fail
     refine wp_region_planN (fun w'=>Below wr.heap.size wr w') [(0,true),(2,true),(4,true),(1,true),(3,true),(5,true),(6,true),(7,true),(8,false),(9,true),(10,false)] (by kernel_rfl) (by kernel_rfl) (by kernel_rfl) (by kernel_rfl) rfl (fun _ _ _ _ _ h=>h) (below_drew (below_self wr)) (fun hHeld=>?_)
     simp only [planOps,List.filterMap_cons,List.filterMap_nil,List.getElem?_toArray,List.getElem?_cons_succ,List.getElem?_cons_zero,Option.map_some]
     iterate 3
      refine wpPlan_take (v:=?_) (by kernel_rfl) (fun wS hSw=>?_) ?_
      rotate_left
      ·(try dsimp only at hSw);go_simp;(try with_reducible rfl)
      (try simp only [Act.put,pu1,pu2,pu3])
     refine wpPlan_take (v:=?_) (by kernel_rfl) (fun wS hSw=>?_) ?_
     rotate_left
     ·refine execOp_load (x:=.tmp 32) (k:=1) (g:=w.heap.size) (off:=4) (cs:=[.slice AU nU cU]) ?_ lay_agg lay_size ?_ (fun j v hv=>((R2.out.on hSw).cell (4+j)).trans (sub_cell (cur:=stkC g (.slice AU nU cU) (.slice AL nL cL)) (k:=1) rfl hv)) rfl <;> rfl
     (try simp only [Act.put,pu1,pu2,pu3])
     refine wpPlan_take (v:=?_) (by kernel_rfl) (fun wS hSw=>?_) ?_
     rotate_left
     ·have qx:wS.cell? ⟨wA.heap.size,5,none⟩=some (.slice (some ⟨bE,oE,none⟩) m0 d0):=(R5.out.on hSw).cell 5;go_simp;(try with_reducible rfl)
     (try simp only [Act.put,pu1,pu2,pu3])
     iterate 2
      refine wpPlan_take (v:=?_) (by kernel_rfl) (fun wS hSw=>?_) ?_
      rotate_left
      ·(try dsimp only at hSw);go_simp;(try with_reducible rfl)
      (try simp only [Act.put,pu1,pu2,pu3])
     refine wpPlan_take (v:=?_) (by kernel_rfl) (fun wS hSw=>?_) ?_
     rotate_left
     ·have qx:wS.cell? ⟨bE,oE+k*3+1,none⟩=some (.int .i64 e.ino):=((hSw.cell (p:=⟨bE,oE+k*3+1,none⟩) (by show bE < wr.heap.size;unfold Under at hbE;omega))).trans (HCE.out 1 _ rfl);go_simp;(try with_reducible rfl)
     (try simp only [Act.put,pu1,pu2,pu3])
     refine wpPlan_call (by kernel_rfl) (fun K hK=>?_)
     have hOld:=hide hHeld
     clear hHeld
     go_simp
     go_at_call 21
     refine (At_e HY.out _ (HU.out.under hOld.out (by omega)) (by have:=hOld.out.size;omega) (by have:=HFU.out.1;omega)).mono ?_
     rintro e w' ⟨D1,n1,k1,C1,m1,d1,rfl,-,-,-,-,hbel⟩
     refine hK.out _ _ (hOld.out.trans (hbel.mono hOld.out.size)) (fun hHeld=>?_)
     clear hK K
     (try simp only [Act.put,pu1,pu2,pu3])
     refine wpPlan_take (v:=?_) (by kernel_rfl) (fun wS hSw=>?_) ?_
     rotate_left
     ·have qx:=nod_f6 y D1 C1 n1 k1 m1 d1 wS;(try dsimp only at hSw);go_simp;(try with_reducible rfl)
     (try simp only [Act.put,pu1,pu2,pu3])
     refine wpPlan_call (by kernel_rfl) (fun K hK=>?_)
     have hOld:=hide hHeld
     clear hHeld
     go_simp
     go_at_call 22
     refine (RHas4_b hy.1 hy.2 HYC.out _).mono ?_
     rintro e w' ⟨rfl,hbel⟩
     refine hK.out _ _ (hOld.out.trans (hbel.mono hOld.out.size)) (fun hHeld=>?_)
     clear hK K
     (try simp only [Act.put,pu1,pu2,pu3])
     refine wpPlan_end ?_
     rename World=>wH
     replace HB:=hide (HB.out.trans ((HBQ.out.trans (hHeld.mono (by omega))).mono (by have:=HB.out.size;omega)))
     replace HBQ:=hide (HBQ.out.trans (hHeld.mono (by omega)))
     replace R2:=hide (R2.out.on hHeld)
     replace R5:=hide (R5.out.on hHeld)
     replace HU:=hide (HU.out.under hHeld (by omega))
     replace HE:=hide (HE.out.under hHeld (by omega))
     have hsz121:=hHeld.size
     clear hHeld
     cases c1 with
     | true =>
      go_wp2_with fail
      go_ret
      have e1:c=true:=by rw [←HC.out];exact List.any_eq_true.2 ⟨e,HME.out,HCP.out⟩
      have e:v=121:=by rw [←HV.out,HW.out,e1];rfl
      rw [e]
      exact ⟨rfl,HB.out⟩
     | false =>
      go_wp2_with fail
      go_roundw
      case rel=>exact ⟨k+1,by omega,by go_num,by rw [HTK.out,HN.out];rfl,HBQ.out⟩
      case measure=>simp [intOf];omega
    ·obtain rfl:m0=k:=by omega
     have hnlt:¬((m0:Int) < (m0:Int)):=by omega
     go_wp2_with fail
     go_ret
     have e1:c=false:=by rw [←HC.out,←HN.out,List.take_of_length_le (by omega)]
     have e:v=0:=by rw [←HV.out,HW.out,e1];rfl
     rw [e]
     exact ⟨rfl,HB.out.trans (HBQ.out.mono (by have:=HB.out.size;omega))⟩
 ·have hk1:(x.k != 1)=true:=by simpa using hk
  have e:v=0:=by rw [←HV.out];exact wantI_no rs (by rw [hx];exact hk)
  have HK:=hide hk
  clear hx hk
  go_enter Try.func11,Try.ntmps11
  go_upto_region 2 with (first|(refine wpList_loadC rfl 26 (.tmp 7) rfl 1 lay_agg lay_size (w.heap.size) 4 29 rfl (stkC g (.slice AU nU cU) (.slice AL nL cL)) [.slice AU nU cU] R2.out rfl rfl ?_)|(go_at_call 21;refine (At_e HX.out W1 HU.out (by omega) (by have:=HFU.out.1;omega)).mono ?_;rintro e1 wA ⟨D0,n0,k0,C0,m0,d0,rfl,-,-,-,he,hbel⟩;clear q2_4;replace HB:=hide (HB.out.trans (hbel.mono HB.out.size));replace R2:=hide (R2.out.on hbel);replace HU:=hide (HU.out.under hbel (by omega));have hsz2:=hbel.size;have q2_4:wA.cell? ⟨w.heap.size,4,none⟩=some (.slice AU nU cU):=R2.out.cell 4;have HE:=hide he;clear he;clear hbel)|(refine wpList_storeW rfl 46 (.tmp 5) (.tmp 10) rfl 13 nod_size (wA.heap.size) 46 rfl (nodC nod0 (.slice none 0 0) (.slice none 0 0)) (nodC x (.slice D0 n0 k0) (.slice C0 m0 d0)) rfl (RowL.new wA 46 (nodC nod0 (.slice none 0 0) (.slice none 0 0))) rfl rfl (nodC_one _ _ _ _ _ _ _) ?_;intro wS3 hr3 hg3 hs3;have hzb:=below_stored' hg3;clear q2_4;replace HB:=hide (HB.out.trans (hzb.mono HB.out.size));replace R2:=hide (R2.out.on hzb);replace HU:=hide (HU.out.under hzb (by omega));replace HE:=hide (HE.out.under hzb (by omega));have hsz4:=hzb.size;have q2_4:wS3.cell? ⟨w.heap.size,4,none⟩=some (.slice AU nU cU):=R2.out.cell 4;have R5:=hide hr3;have hlt3:=hr3.lt;have q5_0:wS3.cell? ⟨wA.heap.size,0,none⟩=some (.int .i64 x.k):=R5.out.cell 0;have q5_5:wS3.cell? ⟨wA.heap.size,5,none⟩=some (.slice C0 m0 d0):=R5.out.cell 5;clear hzb hr3;clear hg3 hs3))
  go_wp2_with fail
  all_goals first
  | exact absurd (by assumption) HK.out
  | (go_ret;rw [e];exact ⟨rfl,HB.out⟩)
set_option maxRecDepth 100000 in
set_option maxHeartbeats 16000000 in
theorem RFinds24_any {g:GeoQ} {AU AL:Option Addr} {nU cU nL cL B:Nat} {up:List NodV} {rs:List Bool} (hrs:reachL up (walkW up [1]).1=rs) (w:World) (hu:RdE nodEn w (Under B) AU nU up) (hB:B≤w.heap.size) (hup:FewU up):Calls Try.prog 9 #[.agg (stkC g (.slice AU nU cU) (.slice AL nL cL)).toArray] w (FinsO w (findI up rs up.length)):=by
 obtain ⟨W1,hW1⟩:∃W1,(w.alloc (.cells (stkC g (.slice AU nU cU) (.slice AL nL cL)).toArray 29))=W1:=⟨_,rfl⟩
 obtain ⟨r0,hb1,hs1⟩:=rowA1 w _ _ hW1
 have hW1':(w.alloc (.cells #[.int .i64 g.a,.int .i64 g.b,.int .i64 g.c,.int .i64 g.d,.slice AU nU cU,.slice AL nL cL] 29))=W1:=hW1
 have R1:=hide r0
 have HB:=hide hb1
 have hsz0:=hb1.size
 have HU:=hide (hu.under hb1 hB)
 have HFU:=hide hup
 have HRS:=hide hrs
 have hrl:rs.length=up.length:=by rw [←hrs,reachL_len]
 have hs1':w.heap.size+1≤W1.heap.size:=by omega
 clear r0 hb1 hW1 hu hup hrs hs1
 unfold stkC
 go_enter Try.func9,Try.ntmps9
 go_upto_region 2 with fail
 have HE0:=hide (OwE.empty finEn W1 35)
 have hbe:=below_new (below_self W1) (.cells #[] 35)
 have hWE:W1.heap.size+1=(W1.alloc (.cells #[] 35)).heap.size:=by simp
 generalize W1.alloc (.cells #[] 35)=wE at *
 have hWE1:W1.heap.size+1≤wE.heap.size:=by omega
 have hWE2:wE.heap.size≤W1.heap.size+1:=by omega
 clear hWE
 replace R1:=hide (R1.out.on hbe)
 replace HU:=hide (und_at HU.out hbe (by omega))
 replace HB:=hide (HB.out.trans (hbe.mono HB.out.size))
 have hbesz:=hbe.size
 clear hbe hW1'
 go_wp2_with (first|(refine wpList_loadC rfl 26 (.tmp 9) rfl 1 lay_agg lay_size (w.heap.size) 4 29 rfl (stkC g (.slice AU nU cU) (.slice AL nL cL)) [.slice AU nU cU] R1.out rfl rfl ?_))
 refine (RReach_any _ (und_up (HU.out.under (below_new (below_self wE) (.cells #[.int .i64 1] 3)) (by omega)) (by simp;omega)) (one_row (RowL.new wE 3 [.int .i64 1])) (plain_many HFU.out.1 HFU.out.2).1 (by omega)).mono ?_
 rintro e1 wT ⟨AR,nR,cR,rfl,-,hrd,hbel0,-⟩
 have hbel:Below wE.heap.size wE wT:=(below_new (below_self wE) (.cells #[.int .i64 1] 3)).trans (hbel0.mono (by simp))
 rw [HRS.out] at hrd
 have HRD:=hide hrd
 replace HE0:=hide (HE0.out.below hbel)
 replace HB:=hide (HB.out.trans (hbel.mono HB.out.size))
 replace R1:=hide (R1.out.on hbel)
 replace HU:=hide (HU.out.under hbel (by omega))
 have hsz1:=hbel.size
 clear hrd hbel hbel0
 have hnR:nR=nU:=by have h1:=HRD.out.1;have h2:=HU.out.1;omega
 subst hnR
 have hn24:nR≤24:=by have h1:=HFU.out.1;have h2:=HU.out.1;omega
 have hul:up.length=nR:=HU.out.1
 go_wp2_with fail
 go_loopw [3,5] (fun v3 v5 wr=>∃(i n6:Nat) (A6:Option Addr) (c6:Nat),i≤nR∧v5=.int .i64 ((i:Int)+1)∧v3=.slice A6 n6 c6∧n6≤i∧OwL finEn wr W1.heap.size wT.heap.size 35 A6 n6 c6 (findI up rs i)∧Below wT.heap.size wT wr) (fun _ v5 _=>nR+1 - (intOf v5).toNat)
 case atStart=>exact ⟨0,0,_,0,by omega,by simp,rfl,by omega,.inr ⟨_,rfl,rfl,rfl,rfl,HE0.out⟩,Below.refl _ _⟩
 case round =>
  obtain ⟨i,n6,A6,c6,hi,rfl,rfl,hn6,ho,hbr⟩:=hrel
  have hbsz:=hbr.size
  have HBQ:=hide hbr
  have HO2:=hide ho
  replace R1:=hide (show RowL wr w.heap.size _ _ from (hbr.block _ (by omega)).trans R1.out)
  replace HU:=hide (und_at HU.out hbr (by omega))
  replace HRD:=hide ((HRD.out.below hbr).more (by omega))
  clear ho hbr
  by_cases hlt:i < nR
  ·obtain ⟨x,hx⟩:∃x,up[i]?=some x:=⟨_,List.getElem?_eq_getElem (by omega)⟩
   obtain ⟨r,hri⟩:∃r,rs[i]?=some r:=⟨_,List.getElem?_eq_getElem (by omega)⟩
   obtain ⟨b1,h1⟩:∃b,((i:Int)+1==2)=b:=⟨_,rfl⟩
   obtain ⟨b2,h2⟩:∃b,((i:Int)+1==3)=b:=⟨_,rfl⟩
   obtain ⟨d,hd⟩:∃d,isDir up ((i:Int)+1)=d:=⟨_,rfl⟩
   obtain ⟨v,hv⟩:∃v,wantI up rs ((i:Int)+1)=v:=⟨_,rfl⟩
   obtain ⟨a,ha⟩:∃a,(r||((b1||b2)&&d))=a:=⟨_,rfl⟩
   obtain ⟨q,hq⟩:∃q,(x.p != v)=q:=⟨_,rfl⟩
   have hbad:badI up rs i x r=(a&&q):=badI_is hx h1 h2 hd hv ha hq
   have HTO:=hide (oneI_is hx hri hbad)
   have HTS:=hide (findI_succ up rs i)
   have HX:=hide (nodAt_get hx)
   have hkd:(x.k==1)=d:=by rw [←hd];unfold isDir;rw [nodAt_get hx];rfl
   have HVW:=hide hv
   have HA:=hide ha
   have HQ:=hide hq
   obtain ⟨bR,oR,rfl⟩:=rd_some HRD.out (by omega)
   have hin:(i:Int)+1≤(nR:Int):=by omega
   have hin2:(i:Int) < (nR:Int):=by omega
   have hw1:IntKind.i64.wrap ((i:Int)+1+1)=((i+1:Nat):Int)+1:=by rw [show (i:Int)+1+1=((i+1:Nat):Int)+1 from by omega];exact IntWalk.i64_in _ (by omega)
   have hwi:IntKind.i64.wrap (i:Int)=(i:Int):=IntWalk.i64_in _ (by omega)
   have hw2:IntKind.i64.wrap ((i:Int)+1 - 1)=(i:Int):=by rw [show (i:Int)+1 - 1=(i:Int) from by omega];exact IntWalk.i64_in _ (by omega)
   have HRI:=hide hri
   clear hx hv hd hri hq hbad ha
   go_upto_region 7 with (first|(refine wpList_loadC rfl 26 (.tmp 19) rfl 1 lay_agg lay_size (w.heap.size) 4 29 rfl (stkC g (.slice AU nR cU) (.slice AL nL cL)) [.slice AU nR cU] R1.out rfl rfl ?_)|(go_at_call 21;refine (At_e HX.out wr HU.out (by omega) (by have:=HFU.out.1;omega)).mono ?_;rintro e121 wA ⟨D0,n0,k0,C0,m0,d0,rfl,-,-,-,-,hbel⟩;replace HBQ:=hide (HBQ.out.trans (hbel.mono (by omega)));replace R1:=hide (R1.out.on hbel);replace HU:=hide (HU.out.under hbel (by omega));replace HRD:=hide (HRD.out.on hbel);replace HO2:=hide (HO2.out.below hbel);have hsz122:=hbel.size;clear hbel)|(refine wpList_storeW rfl 46 (.tmp 6) (.tmp 22) rfl 13 nod_size (wA.heap.size) 46 rfl (nodC nod0 (.slice none 0 0) (.slice none 0 0)) (nodC x (.slice D0 n0 k0) (.slice C0 m0 d0)) rfl (RowL.new wA 46 (nodC nod0 (.slice none 0 0) (.slice none 0 0))) rfl rfl (nodC_one _ _ _ _ _ _ _) ?_;intro wS123 hr123 hg123 hs123;have hzb:=below_stored' hg123;replace HBQ:=hide (HBQ.out.trans (hzb.mono (by omega)));replace R1:=hide (R1.out.on hzb);replace HU:=hide (HU.out.under hzb (by omega));replace HRD:=hide (HRD.out.on hzb);replace HO2:=hide (HO2.out.below hzb);have hsz124:=hzb.size;have R6:=hide hr123;have hlt123:=hr123.lt;have q6_0:wS123.cell? ⟨wA.heap.size,0,none⟩=some (.int .i64 x.k):=R6.out.cell 0;have q6_1:wS123.cell? ⟨wA.heap.size,1,none⟩=some (.int .i64 x.p):=R6.out.cell 1;clear hzb hr123;clear hg123 hs123))
   have qb:=rd_cell HRD.out HRI.out
   have q60:wS123.cell? ⟨wA.heap.size,0,none⟩=some (.int .i64 x.k):=R6.out.cell 0
   have hav:=HA.out
   (try simp only [Act.put])
   go_cut [7] from 28 to 41 (fun v7 wx=>v7=.bool a∧wS123=wx)
   case first =>
    clear HU HRD HO2 HBQ HB
    cases r <;> cases b1 <;> cases b2 <;> cases d
    all_goals
     simp at hav
     subst hav
     go_wp2_with fail
     go_meet
     case rel=>exact ⟨rfl,rfl⟩
   case rest =>
   obtain ⟨rfl,rfl⟩:=hcut
   clear qb q60 hav
   go_wp2_with fail
   cases a with
   | false =>
    refine wp_region_planN (fun w'=>Below wS123.heap.size wS123 w') [(0,true),(1,true),(2,true),(3,true),(4,true),(5,true),(6,false),(7,true),(8,true)] (by kernel_rfl) (by kernel_rfl) (by kernel_rfl) (by kernel_rfl) rfl (fun _ _ _ _ _ h=>h) (below_drew (below_self wS123)) (fun hHeld=>?_)
    simp only [planOps,List.filterMap_cons,List.filterMap_nil,List.getElem?_toArray,List.getElem?_cons_succ,List.getElem?_cons_zero,Option.map_some]
    iterate 2
     refine wpPlan_take (v:=?_) (by kernel_rfl) (fun wS hSw=>?_) ?_
     rotate_left
     ·(try dsimp only at hSw);go_simp;(try with_reducible rfl)
     (try simp only [Act.put,pu1,pu2,pu3])
    refine wpPlan_skip (by kernel_rfl) ?_
    (try simp only [Act.put,pu1,pu2,pu3])
    refine wpPlan_skip (by kernel_rfl) ?_
    (try simp only [Act.put,pu1,pu2,pu3])
    refine wpPlan_skip (by kernel_rfl) ?_
    (try simp only [Act.put,pu1,pu2,pu3])
    refine wpPlan_skip (by kernel_rfl) ?_
    (try simp only [Act.put,pu1,pu2,pu3])
    refine wpPlan_skip (by kernel_rfl) ?_
    (try simp only [Act.put,pu1,pu2,pu3])
    refine wpPlan_skip (by kernel_rfl) ?_
    (try simp only [Act.put,pu1,pu2,pu3])
    refine wpPlan_take (v:=?_) (by kernel_rfl) (fun wS hSw=>?_) ?_
    rotate_left
    ·(try dsimp only at hSw);go_simp;(try with_reducible rfl)
    (try simp only [Act.put,pu1,pu2,pu3])
    refine wpPlan_end ?_
    rename World=>wH
    clear q6_0 q6_1
    replace HBQ:=hide (HBQ.out.trans (hHeld.mono (by omega)))
    replace R1:=hide (R1.out.on hHeld)
    replace HU:=hide (HU.out.under hHeld (by omega))
    replace HRD:=hide (HRD.out.on hHeld)
    replace HO2:=hide (HO2.out.below hHeld)
    replace R6:=hide (R6.out.on hHeld)
    have hsz125:=hHeld.size
    have q6_0:wH.cell? ⟨wA.heap.size,0,none⟩=some (.int .i64 x.k):=R6.out.cell 0
    have q6_1:wH.cell? ⟨wA.heap.size,1,none⟩=some (.int .i64 x.p):=R6.out.cell 1
    clear hHeld
    go_wp2_with fail
    go_roundw
    case rel=>exact ⟨i+1,n6,A6,c6,by omega,by simp,rfl,by omega,by rw [HTS.out,HTO.out,if_neg (by simp),List.append_nil];exact HO2.out,HBQ.out⟩
    case measure=>simp [intOf];omega
   | true =>
    have hq:=HQ.out
    refine wp_region_planN (fun w'=>Below wS123.heap.size wS123 w') [(0,true),(1,true),(2,true),(5,true),(3,true),(4,true),(6,false),(7,true),(8,true)] (by kernel_rfl) (by kernel_rfl) (by kernel_rfl) (by kernel_rfl) rfl (fun _ _ _ _ _ h=>h) (below_drew (below_self wS123)) (fun hHeld=>?_)
    simp only [planOps,List.filterMap_cons,List.filterMap_nil,List.getElem?_toArray,List.getElem?_cons_succ,List.getElem?_cons_zero,Option.map_some]
    iterate 4
     refine wpPlan_take (v:=?_) (by kernel_rfl) (fun wS hSw=>?_) ?_
     rotate_left
     ·(try dsimp only at hSw);go_simp;(try with_reducible rfl)
     (try simp only [Act.put,pu1,pu2,pu3])
    refine wpPlan_take (v:=?_) (by kernel_rfl) (fun wS hSw=>?_) ?_
    rotate_left
    ·have qx:=((R6.out.on hSw).cell 1).trans (show (nodC x (.slice D0 n0 k0) (.slice C0 m0 d0))[1]?=some (.int .i64 x.p) from rfl);go_simp;(try with_reducible rfl)
    (try simp only [Act.put,pu1,pu2,pu3])
    refine wpPlan_take (v:=?_) (by kernel_rfl) (fun wS hSw=>?_) ?_
    rotate_left
    ·refine execOp_load (x:=.tmp 1) (k:=6) (g:=w.heap.size) (off:=0) (cs:=[.int .i64 g.a,.int .i64 g.b,.int .i64 g.c,.int .i64 g.d,.slice AU nR cU,.slice AL nL cL]) ?_ stk_agg stk_size ?_ (fun j v hv=>by rw [Nat.zero_add];exact ((R1.out.on hSw).cell j).trans hv) rfl <;> rfl
    (try simp only [Act.put,pu1,pu2,pu3])
    refine wpPlan_call (by kernel_rfl) (fun K hK=>?_)
    have hOld:=hide hHeld
    clear hHeld
    go_simp
    go_at_call 11
    refine (RWant24_any (g:=g) (AL:=AL) (nL:=nL) (cL:=cL) HRS.out HVW.out _ (HU.out.under hOld.out (by omega)) (by have:=hOld.out.size;omega) HFU.out).mono ?_
    rintro e w' ⟨rfl,hbel⟩
    refine hK.out _ _ (hOld.out.trans (hbel.mono hOld.out.size)) (fun hHeld=>?_)
    clear hK K
    (try simp only [Act.put,pu1,pu2,pu3])
    refine wpPlan_take (v:=?_) (by kernel_rfl) (fun wS hSw=>?_) ?_
    rotate_left
    ·(try dsimp only at hSw);go_simp;(try rw [hq]);(try with_reducible rfl)
    (try simp only [Act.put,pu1,pu2,pu3])
    refine wpPlan_take (v:=?_) (by kernel_rfl) (fun wS hSw=>?_) ?_
    rotate_left
    ·(try dsimp only at hSw);go_simp;(try with_reducible rfl)
    (try simp only [Act.put,pu1,pu2,pu3])
    refine wpPlan_end ?_
    rename World=>wH
    clear q6_0 q6_1
    replace HBQ:=hide (HBQ.out.trans (hHeld.mono (by omega)))
    replace R1:=hide (R1.out.on hHeld)
    replace HU:=hide (HU.out.under hHeld (by omega))
    replace HRD:=hide (HRD.out.on hHeld)
    replace HO2:=hide (HO2.out.below hHeld)
    replace R6:=hide (R6.out.on hHeld)
    have hsz125:=hHeld.size
    have q6_0:wH.cell? ⟨wA.heap.size,0,none⟩=some (.int .i64 x.k):=R6.out.cell 0
    have q6_1:wH.cell? ⟨wA.heap.size,1,none⟩=some (.int .i64 x.p):=R6.out.cell 1
    clear hHeld hq
    cases q with
    | false =>
     go_wp2_with fail
     go_roundw
     case rel=>exact ⟨i+1,n6,A6,c6,by omega,by simp,rfl,by omega,by rw [HTS.out,HTO.out,if_neg (by simp),List.append_nil];exact HO2.out,HBQ.out⟩
     case measure=>simp [intOf];omega
    | true =>
     have hlit:=litW_fin 18 0 ((i:Int)+1) (-1) wH
     go_wp2_with (first|(at_builtin;have hba:=below_new (below_self wH) (.cells #[.int .i64 18,.int .i64 0,.int .i64 ((i:Int)+1),.int .i64 (-1)] 35);refine wpList_append_OwL (E:=finEn) _ rfl (.tmp 50) (.tmp 53) 33 rfl W1.heap.size wT.heap.size 35 (.agg #[.int .i64 0,.int .i64 0,.int .i64 0,.int .i64 0]) 32 Try.underlying33 finW_info rfl (by decide) A6 n6 c6 _ rfl (HO2.out.below hba) (fun b=>wH.heap.size≤b∧b < (wH.alloc (.cells (finC ⟨18,0,(i:Int)+1,-1⟩).toArray 35)).heap.size) (some ⟨wH.heap.size,0,none⟩) 1 1 [⟨18,0,(i:Int)+1,-1⟩] rfl (enc_lit1 (OFin_R ⟨18,0,(i:Int)+1,-1⟩) wH 35 (Nat.le_refl _)) (fun b hb=>⟨⟨hb.2,fun _ _ _ _=>rfl⟩,fun a ha=>(fun e=>by have h1:=hb.1;rw [e] at h1;have:=HO2.out.ltB a ha;omega)⟩) (by omega) (n6+1) rfl (by omega) (by omega) (by simp;omega) (by simp;omega) ?_;intro A9 c9 w9 ho9 hb9 _;have HO9:=hide ho9;have HB9:=hide ((HBQ.out.alloc (by omega) _).trans hb9);clear ho9 hb9 hba))
     go_roundw
     case rel=>exact ⟨i+1,n6+1,A9,c9,by omega,by simp,rfl,by omega,by rw [HTS.out,HTO.out,if_pos (by simp)];exact .inl HO9.out,HB9.out⟩
     case measure=>simp [intOf];omega
  ·obtain rfl:nR=i:=by omega
   have hnlt:¬((nR:Int)+1≤(nR:Int)):=by omega
   go_wp2_with fail
   go_ret
   have ho:=HO2.out.read rfl
   exact ⟨A6,n6,c6,rfl,by first|exact ho|(rw [hul];exact ho),HB.out.trans (HBQ.out.mono (by have:=HB.out.size;omega))⟩
end Go.Proofs.Ytmhiohnkjpglfaa

