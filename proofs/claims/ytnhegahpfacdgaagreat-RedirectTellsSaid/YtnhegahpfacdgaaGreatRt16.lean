import Derived.Test.YtnhegahpfacdgaaGreatRt15
import Derived.Test.YtnhegahpfacdgaaGreatRt10

namespace Go.Proofs.YtnhegahpfacdgaaGreat
open Go.RowKit Go.Shelf Plain

theorem REntry_e {g:GeoQ} {AU AL:Option Addr} {nU cU nL cL:Nat} {ls:List (List NodV)} {p:Int×Int} {nm:List UInt8} {B:Nat} {o:Option (Int×Int)} (ho:firstL ls p nm=o) (w:World) (h:RdE layEn w (Under B) AL nL ls) (hB:B≤w.heap.size) (hm:ls.length≤100) (hm2:∀ns∈ls,ns.length≤1000) (hF:FewL ls) :
  Calls Tryz.prog 96 #[.agg (stkC g (.slice AU nU cU) (.slice AL nL cL)).toArray,.agg (prC p).toArray,.string ⟨nm.toArray⟩] w (PlcRet w o):=by rw [←ho];exact REntry_any w h hB hm hm2 hF
set_option maxRecDepth 100000 in
set_option maxHeartbeats 16000000 in
theorem RFind_any {g:GeoQ} {AU AL AP:Option Addr} {nU cU nL cL n cP:Nat} {ls:List (List NodV)} {l:List (Int×Int)} {nm:List UInt8} {B:Nat} (w:World) (h:RdE layEn w (Under B) AL nL ls) (hp:RdE prEn w (Under w.heap.size) AP n l) (hB:B≤w.heap.size) (hF:FewL ls) (hn:n≤1000) :
  Calls Tryz.prog 75 #[.agg (stkC g (.slice AU nU cU) (.slice AL nL cL)).toArray,.slice AP n cP,.string ⟨nm.toArray⟩] w (FindRet w (findL ls nm l [])):=by
 have r0:=RowL.new w 29 (stkC g (.slice AU nU cU) (.slice AL nL cL))
 have hb1:=below_new (below_self w) (.cells (stkC g (.slice AU nU cU) (.slice AL nL cL)).toArray 29)
 obtain ⟨W1,hW1⟩:∃W1,w.alloc (.cells (stkC g (.slice AU nU cU) (.slice AL nL cL)).toArray 29)=W1:=⟨_,rfl⟩
 rw [hW1] at r0 hb1
 have hW1':w.alloc (.cells #[.int .i64 g.a,.int .i64 g.b,.int .i64 g.c,.int .i64 g.d,.slice AU nU cU,.slice AL nL cL] 29)=W1:=hW1
 have hm:ls.length≤100:=by have:=hF.1;omega
 have HM2:=hide (fun ns (hh:ns∈ls)=>(show ns.length≤1000 from Nat.le_trans (hF.2 ns hh).1 (by omega)))
 have R0:=hide r0
 have HB1:=hide hb1
 have hs1:=hb1.size
 have HL:=hide (h.under hb1 hB)
 have HP:=hide (hp.on hb1)
 have HPL:=hide hp.1
 have HF:=hide hF
 obtain ⟨R,hR⟩:∃R,findL ls nm l []=R:=⟨_,rfl⟩
 rw [hR]
 have HR:=hide hR
 have hB1:B≤W1.heap.size:=by omega
 have HO0:=hide (own_lit0 W1 41 2 (base:=W1.heap.size) rfl (Nat.le_refl _))
 have HW0:=hide (below_new (below_self W1) (.cells #[] 41))
 unfold stkC
 clear r0 hb1 hW1 h hp hF hR
 go_enter Tryz.func75,Tryz.ntmps75
 go_wp2_with fail
 clear hW1'
 go_loopw [8,9] (fun v8 v9 wr=>∃(j:Nat) (acc:List (Int×Int)) (A:Option Addr) (c:Nat),j≤n∧v9=.int .i64 j∧v8=.slice A acc.length c∧FindSt W1.heap.size W1 ls nm l R j acc A c wr) (fun _ v9 _=>n - (intOf v9).toNat)
 case atStart=>exact ⟨0,[],_,0,by omega,rfl,rfl,HO0.out,HW0.out,Nat.le_refl _,by rw [List.drop_zero];exact HR.out⟩
 case round =>
  obtain ⟨j,acc,A,c,hj,rfl,rfl,hown,hbr,hal,hfin⟩:=hrel
  have HOW:=hide hown
  have HBR:=hide hbr
  have HFI:=hide hfin
  have hbsz:=hbr.size
  have HBw:=hide (HB1.out.trans (hbr.mono hs1))
  clear hown hbr hfin
  by_cases hlt:j < n
  ·obtain ⟨p,hp⟩:∃p,l[j]?=some p:=⟨_,List.getElem?_eq_getElem (by have:=HPL.out;omega)⟩
   obtain ⟨bP,oP,rfl,hbP,hcP⟩:=pr_get (HP.out.under HBR.out (Nat.le_refl _)) hp
   have HCP:=hide hcP
   have hbPr:bP < wr.heap.size:=by have:bP < W1.heap.size:=hbP;omega
   have HDR:=hide (show l.drop j=p::l.drop (j+1) from by
    have hjl:=(List.getElem?_eq_some_iff.1 hp).1
    rw [List.drop_eq_getElem_cons hjl,(List.getElem?_eq_some_iff.1 hp).2])
   have hjn:(j:Int) < (n:Int):=by omega
   obtain ⟨o,ho⟩:∃o,firstL ls p nm=o:=⟨_,rfl⟩
   have HO:=hide ho
   have R0r:=hide (R0.out.on HBR.out)
   have HLR:=hide (fun W (hb:Below wr.heap.size wr W)=>HL.out.under (HBR.out.trans (hb.mono hbsz)) hB1)
   clear hp hcP ho
   go_upto_region 5 with fail
   go_cut [10,11] from 20 to 29 (fun v10 v11 wx=>∃g10,v10=.pointer (some ⟨g10,0,none⟩)∧v11=.bool o.isSome∧RowL wx g10 41 (prC (plcO o))∧Below wr.heap.size wr wx)
   case first =>
    refine wp_region_G (fun w'=>Below wr.heap.size wr w') (.take 0 (.take 1 (.take 2 (.take 3 (.take 4 (.take 5 (.alt 6 (.take 7 (.take 8 (.take 9 (.alt 10 (.alt 11 (.take 12 .leaf) .stop) .stop)))) (.alt 10 (.alt 6 (.take 7 (.take 8 (.take 9 (.alt 11 (.take 12 .leaf) .stop)))) .stop) .stop)))))))) (by kernel_rfl) (by kernel_rfl) (by kernel_rfl) (by kernel_rfl) rfl (fun _ _ _ _ _ h=>h) (below_drew (below_self wr)) (fun hHeld=>?_)
    generalize wr.drew=wd at *
    simp only [PT.map,List.getElem?_toArray,List.getElem?_cons_succ,List.getElem?_cons_zero]
    refine wpPT_take (v:=?_) (by kernel_rfl) (fun wS hSw=>?_) ?_
    rotate_left
    ·refine execOp_load (x:=.tmp 3) (k:=6) (g:=w.heap.size) (off:=0) (cs:=stkC g (.slice AU nU cU) (.slice AL nL cL)) ?_ stk_agg stk_size ?_ (fun j' v hv=>by rw [Nat.zero_add];exact ((R0r.out.on hSw).cell j').trans hv) rfl <;> rfl
    (try simp only [Act.put,pu1,pu2,pu3])
    iterate 3
     refine wpPT_take (v:=?_) (by kernel_rfl) (fun wS hSw=>?_) ?_
     rotate_left
     ·(try dsimp only at hSw);go_simp;(try with_reducible rfl)
     (try simp only [Act.put,pu1,pu2,pu3])
    refine wpPT_take (v:=?_) (by kernel_rfl) (fun wS hSw=>?_) ?_
    rotate_left
    ·refine execOp_load (x:=.tmp 24) (k:=2) (g:=bP) (off:=oP+j*2) (cs:=prC p) ?_ plc_agg plc_size ?_ (fun j' v hv=>(hSw.cell (p:=⟨bP,oP+j*2+j',none⟩) hbPr).trans (HCP.out j' v hv)) rfl <;> rfl
    (try simp only [Act.put,pu1,pu2,pu3])
    refine wpPT_take (v:=?_) (by kernel_rfl) (fun wS hSw=>?_) ?_
    rotate_left
    ·(try dsimp only at hSw);go_simp;(try with_reducible rfl)
    (try simp only [Act.put,pu1,pu2,pu3])
    refine wpPT_alt (by kernel_rfl) (fun K hK=>?_) ?_
    ·skip
     have hOld:=hide hHeld
     clear hHeld
     go_simp
     go_at_call 96
     refine (REntry_e HO.out _ (HLR.out _ hOld.out) (by have:=hOld.out.size;omega) hm HM2.out HF.out).mono ?_
     rintro e w' ⟨rfl,hbel⟩
     have hsC:=(hOld.out.trans (hbel.mono hOld.out.size)).size
     refine hK.out _ _ (hOld.out.trans (hbel.mono hOld.out.size)) (fun hHeld=>?_)
     clear hK K
     (try simp only [Act.put,pu1,pu2,pu3])
     iterate 3
      refine wpPT_take (v:=?_) (by kernel_rfl) (fun wS hSw=>?_) ?_
      rotate_left
      ·(try dsimp only at hSw);go_simp;(try with_reducible rfl)
      (try simp only [Act.put,pu1,pu2,pu3])
     refine wpPT_alt (by kernel_rfl) (fun K hK=>?_) ?_
     rotate_left
     ·exact wpPT_stop
     have hOld:=hide hHeld
     clear hHeld
     unfold Oper.wp execOp
     go_simp
     refine hK.out _ _ (hOld.out.alloc hOld.out.size _) (fun hHeld=>?_)
     clear hK K
     (try simp only [Act.put,pu1,pu2,pu3])
     refine wpPT_alt (by kernel_rfl) (fun K hK=>?_) ?_
     rotate_left
     ·exact wpPT_stop
     have hOld:=hide hHeld
     clear hHeld
     refine wp_storeC 41 (.tmp 10) (.tmp 28) rfl 2 plc_size w'.heap.size 0 41 rfl (prC (0,0)) (prC (plcO o)) rfl (RowL.new w' 41 (prC (0,0))) rfl (by exact Nat.le_refl _) (prC_one _) ?_
     intro w9 hr9 hg9 hs9
     rw [splice_all (prC (0,0)) (prC (plcO o)) rfl] at hr9
     refine hK.out _ _ (hOld.out.grown hg9 hOld.out.size (pu4 (by omega))) (fun hHeld=>?_)
     clear hK K
     have HR10:=hide hr9
     clear hr9 hg9 hs9
     (try simp only [Act.put])
     refine wpPT_take (v:=?_) (by kernel_rfl) (fun wS hSw=>?_) ?_
     rotate_left
     ·(try dsimp only at hSw);go_simp;(try with_reducible rfl)
     (try simp only [Act.put,pu1,pu2,pu3])
     refine wpPT_leaf ?_
     have HBX':=hide hHeld
     clear hHeld hOld
     go_wp2_with fail
     go_meet
     case rel=>exact ⟨w'.heap.size,rfl,rfl,HR10.out,HBX'.out⟩
    refine wpPT_alt (by kernel_rfl) (fun K hK=>?_) ?_
    ·skip
     have hOld:=hide hHeld
     clear hHeld
     have hsW:=hOld.out.size
     unfold Oper.wp execOp
     go_simp
     refine hK.out _ _ (hOld.out.alloc hOld.out.size _) (fun hHeld=>?_)
     clear hK K
     (try simp only [Act.put,pu1,pu2,pu3])
     refine wpPT_alt (by kernel_rfl) (fun K hK=>?_) ?_
     rotate_left
     ·exact wpPT_stop
     have hOld:=hide hHeld
     clear hHeld
     go_simp
     go_at_call 96
     refine (REntry_e HO.out _ (HLR.out _ hOld.out) (by have:=hOld.out.size;omega) hm HM2.out HF.out).mono ?_
     rintro e w' ⟨rfl,hbel⟩
     have hsC:=(hOld.out.trans (hbel.mono hOld.out.size)).size
     have HBX:=hide ((RowL.new wd 41 (prC (0,0))).on hbel)
     have hsD:=hbel.size
     simp only [World.size_alloc] at hsD
     refine hK.out _ _ (hOld.out.trans (hbel.mono hOld.out.size)) (fun hHeld=>?_)
     clear hK K
     (try simp only [Act.put,pu1,pu2,pu3])
     iterate 3
      refine wpPT_take (v:=?_) (by kernel_rfl) (fun wS hSw=>?_) ?_
      rotate_left
      ·(try dsimp only at hSw);go_simp;(try with_reducible rfl)
      (try simp only [Act.put,pu1,pu2,pu3])
     refine wpPT_alt (by kernel_rfl) (fun K hK=>?_) ?_
     rotate_left
     ·exact wpPT_stop
     have hOld:=hide hHeld
     clear hHeld
     refine wp_storeC 41 (.tmp 10) (.tmp 28) rfl 2 plc_size wd.heap.size 0 41 rfl (prC (0,0)) (prC (plcO o)) rfl HBX.out rfl (by exact Nat.le_refl _) (prC_one _) ?_
     intro w9 hr9 hg9 hs9
     rw [splice_all (prC (0,0)) (prC (plcO o)) rfl] at hr9
     refine hK.out _ _ (hOld.out.grown hg9 hOld.out.size (pu4 (by omega))) (fun hHeld=>?_)
     clear hK K
     have HR10:=hide hr9
     clear hr9 hg9 hs9
     (try simp only [Act.put])
     refine wpPT_take (v:=?_) (by kernel_rfl) (fun wS hSw=>?_) ?_
     rotate_left
     ·(try dsimp only at hSw);go_simp;(try with_reducible rfl)
     (try simp only [Act.put,pu1,pu2,pu3])
     refine wpPT_leaf ?_
     have HBX':=hide hHeld
     clear hHeld hOld
     go_wp2_with fail
     go_meet
     case rel=>exact ⟨wd.heap.size,rfl,rfl,HR10.out,HBX'.out⟩
    exact wpPT_stop
   case rest =>
   obtain ⟨g10,rfl,rfl,hr10,hbx⟩:=hcut
   have HR10c:=hide hr10
   have HBX:=hide hbx
   have hgx:=hr10.lt
   have hsx:=hbx.size
   have e:=HFI.out
   rw [HDR.out] at e
   unfold findL at e
   rw [HO.out] at e
   have HOX:=hide (ownsRow_below HOW.out hbx)
   have HBXr:=hide (HBR.out.trans (hbx.mono hbsz))
   have R0x:=hide (R0r.out.on hbx)
   clear hr10 hbx
   cases o with
   | none =>
    have HE:=hide e
    clear e
    go_wp2_with fail
    go_roundw
    case rel=>exact ⟨j+1,acc,A,c,by omega,by go_num,rfl,HOX.out,HBXr.out,by omega,HE.out⟩
    case measure=>simp [intOf];omega
   | some x =>
    obtain ⟨N,hN⟩:∃N,lowAt ls x.1 x.2=N:=⟨_,rfl⟩
    have hPN:PlainN N:=by rw [←hN];exact low_plain HF.out x.1 x.2
    have HNX:=hide hN
    have hkr:=hPN.2.1
    have hath:=hPN.2.2.1
    have hu:=first_use HO.out
    rw [hN] at hu
    obtain ⟨kk,hkk⟩:∃kk,N.k=kk:=⟨_,rfl⟩
    simp only [hN,hkk] at e
    rw [hkk] at hu hkr
    have HKK:=hide hkk
    have HE:=hide e
    obtain ⟨ba,hba⟩:∃ba,decide (acc≠[])=ba:=⟨_,rfl⟩
    have HBA:=hide hba
    clear hN hPN hkk e hba
    rcases (show kk=1∨kk=2∨kk=3∨kk=4 by omega) with rfl|rfl|rfl|rfl
    ·obtain ⟨op,hop⟩:∃op,opq N=op:=⟨_,rfl⟩
     have HOPQ:=hide hop
     have he:=HE.out
     simp only [hop,if_true] at he
     have HE2:=hide he
     clear hop he
     have HLEN:=hide (show (acc++[x]).length=acc.length+1 by simp)
     go_wp2_with (first|(refine wpList_loadW rfl 29 (.tmp 3) rfl 6 stk_agg stk_size w.heap.size 29 rfl (stkC g (.slice AU nU cU) (.slice AL nL cL)) R0x.out rfl ?_)|(refine wpList_loadW rfl 41 (.tmp 10) rfl 2 plc_agg plc_size g10 41 rfl (prC x) HR10c.out rfl ?_)|(go_at_call 94;refine (RLower_e HNX.out wc (HL.out.under HBXr.out hB1) (by omega) hm HM2.out).mono ?_;rintro ez w7 ⟨A1,n1,c1,C1,m1,d1,rfl,e2,e3,e4,e5,hb7⟩;have HB7:=hide hb7;have hs7l:=hb7.size;have HZN:=hide (RowL.new w7 65 (nodC nod0 (.slice none 0 0) (.slice none 0 0)));have HR107:=hide (HR10c.out.on hb7);clear e3 e5 hb7)|(refine wpList_storeW rfl 65 (.tmp 12) (.tmp 34) rfl 13 nod_size w7.heap.size 65 rfl (nodC nod0 (.slice none 0 0) (.slice none 0 0)) (nodC N (.slice A1 n1 c1) (.slice C1 m1 d1)) rfl HZN.out rfl rfl (nodC_one _ _ _ _ _ _ _) ?_;intro w9 hr9 hg9 hs9;have hb9:=below_stored' hg9;have qk:w9.cell? ⟨w7.heap.size,0,none⟩=some (.int .i64 1):=(hr9.cell 0).trans (by rw [show (nodC N (.slice A1 n1 c1) (.slice C1 m1 d1))[0]?=some (.int .i64 N.k) from rfl,HKK.out]);have HR12:=hide hr9;have HR10:=hide (HR107.out.on hb9);have HB9:=hide (HB7.out.trans (hb9.mono hs7l));have hs9l:=HB9.out.size;clear hr9 hg9 hs9 hb9)|(refine wpList_loadW rfl 41 (.tmp 10) rfl 2 plc_agg plc_size g10 41 rfl (prC x) HR10.out rfl ?_)|(refine wpList_litW rfl 39 (.tmp 39) rfl (.agg (prC x).toArray) _ rfl (lit_plc x w9) ?_;refine wpList_plain rfl fun K2 hK2=>?_;go_loud (refine wp_appF w9 W1.heap.size _ rfl (.tmp 38) (.tmp 40) 39 41 rfl Tryz.underlying39 _ 2 16 plc_info rfl (by omega) (by omega) A acc.length c _ (prC x) rfl (prC_one x) rfl (ownsRow_below HOX.out HB9.out) rfl (by omega) (by omega) ?_);intro A5 c5 w10 ho10 hg10;refine hK2 _ _ ?_;clear hK2 K2;have HO10:=hide ho10;have hba:=below_new (below_self w9) (.cells (prC x).toArray 41);have hoa:=ownsRow_below (ownsRow_below HOX.out HB9.out) hba;have HR12b:=hide ((HR12.out.on hba).grown hg10 (row_apart hoa (HR12.out.on hba) (by decide)));have HB10:=hide (((HBXr.out.trans (HB9.out.mono (by omega))).trans (hba.mono (by omega))).grown hg10 (by have:=hba.size;omega) (fun q hq=>(own_block hoa q hq).1));clear ho10 hg10 hba hoa)|(refine wpList_loadW rfl 65 (.tmp 12) rfl 13 nod_agg nod_size w7.heap.size 65 rfl (nodC N (.slice A1 n1 c1) (.slice C1 m1 d1)) HR12b.out rfl ?_))
     refine (ROpq_b HOPQ.out hath.1 hath.2 _).mono ?_
     rintro ez w11 ⟨rfl,hb11⟩
     have HO11:=hide (ownsRow_below HO10.out hb11)
     have HB11:=hide (HB10.out.trans (hb11.mono (by have:=HB10.out.size;omega)))
     clear hb11
     cases op with
     | false =>
      go_wp2_with fail
      go_roundw
      case rel=>exact ⟨j+1,acc++[x],A5,c5,by omega,by go_num,by rw [HLEN.out],by rw [HLEN.out,flatR_snoc];exact HO11.out,HB11.out,by rw [HLEN.out];omega,by simpa using HE2.out⟩
      case measure=>simp [intOf];omega
     | true =>
      have hE:R=(1,acc++[x]):=by simpa using HE2.out.symm
      subst hE
      go_wp2_with fail
      rw [show acc.length+1=(acc++[x]).length from HLEN.out.symm]
      go_ret2
      exact ⟨A5,c5,rfl,own_capP (by rw [HLEN.out];exact HO11.out),(pr_fresh (by rw [HLEN.out,flatR_snoc];exact HO11.out) rfl).mono (fun _ _=>rfl) (fun b hb=>⟨by omega,hb.2⟩),HB1.out.trans (HB11.out.mono hs1)⟩
    ·cases ba with
     | true =>
      have ha:acc≠[]:=of_decide_eq_true HBA.out
      have hlp:0 < acc.length:=List.length_pos_iff.2 ha
      have hE:R=(1,acc):=by have:=HE.out.symm;simpa [ha] using this
      subst hE
      go_wp2_with (first|(refine wpList_loadW rfl 29 (.tmp 3) rfl 6 stk_agg stk_size w.heap.size 29 rfl (stkC g (.slice AU nU cU) (.slice AL nL cL)) R0x.out rfl ?_)|(refine wpList_loadW rfl 41 (.tmp 10) rfl 2 plc_agg plc_size g10 41 rfl (prC x) HR10c.out rfl ?_)|(go_at_call 94;refine (RLower_e HNX.out wc (HL.out.under HBXr.out hB1) (by omega) hm HM2.out).mono ?_;rintro ez w7 ⟨A1,n1,c1,C1,m1,d1,rfl,e2,e3,e4,e5,hb7⟩;have HB7:=hide hb7;have hs7l:=hb7.size;have HZN:=hide (RowL.new w7 65 (nodC nod0 (.slice none 0 0) (.slice none 0 0)));have HR107:=hide (HR10c.out.on hb7);clear e3 e5 hb7)|(refine wpList_storeW rfl 65 (.tmp 12) (.tmp 34) rfl 13 nod_size w7.heap.size 65 rfl (nodC nod0 (.slice none 0 0) (.slice none 0 0)) (nodC N (.slice A1 n1 c1) (.slice C1 m1 d1)) rfl HZN.out rfl rfl (nodC_one _ _ _ _ _ _ _) ?_;intro w9 hr9 hg9 hs9;have hb9:=below_stored' hg9;have qk:w9.cell? ⟨w7.heap.size,0,none⟩=some (.int .i64 2):=(hr9.cell 0).trans (by rw [show (nodC N (.slice A1 n1 c1) (.slice C1 m1 d1))[0]?=some (.int .i64 N.k) from rfl,HKK.out]);have HR12:=hide hr9;have HR10:=hide (HR107.out.on hb9);have HB9:=hide (HB7.out.trans (hb9.mono hs7l));have hs9l:=HB9.out.size;clear hr9 hg9 hs9 hb9))
      go_ret2
      exact ⟨A,c,rfl,own_capP HOW.out,(pr_fresh (ownsRow_below HOX.out HB9.out) rfl).mono (fun _ _=>rfl) (fun b hb=>⟨by omega,hb.2⟩),HB1.out.trans ((HBXr.out.trans (HB9.out.mono (by omega))).mono hs1)⟩
     | false =>
      have ha:acc=[]:=by have:=HBA.out;simpa using this
      subst ha
      have hE:R=(2,[x]):=by simpa using HE.out.symm
      subst hE
      go_wp2_with (first|(refine wpList_loadW rfl 29 (.tmp 3) rfl 6 stk_agg stk_size w.heap.size 29 rfl (stkC g (.slice AU nU cU) (.slice AL nL cL)) R0x.out rfl ?_)|(refine wpList_loadW rfl 41 (.tmp 10) rfl 2 plc_agg plc_size g10 41 rfl (prC x) HR10c.out rfl ?_)|(go_at_call 94;refine (RLower_e HNX.out wc (HL.out.under HBXr.out hB1) (by omega) hm HM2.out).mono ?_;rintro ez w7 ⟨A1,n1,c1,C1,m1,d1,rfl,e2,e3,e4,e5,hb7⟩;have HB7:=hide hb7;have hs7l:=hb7.size;have HZN:=hide (RowL.new w7 65 (nodC nod0 (.slice none 0 0) (.slice none 0 0)));have HR107:=hide (HR10c.out.on hb7);clear e3 e5 hb7)|(refine wpList_storeW rfl 65 (.tmp 12) (.tmp 34) rfl 13 nod_size w7.heap.size 65 rfl (nodC nod0 (.slice none 0 0) (.slice none 0 0)) (nodC N (.slice A1 n1 c1) (.slice C1 m1 d1)) rfl HZN.out rfl rfl (nodC_one _ _ _ _ _ _ _) ?_;intro w9 hr9 hg9 hs9;have hb9:=below_stored' hg9;have qk:w9.cell? ⟨w7.heap.size,0,none⟩=some (.int .i64 2):=(hr9.cell 0).trans (by rw [show (nodC N (.slice A1 n1 c1) (.slice C1 m1 d1))[0]?=some (.int .i64 N.k) from rfl,HKK.out]);have HR12:=hide hr9;have HR10:=hide (HR107.out.on hb9);have HB9:=hide (HB7.out.trans (hb9.mono hs7l));have hs9l:=HB9.out.size;clear hr9 hg9 hs9 hb9))
      have HQK:=hide (fun W (hb:Below w9.heap.size w9 W)=>show W.cell? ⟨w7.heap.size,0,none⟩=some (.int .i64 2) from ((HR12.out.on hb).cell 0).trans (by rw [show (nodC N (.slice A1 n1 c1) (.slice C1 m1 d1))[0]?=some (.int .i64 N.k) from rfl,HKK.out]))
      clear qk
      refine wp_region_planN (fun w'=>Below w9.heap.size w9 w') [(0,true),(1,true),(2,true),(4,true),(3,false),(5,true)] (by kernel_rfl) (by kernel_rfl) (by kernel_rfl) (by kernel_rfl) rfl (fun _ _ _ _ _ h=>h) (below_drew (below_self w9)) (fun hHeld=>?_)
      simp only [planOps,List.filterMap_cons,List.filterMap_nil,List.getElem?_toArray,List.getElem?_cons_succ,List.getElem?_cons_zero,Option.map_some]
      refine wpPlan_take (v:=?_) (by kernel_rfl) (fun wS hSw=>?_) ?_
      rotate_left
      ·(try dsimp only at hSw);go_simp;(try with_reducible rfl)
      (try simp only [Act.put,pu1,pu2,pu3])
      refine wpPlan_take (v:=?_) (by kernel_rfl) (fun wS hSw=>?_) ?_
      rotate_left
      ·have qx:=HQK.out wS hSw;go_simp;(try with_reducible rfl)
      (try simp only [Act.put,pu1,pu2,pu3])
      refine wpPlan_take (v:=?_) (by kernel_rfl) (fun wS hSw=>?_) ?_
      rotate_left
      ·refine execOp_load (x:=.tmp 10) (k:=2) (g:=g10) (off:=0) (cs:=prC x) ?_ plc_agg plc_size ?_ (fun j v hv=>by rw [Nat.zero_add];exact ((HR10.out.on hSw).cell j).trans hv) rfl <;> rfl
      (try simp only [Act.put,pu1,pu2,pu3])
      refine wpPlan_take (v:=?_) (by kernel_rfl) (fun wS hSw=>?_) ?_
      rotate_left
      ·(try dsimp only at hSw);go_simp;(try with_reducible rfl)
      (try simp only [Act.put,pu1,pu2,pu3])
      refine wpPlan_call (by kernel_rfl) (fun K hK=>?_)
      have hOld:=hide hHeld
      clear hHeld
      have hlit:=lit_plc x
      unfold Oper.wp execOp
      go_simp
      refine hK.out _ _ (hOld.out.alloc hOld.out.size _) (fun hHeld=>?_)
      clear hK K
      (try simp only [Act.put,pu1,pu2,pu3])
      refine wpPlan_take (v:=?_) (by kernel_rfl) (fun wS hSw=>?_) ?_
      rotate_left
      ·(try dsimp only at hSw);go_simp;(try with_reducible rfl)
      (try simp only [Act.put,pu1,pu2,pu3])
      refine wpPlan_end ?_
      go_wp2_with fail
      go_ret2
      exact ⟨_,_,rfl,Nat.le_refl _,pr_lit1 _ _ _ (show w.heap.size≤w9.heap.size from by omega),HB1.out.trans (((HBXr.out.trans (HB9.out.mono (by omega))).trans (hHeld.mono (by omega))).mono hs1)⟩
    ·cases ba with
     | true =>
      have ha:acc≠[]:=of_decide_eq_true HBA.out
      have hlp:0 < acc.length:=List.length_pos_iff.2 ha
      have hE:R=(1,acc):=by have:=HE.out.symm;simpa [ha] using this
      subst hE
      go_wp2_with (first|(refine wpList_loadW rfl 29 (.tmp 3) rfl 6 stk_agg stk_size w.heap.size 29 rfl (stkC g (.slice AU nU cU) (.slice AL nL cL)) R0x.out rfl ?_)|(refine wpList_loadW rfl 41 (.tmp 10) rfl 2 plc_agg plc_size g10 41 rfl (prC x) HR10c.out rfl ?_)|(go_at_call 94;refine (RLower_e HNX.out wc (HL.out.under HBXr.out hB1) (by omega) hm HM2.out).mono ?_;rintro ez w7 ⟨A1,n1,c1,C1,m1,d1,rfl,e2,e3,e4,e5,hb7⟩;have HB7:=hide hb7;have hs7l:=hb7.size;have HZN:=hide (RowL.new w7 65 (nodC nod0 (.slice none 0 0) (.slice none 0 0)));have HR107:=hide (HR10c.out.on hb7);clear e3 e5 hb7)|(refine wpList_storeW rfl 65 (.tmp 12) (.tmp 34) rfl 13 nod_size w7.heap.size 65 rfl (nodC nod0 (.slice none 0 0) (.slice none 0 0)) (nodC N (.slice A1 n1 c1) (.slice C1 m1 d1)) rfl HZN.out rfl rfl (nodC_one _ _ _ _ _ _ _) ?_;intro w9 hr9 hg9 hs9;have hb9:=below_stored' hg9;have qk:w9.cell? ⟨w7.heap.size,0,none⟩=some (.int .i64 3):=(hr9.cell 0).trans (by rw [show (nodC N (.slice A1 n1 c1) (.slice C1 m1 d1))[0]?=some (.int .i64 N.k) from rfl,HKK.out]);have HR12:=hide hr9;have HR10:=hide (HR107.out.on hb9);have HB9:=hide (HB7.out.trans (hb9.mono hs7l));have hs9l:=HB9.out.size;clear hr9 hg9 hs9 hb9))
      go_ret2
      exact ⟨A,c,rfl,own_capP HOW.out,(pr_fresh (ownsRow_below HOX.out HB9.out) rfl).mono (fun _ _=>rfl) (fun b hb=>⟨by omega,hb.2⟩),HB1.out.trans ((HBXr.out.trans (HB9.out.mono (by omega))).mono hs1)⟩
     | false =>
      have ha:acc=[]:=by have:=HBA.out;simpa using this
      subst ha
      have hE:R=(3,[x]):=by simpa using HE.out.symm
      subst hE
      go_wp2_with (first|(refine wpList_loadW rfl 29 (.tmp 3) rfl 6 stk_agg stk_size w.heap.size 29 rfl (stkC g (.slice AU nU cU) (.slice AL nL cL)) R0x.out rfl ?_)|(refine wpList_loadW rfl 41 (.tmp 10) rfl 2 plc_agg plc_size g10 41 rfl (prC x) HR10c.out rfl ?_)|(go_at_call 94;refine (RLower_e HNX.out wc (HL.out.under HBXr.out hB1) (by omega) hm HM2.out).mono ?_;rintro ez w7 ⟨A1,n1,c1,C1,m1,d1,rfl,e2,e3,e4,e5,hb7⟩;have HB7:=hide hb7;have hs7l:=hb7.size;have HZN:=hide (RowL.new w7 65 (nodC nod0 (.slice none 0 0) (.slice none 0 0)));have HR107:=hide (HR10c.out.on hb7);clear e3 e5 hb7)|(refine wpList_storeW rfl 65 (.tmp 12) (.tmp 34) rfl 13 nod_size w7.heap.size 65 rfl (nodC nod0 (.slice none 0 0) (.slice none 0 0)) (nodC N (.slice A1 n1 c1) (.slice C1 m1 d1)) rfl HZN.out rfl rfl (nodC_one _ _ _ _ _ _ _) ?_;intro w9 hr9 hg9 hs9;have hb9:=below_stored' hg9;have qk:w9.cell? ⟨w7.heap.size,0,none⟩=some (.int .i64 3):=(hr9.cell 0).trans (by rw [show (nodC N (.slice A1 n1 c1) (.slice C1 m1 d1))[0]?=some (.int .i64 N.k) from rfl,HKK.out]);have HR12:=hide hr9;have HR10:=hide (HR107.out.on hb9);have HB9:=hide (HB7.out.trans (hb9.mono hs7l));have hs9l:=HB9.out.size;clear hr9 hg9 hs9 hb9))
      have HQK:=hide (fun W (hb:Below w9.heap.size w9 W)=>show W.cell? ⟨w7.heap.size,0,none⟩=some (.int .i64 3) from ((HR12.out.on hb).cell 0).trans (by rw [show (nodC N (.slice A1 n1 c1) (.slice C1 m1 d1))[0]?=some (.int .i64 N.k) from rfl,HKK.out]))
      clear qk
      refine wp_region_planN (fun w'=>Below w9.heap.size w9 w') [(0,true),(1,true),(2,true),(4,true),(3,false),(5,true)] (by kernel_rfl) (by kernel_rfl) (by kernel_rfl) (by kernel_rfl) rfl (fun _ _ _ _ _ h=>h) (below_drew (below_self w9)) (fun hHeld=>?_)
      simp only [planOps,List.filterMap_cons,List.filterMap_nil,List.getElem?_toArray,List.getElem?_cons_succ,List.getElem?_cons_zero,Option.map_some]
      refine wpPlan_take (v:=?_) (by kernel_rfl) (fun wS hSw=>?_) ?_
      rotate_left
      ·(try dsimp only at hSw);go_simp;(try with_reducible rfl)
      (try simp only [Act.put,pu1,pu2,pu3])
      refine wpPlan_take (v:=?_) (by kernel_rfl) (fun wS hSw=>?_) ?_
      rotate_left
      ·have qx:=HQK.out wS hSw;go_simp;(try with_reducible rfl)
      (try simp only [Act.put,pu1,pu2,pu3])
      refine wpPlan_take (v:=?_) (by kernel_rfl) (fun wS hSw=>?_) ?_
      rotate_left
      ·refine execOp_load (x:=.tmp 10) (k:=2) (g:=g10) (off:=0) (cs:=prC x) ?_ plc_agg plc_size ?_ (fun j v hv=>by rw [Nat.zero_add];exact ((HR10.out.on hSw).cell j).trans hv) rfl <;> rfl
      (try simp only [Act.put,pu1,pu2,pu3])
      refine wpPlan_take (v:=?_) (by kernel_rfl) (fun wS hSw=>?_) ?_
      rotate_left
      ·(try dsimp only at hSw);go_simp;(try with_reducible rfl)
      (try simp only [Act.put,pu1,pu2,pu3])
      refine wpPlan_call (by kernel_rfl) (fun K hK=>?_)
      have hOld:=hide hHeld
      clear hHeld
      have hlit:=lit_plc x
      unfold Oper.wp execOp
      go_simp
      refine hK.out _ _ (hOld.out.alloc hOld.out.size _) (fun hHeld=>?_)
      clear hK K
      (try simp only [Act.put,pu1,pu2,pu3])
      refine wpPlan_take (v:=?_) (by kernel_rfl) (fun wS hSw=>?_) ?_
      rotate_left
      ·(try dsimp only at hSw);go_simp;(try with_reducible rfl)
      (try simp only [Act.put,pu1,pu2,pu3])
      refine wpPlan_end ?_
      go_wp2_with fail
      go_ret2
      exact ⟨_,_,rfl,Nat.le_refl _,pr_lit1 _ _ _ (show w.heap.size≤w9.heap.size from by omega),HB1.out.trans (((HBXr.out.trans (HB9.out.mono (by omega))).trans (hHeld.mono (by omega))).mono hs1)⟩
    ·cases ba with
     | true =>
      have ha:acc≠[]:=of_decide_eq_true HBA.out
      have hlp:0 < acc.length:=List.length_pos_iff.2 ha
      have hE:R=(1,acc):=by have:=HE.out.symm;simpa [ha] using this
      subst hE
      go_wp2_with (first|(refine wpList_loadW rfl 29 (.tmp 3) rfl 6 stk_agg stk_size w.heap.size 29 rfl (stkC g (.slice AU nU cU) (.slice AL nL cL)) R0x.out rfl ?_)|(refine wpList_loadW rfl 41 (.tmp 10) rfl 2 plc_agg plc_size g10 41 rfl (prC x) HR10c.out rfl ?_)|(go_at_call 94;refine (RLower_e HNX.out wc (HL.out.under HBXr.out hB1) (by omega) hm HM2.out).mono ?_;rintro ez w7 ⟨A1,n1,c1,C1,m1,d1,rfl,e2,e3,e4,e5,hb7⟩;have HB7:=hide hb7;have hs7l:=hb7.size;have HZN:=hide (RowL.new w7 65 (nodC nod0 (.slice none 0 0) (.slice none 0 0)));have HR107:=hide (HR10c.out.on hb7);clear e3 e5 hb7)|(refine wpList_storeW rfl 65 (.tmp 12) (.tmp 34) rfl 13 nod_size w7.heap.size 65 rfl (nodC nod0 (.slice none 0 0) (.slice none 0 0)) (nodC N (.slice A1 n1 c1) (.slice C1 m1 d1)) rfl HZN.out rfl rfl (nodC_one _ _ _ _ _ _ _) ?_;intro w9 hr9 hg9 hs9;have hb9:=below_stored' hg9;have qk:w9.cell? ⟨w7.heap.size,0,none⟩=some (.int .i64 4):=(hr9.cell 0).trans (by rw [show (nodC N (.slice A1 n1 c1) (.slice C1 m1 d1))[0]?=some (.int .i64 N.k) from rfl,HKK.out]);have HR12:=hide hr9;have HR10:=hide (HR107.out.on hb9);have HB9:=hide (HB7.out.trans (hb9.mono hs7l));have hs9l:=HB9.out.size;clear hr9 hg9 hs9 hb9))
      go_ret2
      exact ⟨A,c,rfl,own_capP HOW.out,(pr_fresh (ownsRow_below HOX.out HB9.out) rfl).mono (fun _ _=>rfl) (fun b hb=>⟨by omega,hb.2⟩),HB1.out.trans ((HBXr.out.trans (HB9.out.mono (by omega))).mono hs1)⟩
     | false =>
      have ha:acc=[]:=by have:=HBA.out;simpa using this
      subst ha
      have hE:R=(0,[]):=by simpa using HE.out.symm
      subst hE
      go_wp2_with (first|(refine wpList_loadW rfl 29 (.tmp 3) rfl 6 stk_agg stk_size w.heap.size 29 rfl (stkC g (.slice AU nU cU) (.slice AL nL cL)) R0x.out rfl ?_)|(refine wpList_loadW rfl 41 (.tmp 10) rfl 2 plc_agg plc_size g10 41 rfl (prC x) HR10c.out rfl ?_)|(go_at_call 94;refine (RLower_e HNX.out wc (HL.out.under HBXr.out hB1) (by omega) hm HM2.out).mono ?_;rintro ez w7 ⟨A1,n1,c1,C1,m1,d1,rfl,e2,e3,e4,e5,hb7⟩;have HB7:=hide hb7;have hs7l:=hb7.size;have HZN:=hide (RowL.new w7 65 (nodC nod0 (.slice none 0 0) (.slice none 0 0)));have HR107:=hide (HR10c.out.on hb7);clear e3 e5 hb7)|(refine wpList_storeW rfl 65 (.tmp 12) (.tmp 34) rfl 13 nod_size w7.heap.size 65 rfl (nodC nod0 (.slice none 0 0) (.slice none 0 0)) (nodC N (.slice A1 n1 c1) (.slice C1 m1 d1)) rfl HZN.out rfl rfl (nodC_one _ _ _ _ _ _ _) ?_;intro w9 hr9 hg9 hs9;have hb9:=below_stored' hg9;have qk:w9.cell? ⟨w7.heap.size,0,none⟩=some (.int .i64 4):=(hr9.cell 0).trans (by rw [show (nodC N (.slice A1 n1 c1) (.slice C1 m1 d1))[0]?=some (.int .i64 N.k) from rfl,HKK.out]);have HR12:=hide hr9;have HR10:=hide (HR107.out.on hb9);have HB9:=hide (HB7.out.trans (hb9.mono hs7l));have hs9l:=HB9.out.size;clear hr9 hg9 hs9 hb9))
      go_ret2
      exact ⟨none,0,rfl,Nat.le_refl _,RdE.none_ _ _ _ _,HB1.out.trans ((HBXr.out.trans (HB9.out.mono (by omega))).mono hs1)⟩
  ·obtain rfl:j=n:=by omega
   have e:=HFI.out
   rw [List.drop_of_length_le (by have:=HPL.out;omega),findL_end] at e
   by_cases ha:acc=[]
   ·subst ha
    rw [show kindA []=0 from rfl] at e
    subst e
    go_wp2_with fail
    go_ret2
    exact ⟨none,0,rfl,Nat.le_refl _,RdE.none_ _ _ _ _,HBw.out⟩
   ·rw [show kindA acc=1 from by unfold kindA;rw [if_neg ha]] at e
    subst e
    have hlp:0 < acc.length:=List.length_pos_iff.2 ha
    clear ha
    go_wp2_with fail
    go_ret2
    exact ⟨A,c,rfl,own_capP HOW.out,(pr_fresh HOW.out rfl).mono (fun _ _=>rfl) (fun b hb=>⟨by omega,hb.2⟩),HBw.out⟩
end Go.Proofs.YtnhegahpfacdgaaGreat

