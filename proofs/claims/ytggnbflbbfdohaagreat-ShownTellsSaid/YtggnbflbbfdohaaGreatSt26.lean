import Derived.Test.YtggnbflbbfdohaaGreatSt16
import Derived.Test.YtggnbflbbfdohaaGreatSt25
import Derived.Test.YtggnbflbbfdohaaGreatSt21
import Derived.Test.YtggnbflbbfdohaaGreatSt22

namespace Go.Proofs.YtggnbflbbfdohaaGreat
open Go.RowKit Go.Shelf Plain
set_option maxRecDepth 100000 in
set_option maxHeartbeats 16000000 in
theorem RNames_o {g:GeoQ} {AU AL AP:Option Addr} {nU cU nL cL n cP:Nat} {ls:List (List NodV)} {l:List (Int×Int)} (w:World) (h:RdE layEn w (Under w.heap.size) AL nL ls) (hp:RdE prEn w (Under w.heap.size) AP n l) (hF:FewL ls) (hn:n≤1000) :
  Calls Tryz.prog 78 #[.agg (stkC g (.slice AU nU cU) (.slice AL nL cL)).toArray,.slice AP n cP] w (NamesO w (namesL ls l)):=by
 have r0:=RowL.new w 29 (stkC g (.slice AU nU cU) (.slice AL nL cL))
 have hb1:=below_new (below_self w) (.cells (stkC g (.slice AU nU cU) (.slice AL nL cL)).toArray 29);obtain ⟨W1,hW1⟩:∃W1,w.alloc (.cells (stkC g (.slice AU nU cU) (.slice AL nL cL)).toArray 29)=W1:=⟨_,rfl⟩;rw [hW1] at r0 hb1;have hW1':w.alloc (.cells #[.int .i64 g.a,.int .i64 g.b,.int .i64 g.c,.int .i64 g.d,.slice AU nU cU,.slice AL nL cL] 29)=W1:=hW1
 have hm:ls.length≤100:=by have:=hF.1;omega
 have HM2:=hide (fun ns (hh:ns∈ls)=>(show ns.length≤1000 from Nat.le_trans (hF.2 ns hh).1 (by omega)));have R0:=hide r0;have HB1:=hide hb1;have hs1:=hb1.size;have HL:=hide (h.under hb1 (Nat.le_refl _));have HP:=hide (hp.under hb1 (Nat.le_refl _));have HPL:=hide hp.1;have HF:=hide hF;have HAL:=hide (fun k=>(show (allN ls (l.take k)).length≤16*k from Nat.le_trans (allN_len hF _) (Nat.mul_le_mul_left _ (by rw [List.length_take];omega))));have HO0:=hide (show Ow st (W1.alloc (.cells #[] 9)) W1.heap.size 9 (some ⟨W1.heap.size,0,none⟩) 0 0 [] from own_lit0 W1 9 1 (base:=W1.heap.size) rfl (Nat.le_refl _));have HW0:=hide (below_new (below_self W1) (.cells #[] 9));rw [namesL_ref];unfold stkC;clear r0 hb1 hW1 h hp hF
 go_enter Tryz.func78,Tryz.ntmps78
 go_wp2_with fail
 clear hW1'
 go_loopw [5,6] (fun v5 v6 wr=>∃(j n5:Nat) (A5:Option Addr) (c5:Nat),j≤n∧v6=.int .i64 j∧v5=.slice A5 n5 c5∧Ow st wr W1.heap.size 9 A5 n5 c5 ((allN ls (l.take j)).filter (keepS ls l))∧Below W1.heap.size W1 wr) (fun _ v6 _=>n - (intOf v6).toNat)
 case atStart=>exact ⟨0,0,_,0,by omega,rfl,rfl,HO0.out,HW0.out⟩
 case round =>
  rename World=>wo
  obtain ⟨j,n5,A5,c5,hj,rfl,rfl,ho,hbr⟩:=hrel
  have hn5:n5≤16*j:=by rw [←ho.rd.len];exact Nat.le_trans (List.length_filter_le _ _) (HAL.out j)
  have HO:=hide ho;have HBR:=hide hbr;have hbsz:=hbr.size;have R0r:=hide (R0.out.on hbr);have HLR:=hide (fun W (hb:Below wo.heap.size wo W)=>HL.out.under (hbr.trans (hb.mono hbsz)) hs1);clear ho hbr
  by_cases hlt:j < n
  ·obtain ⟨p,hp⟩:∃p,l[j]?=some p:=⟨_,List.getElem?_eq_getElem (by have:=HPL.out;omega)⟩
   obtain ⟨bP,oP,eP,hbP,hcP⟩:=pr_get (HP.out.under HBR.out hs1) hp;have HCP:=hide hcP;have HSU:=hide (allN_succ (ls:=ls) hp);obtain ⟨N,hN⟩:∃N,lowAt ls p.1 p.2=N:=⟨_,rfl⟩;have hel:=(low_plain HF.out p.1 p.2).2.2.2.2.1;rw [hN] at hel;obtain ⟨EL,hEL⟩:∃EL,entL ls p=EL:=⟨_,rfl⟩;have HELN:=hide (show EL=if N.k=1 then N.ents else [] from by rw [←hEL];unfold entL;rw [hN]);have HEL:=hide hEL;have HN:=hide hN
   have hjn:(j:Int) < (n:Int):=by omega
   have hbPr:bP < wo.heap.size:=by have:bP < w.heap.size:=hbP;omega
   subst eP;clear hp hcP hEL hN
   go_upto_region 5 with fail
   go_cut [7] from 18 to 23 (fun v7 wx=>∃g7 A1 n1 c1 C1 m1 d1,v7=.pointer (some ⟨g7,0,none⟩)∧RowL wx g7 65 (nodC N (.slice A1 n1 c1) (.slice C1 m1 d1))∧RdE entEn wx (Under w.heap.size) C1 m1 N.ents∧Below wo.heap.size wo wx)
   case first =>
    refine wp_region_G (fun w'=>Below wo.heap.size wo w') (.take 0 (.take 1 (.take 2 (.take 3 (.take 4 (.alt 5 (.alt 6 (.alt 7 .leaf .stop) .stop) (.alt 6 (.alt 5 (.alt 7 .leaf .stop) .stop) .stop))))))) (by kernel_rfl) (by kernel_rfl) (by kernel_rfl) (by kernel_rfl) rfl (fun _ _ _ _ _ h=>h) (below_drew (below_self wo)) (fun hHh=>?_)
    generalize wo.drew=wd at *
    simp only [PT.map,List.getElem?_toArray,List.getElem?_cons_succ,List.getElem?_cons_zero];refine wpPT_take (v:=?_) (by kernel_rfl) (fun wS hSw=>?_) ?_;rotate_left
    ·refine execOp_load (x:=.tmp 2) (k:=6) (g:=w.heap.size) (off:=0) (cs:=stkC g (.slice AU nU cU) (.slice AL nL cL)) ?_ stk_agg stk_size ?_ (fun j' v hv=>by rw [Nat.zero_add];exact ((R0r.out.on hSw).cell j').trans hv) rfl <;> rfl
    (try simp only [Act.put,pu1,pu2,pu3])
    iterate 3
     refine wpPT_take (v:=?_) (by kernel_rfl) (fun wS hSw=>?_) ?_;rotate_left
     ·(try dsimp only at hSw);go_simp;(try with_reducible rfl)
     (try simp only [Act.put,pu1,pu2,pu3])
    refine wpPT_take (v:=?_) (by kernel_rfl) (fun wS hSw=>?_) ?_;rotate_left
    ·refine execOp_load (x:=.tmp 21) (k:=2) (g:=bP) (off:=oP+j*2) (cs:=prC p) ?_ plc_agg plc_size ?_ (fun j' v hv=>(hSw.cell (p:=⟨bP,oP+j*2+j',none⟩) hbPr).trans (HCP.out j' v hv)) rfl <;> rfl
    (try simp only [Act.put,pu1,pu2,pu3]);refine wpPT_alt (by kernel_rfl) (fun K hK=>?_) ?_
    ·skip
     have hOh:=hide hHh;clear hHh
     go_simp
     go_at_call 112
     refine (RLower_e HN.out _ (HLR.out _ hOh.out) (by have:=hOh.out.size;omega) hm HM2.out).mono ?_
     rintro e w' ⟨A1,n1,c1,C1,m1,d1,rfl,e2,e3,e4,e5,hbel⟩
     have hsC:=(hOh.out.trans (hbel.mono hOh.out.size)).size
     have E5:=hide e5
     clear e3 e5;refine hK.out _ _ (hOh.out.trans (hbel.mono hOh.out.size)) (fun hHh=>?_);clear hK K;(try simp only [Act.put,pu1,pu2,pu3]);refine wpPT_alt (by kernel_rfl) (fun K hK=>?_) ?_;rotate_left
     ·exact wpPT_stop
     have hOh:=hide hHh;clear hHh;unfold Oper.wp execOp
     go_simp
     refine hK.out _ _ (hOh.out.alloc hOh.out.size _) (fun hHh=>?_);clear hK K;(try simp only [Act.put,pu1,pu2,pu3]);refine wpPT_alt (by kernel_rfl) (fun K hK=>?_) ?_;rotate_left
     ·exact wpPT_stop
     have hOh:=hide hHh;clear hHh;refine wp_storeC 65 (.tmp 7) (.tmp 23) rfl 13 nod_size w'.heap.size 0 65 rfl (nodC nod0 (.slice none 0 0) (.slice none 0 0)) (nodC N (.slice A1 n1 c1) (.slice C1 m1 d1)) rfl (RowL.new w' 65 (nodC nod0 (.slice none 0 0) (.slice none 0 0))) rfl (by exact Nat.le_refl _) (nodC_one _ _ _ _ _ _ _) ?_;intro w9 hr9 hg9 hs9;rw [splice_all (nodC nod0 (.slice none 0 0) (.slice none 0 0)) (nodC N (.slice A1 n1 c1) (.slice C1 m1 d1)) rfl] at hr9;refine hK.out _ _ (hOh.out.grown hg9 hOh.out.size (pu4 (by omega))) (fun hHh=>?_);clear hK K;have HR7:=hide hr9
     have E9:=hide (E5.out.under (below_stored' hg9) (by omega))
     clear hr9 hg9 hs9;(try simp only [Act.put]);refine wpPT_leaf ?_;have HBX':=hide hHh;clear hHh hOh
     go_wp2_with fail
     go_meet
     case rel=>exact ⟨w'.heap.size,A1,n1,c1,C1,m1,d1,rfl,HR7.out,E9.out,HBX'.out⟩
    refine wpPT_alt (by kernel_rfl) (fun K hK=>?_) ?_
    ·skip
     have hOh:=hide hHh;clear hHh;have hsW:=hOh.out.size;unfold Oper.wp execOp
     go_simp
     refine hK.out _ _ (hOh.out.alloc hOh.out.size _) (fun hHh=>?_);clear hK K;(try simp only [Act.put,pu1,pu2,pu3]);refine wpPT_alt (by kernel_rfl) (fun K hK=>?_) ?_;rotate_left
     ·exact wpPT_stop
     have hOh:=hide hHh;clear hHh
     go_simp
     go_at_call 112
     refine (RLower_e HN.out _ (HLR.out _ hOh.out) (by have:=hOh.out.size;omega) hm HM2.out).mono ?_
     rintro e w' ⟨A1,n1,c1,C1,m1,d1,rfl,e2,e3,e4,e5,hbel⟩
     have hsC:=(hOh.out.trans (hbel.mono hOh.out.size)).size
     have E5:=hide e5
     clear e3 e5;have HBX:=hide ((RowL.new wd 65 (nodC nod0 (.slice none 0 0) (.slice none 0 0))).on hbel);have hsD:=hbel.size;simp only [World.size_alloc] at hsD;refine hK.out _ _ (hOh.out.trans (hbel.mono hOh.out.size)) (fun hHh=>?_);clear hK K;(try simp only [Act.put,pu1,pu2,pu3]);refine wpPT_alt (by kernel_rfl) (fun K hK=>?_) ?_;rotate_left
     ·exact wpPT_stop
     have hOh:=hide hHh;clear hHh;refine wp_storeC 65 (.tmp 7) (.tmp 23) rfl 13 nod_size wd.heap.size 0 65 rfl (nodC nod0 (.slice none 0 0) (.slice none 0 0)) (nodC N (.slice A1 n1 c1) (.slice C1 m1 d1)) rfl HBX.out rfl (by exact Nat.le_refl _) (nodC_one _ _ _ _ _ _ _) ?_;intro w9 hr9 hg9 hs9;rw [splice_all (nodC nod0 (.slice none 0 0) (.slice none 0 0)) (nodC N (.slice A1 n1 c1) (.slice C1 m1 d1)) rfl] at hr9;refine hK.out _ _ (hOh.out.grown hg9 hOh.out.size (pu4 (by omega))) (fun hHh=>?_);clear hK K;have HR7:=hide hr9
     have E9:=hide (E5.out.mono (fun b hb=>hg9.block b (by unfold Under at hb;omega) (fun e=>by have:=Option.some.inj e;unfold Under at hb;omega)) (fun _ h=>h))
     clear hr9 hg9 hs9;(try simp only [Act.put]);refine wpPT_leaf ?_;have HBX':=hide hHh;clear hHh hOh
     go_wp2_with fail
     go_meet
     case rel=>exact ⟨wd.heap.size,A1,n1,c1,C1,m1,d1,rfl,HR7.out,E9.out,HBX'.out⟩
    exact wpPT_stop
   case rest =>
   obtain ⟨g7,A1,n1,c1,C1,m1,d1,rfl,hr7,hE,hbx⟩:=hcut;have HR7:=hide hr7;have HE:=hide hE;have HOX:=hide (HO.out.below hbx);have HBX:=hide (HBR.out.trans (hbx.mono hbsz));have hsx:=hbx.size;have R0x:=hide (R0r.out.on hbx);have hg7:=hr7.lt;have HEM:=hide hE.1
   have hm16:m1≤16:=by have:=HEM.out;omega
   obtain ⟨bk,hbk⟩:∃bk,(N.k==1)=bk:=⟨_,rfl⟩
   have HELB:=hide (show EL=if bk=true then N.ents else [] from by
    rw [HELN.out,←hbk]
    by_cases hk:N.k=1 <;> simp [hk])
   clear hr7 hE hbx
   go_wp2_with fail
   go_loopw [5,8] (fun v5 v8 wr=>∃(i n6:Nat) (A6:Option Addr) (c6:Nat),i≤EL.length∧v8=.int .i64 i∧v5=.slice A6 n6 c6∧n6≤16*j+i∧Ow st wr W1.heap.size 9 A6 n6 c6 ((allN ls (l.take j)++(EL.take i).map EntV.name).filter (keepS ls l))∧Below W1.heap.size W1 wr∧Below W1.heap.size wc wr∧RowL wr g7 65 (nodC N (.slice A1 n1 c1) (.slice C1 m1 d1))∧wc.heap.size≤wr.heap.size) (fun _ v8 _=>m1 - (intOf v8).toNat)
   case atStart=>exact ⟨0,n5,A5,c5,by omega,rfl,rfl,by omega,by simpa using HOX.out,HBX.out,Below.refl _ _,HR7.out,Nat.le_refl _⟩
   case round =>
    obtain ⟨i,n6,A6,c6,hi,rfl,rfl,hn6,ho6,hbi,hbc,hri,hsi⟩:=hrel;have HO6:=hide ho6;have HBI:=hide hbi;have HRI:=hide hri;have HBC:=hide hbc
    have qs:wr.cell? ⟨g7,5,none⟩=some (.slice C1 m1 d1):=hri.cell 5
    have qk:wr.cell? ⟨g7,0,none⟩=some (.int .i64 N.k):=hri.cell 0
    have R0i:=hide (show RowL wr w.heap.size 29 (stkC g (.slice AU nU cU) (.slice AL nL cL)) from (HBI.out.block w.heap.size (by have:=R0.out.lt;exact this)).trans R0.out);have hE6:=HE.out.mono (fun b hb=>HBC.out.block b (by unfold Under at hb;omega)) (fun _ h=>h);have HE6:=hide (hE6:RdE entEn wr (Under w.heap.size) C1 m1 N.ents);have hbis:=hbi.size;clear ho6 hbi hri hbc hE6
    by_cases hlt2:i < EL.length
    ·obtain rfl:bk=true:=by
      cases bk with
      | true=>rfl
      | false=>rw [HELB.out] at hlt2;simp at hlt2
     have hELe:EL=N.ents:=by rw [HELB.out];simp
     obtain ⟨e,he⟩:∃e,EL[i]?=some e:=⟨_,List.getElem?_eq_getElem hlt2⟩
     have he2:N.ents[i]?=some e:=by rw [←hELe];exact he
     have hi1:i < m1:=by rw [hELe] at hlt2;have:=HEM.out;omega
     obtain ⟨bE,oE,rfl,hbE,hcE⟩:=ent_get HE6.out he2
     have hbE':bE < wr.heap.size:=by have:bE < w.heap.size:=hbE;omega
     have qn:wr.cell? ⟨bE,oE+i*3+2,none⟩=some (.string ⟨e.name.toArray⟩):=hcE 2 _ rfl
     have HQM:=hide (fun W (hb:Below wr.heap.size wr W)=>show W.cell? ⟨bE,oE+i*3+2,none⟩=some (.string ⟨e.name.toArray⟩) from (hb.cell (p:=⟨bE,oE+i*3+2,none⟩) hbE').trans qn);have HQE:=hide (fun W (hb:Below wr.heap.size wr W)=>show W.cell? ⟨g7,5,none⟩=some (.slice (some ⟨bE,oE,none⟩) m1 d1) from (HRI.out.on hb).cell 5);have HLI:=hide (fun W (hb:Below wr.heap.size wr W)=>HL.out.under (HBI.out.trans (hb.mono hbis)) hs1);have HPI:=hide (fun W (hb:Below wr.heap.size wr W)=>(HP.out.under (HBI.out.trans (hb.mono hbis)) hs1).mono (fun _ _=>rfl) (fun b hb'=>Nat.lt_of_lt_of_le hb' (Nat.le_trans hs1 (Nat.le_trans hbis hb.size))));obtain ⟨R,hRR⟩:∃R,findL ls e.name l []=R:=⟨_,rfl⟩;obtain ⟨b2,hb2⟩:∃b2,(R.1 != 0)=b2:=⟨_,rfl⟩
     have HKS:=hide (keep_snoc (q:=keepS ls l) he (allN ls (l.take j)) (b:=b2) (by
      rw [←hb2,←hRR];unfold keepS hidS
      by_cases hk:(findL ls e.name l []).1=0 <;> simp [hk]))
     have HRR:=hide hRR
     have him:(i:Int) < (m1:Int):=by omega
     clear he he2 hcE qn hRR hELe
     go_wp2_with fail
     clear qs qk;refine wp_region_planN (fun w'=>Below wr.heap.size wr w') [(0,true),(1,true),(2,true),(3,true),(4,true),(5,true),(6,true),(7,true),(8,false),(9,true),(10,true),(11,true),(12,true),(13,true)] (by kernel_rfl) (by kernel_rfl) (by kernel_rfl) (by kernel_rfl) rfl (fun _ _ _ _ _ h=>h) (below_drew (below_self wr)) (fun hHh=>?_);simp only [planOps,List.filterMap_cons,List.filterMap_nil,List.getElem?_toArray,List.getElem?_cons_succ,List.getElem?_cons_zero,Option.map_some];refine wpPlan_take (v:=?_) (by kernel_rfl) (fun wS hSw=>?_) ?_;rotate_left
     ·refine execOp_load (x:=.tmp 2) (k:=6) (g:=w.heap.size) (off:=0) (cs:=stkC g (.slice AU nU cU) (.slice AL nL cL)) ?_ stk_agg stk_size ?_ (fun j' v hv=>by rw [Nat.zero_add];exact ((R0i.out.on hSw).cell j').trans hv) rfl <;> rfl
     (try simp only [Act.put,pu1,pu2,pu3])
     iterate 2
      refine wpPlan_take (v:=?_) (by kernel_rfl) (fun wS hSw=>?_) ?_;rotate_left
      ·(try dsimp only at hSw);go_simp;(try with_reducible rfl)
      (try simp only [Act.put,pu1,pu2,pu3])
     refine wpPlan_take (v:=?_) (by kernel_rfl) (fun wS hSw=>?_) ?_;rotate_left
     ·have qx:=HQE.out wS hSw;go_simp;(try with_reducible rfl)
     (try simp only [Act.put,pu1,pu2,pu3])
     iterate 3
      refine wpPlan_take (v:=?_) (by kernel_rfl) (fun wS hSw=>?_) ?_;rotate_left
      ·(try dsimp only at hSw);go_simp;(try with_reducible rfl)
      (try simp only [Act.put,pu1,pu2,pu3])
     refine wpPlan_take (v:=?_) (by kernel_rfl) (fun wS hSw=>?_) ?_;rotate_left
     ·have qx:=HQM.out wS hSw;go_simp;(try with_reducible rfl)
     (try simp only [Act.put,pu1,pu2,pu3]);refine wpPlan_call (by kernel_rfl) (fun K hK=>?_);have hOh:=hide hHh;clear hHh
     go_simp
     go_at_call 81
     refine (RFind_e HRR.out _ (HLI.out _ hOh.out) (HPI.out _ hOh.out) (by have:=hOh.out.size;omega) HF.out hn).mono ?_
     rintro e w' ⟨A2,c2,rfl,hc2,hr2,hbel⟩
     clear hr2;refine hK.out _ _ (hOh.out.trans (hbel.mono hOh.out.size)) (fun hHh=>?_);clear hK K;(try simp only [Act.put,pu1,pu2,pu3])
     iterate 5
      refine wpPlan_take (v:=?_) (by kernel_rfl) (fun wS hSw=>?_) ?_;rotate_left
      ·(try dsimp only at hSw);go_simp;(try with_reducible rfl)
      (try simp only [Act.put,pu1,pu2,pu3])
     refine wpPlan_end ?_;have HO7:=hide (HO6.out.below hHh);have hr7':=HRI.out.on hHh
     have qs':w'.cell? ⟨g7,5,none⟩=some (.slice (some ⟨bE,oE,none⟩) m1 d1):=hr7'.cell 5
     have qn':=HQM.out w' hHh
     have HR7':=hide hr7';have HBI':=hide (HBI.out.trans (hHh.mono hbis));have HBC':=hide (HBC.out.trans (hHh.mono (by omega)));have hsH:=hHh.size;clear hHh hr7'
     cases b2 with
     | false =>
      go_wp2_with fail
      go_roundw
      case rel=>exact ⟨i+1,n6,A6,c6,by omega,by go_num,rfl,by omega,by rw [HKS.out,if_neg (by simp)];exact HO7.out,HBI'.out,HBC'.out,HR7'.out,by omega⟩
      case measure=>simp [intOf];omega
     | true =>
      go_wp2_with (at_builtin;refine wpList_append_Rd' (f:=st) _ rfl (.tmp 50) (.tmp 57) 41 rfl W1.heap.size 9 _ 16 Tryz.underlying41 info_st rfl (fun _=>rfl) A6 n6 c6 _ rfl (HO7.out.below (below_new (below_self w') _)) _ _ 1 1 [e.name] rfl (Rd.one _ _ rfl) (n6+1) rfl (by omega) (by omega) (by simp;omega) ?_;intro A7 c7 w9 ho9 hb9 hg9;have HO9:=hide ho9;have hs9:=hb9.size;have HB9:=hide ((HBI'.out.alloc (by omega) _).trans hb9);have HBC9:=hide ((HBC'.out.alloc (by omega) _).trans hb9);have hba:=below_new (below_self w') (.cells #[.string ⟨e.name.toArray⟩] 9);have HR9:=hide ((HR7'.out.on hba).grown hg9 (row_apart (HO7.out.below hba) (HR7'.out.on hba) (by decide)));clear ho9 hb9 hg9 hba)
      have hs9':w'.heap.size≤w9.heap.size:=by simp at hs9;omega
      go_roundw
      case rel=>exact ⟨i+1,n6+1,A7,c7,by omega,by go_num,rfl,by omega,by rw [HKS.out,if_pos (by simp)];exact HO9.out,HB9.out,HBC9.out,HR9.out,by omega⟩
      case measure=>simp [intOf];omega
    ·obtain rfl:i=EL.length:=by omega
     have hfin:Ow st wr W1.heap.size 9 A6 n6 c6 ((allN ls (l.take (j+1))).filter (keepS ls l)):=by
      rw [HSU.out,HEL.out]
      have:=HO6.out
      rwa [List.take_of_length_le (l:=EL) (i:=EL.length) (Nat.le_refl _)] at this
     have hEl16:EL.length≤16:=by rw [←HEL.out];exact entL_len HF.out p
     have HFIN:=hide hfin;clear hfin
     cases bk with
     | true =>
      have hELe:EL.length=m1:=by rw [←HEM.out,HELB.out];simp
      rw [hELe];clear hELe
      go_wp2_with fail
      go_roundw
      case rel=>exact ⟨j+1,n6,A6,c6,by omega,by go_num,rfl,HFIN.out,HBI.out⟩
      case measure=>simp [intOf];omega
     | false =>
      have hELe:EL.length=0:=by rw [HELB.out];simp
      rw [hELe];clear hELe
      by_cases hm0:0 < m1
      ·have hm0':(0:Int) < (m1:Int):=by omega
       go_wp2_with fail
       go_roundw
       case rel=>exact ⟨j+1,n6,A6,c6,by omega,by go_num,rfl,HFIN.out,HBI.out⟩
       case measure=>simp [intOf];omega
      ·obtain rfl:m1=0:=by omega
       go_wp2_with fail
       go_roundw
       case rel=>exact ⟨j+1,n6,A6,c6,by omega,by go_num,rfl,HFIN.out,HBI.out⟩
       case measure=>simp [intOf];omega
  ·obtain rfl:j=n:=by omega
   have ho:=HO.out;rw [List.take_of_length_le (by have:=HPL.out;omega)] at ho;have HOF:=hide ho;clear ho
   go_wp2_with fail
   refine (RSort_any wo HOF.out.rd (by omega)).mono ?_
   rintro ez w3 ⟨A3,c3,rfl,ho3,hb3⟩
   have HO3:=hide ho3;have HB3:=hide (HB1.out.trans ((HBR.out.trans (hb3.mono hbsz)).mono hs1));clear hb3 ho3
   go_wp2_with fail
   go_ret
   exact ⟨A3,_,c3,rfl,HO3.out.rebase (by omega),HB3.out⟩
end Go.Proofs.YtggnbflbbfdohaaGreat

namespace Go.Proofs.YtggnbflbbfdohaaGreat
open Go.RowKit Go.Shelf Plain

set_option maxRecDepth 100000 in
set_option maxHeartbeats 16000000 in
theorem REnt17_any {g:GeoQ} {AU AL:Option Addr} {nU cU nL cL B:Nat} {up:List NodV} {u:Int} {AV:Option Addr} {nV cV:Nat} {nm:List UInt8} (w:World) (hu:RdE nodEn w (Under B) AU nU up) (hB:B≤w.heap.size) (hup:FewU up):Calls Tryz.prog 42 #[.agg (stkC g (.slice AU nU cU) (.slice AL nL cL)).toArray,.agg (viwC u (.slice AV nV cV)).toArray,.string ⟨nm.toArray⟩] w (fun e w'=>e=.returned (.tuple #[.agg (cellsE (entO (firstB up u nm))).toArray,.bool (firstB up u nm).isSome])∧Below w.heap.size w w'):=by
 obtain ⟨W1,hW1⟩:∃W1,(((w.alloc (.cells (stkC g (.slice AU nU cU) (.slice AL nL cL)).toArray 29)).alloc (.cells (viwC u (.slice AV nV cV)).toArray 80)).alloc (.cells ([.int .i64 0,.int .i64 0,.string ⟨#[]⟩]:List Value).toArray 95))=W1:=⟨_,rfl⟩;obtain ⟨r0,r1,r2,hb1,hs1⟩:=rowA3 w _ _ _ _ _ _ hW1;have hW1':(((w.alloc (.cells #[.int .i64 g.a,.int .i64 g.b,.int .i64 g.c,.int .i64 g.d,.slice AU nU cU,.slice AL nL cL] 29)).alloc (.cells #[.int .i64 u,.slice AV nV cV] 80)).alloc (.cells #[.int .i64 0,.int .i64 0,.string ⟨#[]⟩] 95))=W1:=hW1;have R3:=hide r0;have R4:=hide r1;have R6:=hide r2;have HB:=hide hb1;have hsz0:=hb1.size;have HU:=hide (hu.under hb1 hB);have HFU:=hide hup;obtain ⟨x,hx⟩:∃x,nodAt up u=x:=⟨_,rfl⟩;have HX:=hide hx;obtain ⟨FO,hFO⟩:∃FO,firstB up u nm=FO:=⟨_,rfl⟩
 have hpx:PlainN x:=by rw [←hx];exact nodAt_plain hup.2 u
 have hx16:=hpx.2.2.2.2.1;have HEL:=hide (show x.k=1→entB up u=x.ents from fun hk=>by unfold entB;rw [hx,if_pos hk]);have HNL:=hide (show x.k≠1→FO=none from fun hk=>by rw [←hFO];unfold firstB entB;rw [hx,if_neg hk];rfl);rw [hFO];have HFO:=hide hFO
 have q3_4:=cel R3.out 4 rfl
 have q4_0:=cel R4.out 0 rfl
 unfold stkC viwC;clear r0 r1 r2 hb1 hW1 hu hup hx hpx hFO
 go_enter Tryz.func42,Tryz.ntmps42
 go_wp2_with (first|(go_at_call 61;refine (At_e HX.out W1 HU.out (by omega) (by have:=HFU.out.1;omega)).mono ?_;rintro e1 wN ⟨A1,n1,c1,C1,m1,d1,rfl,-,-,-,e5,hbel⟩;clear q3_4 q4_0;replace HB:=trH HB hbel;replace R3:=hide (R3.out.on hbel);replace R4:=hide (R4.out.on hbel);replace R6:=hide (R6.out.on hbel);replace HU:=unH HU hbel (by omega);have hsz2:=hbel.size;have q3_4:=cel R3.out 4 rfl;have q4_0:=cel R4.out 0 rfl;have HE:=hide e5;clear e5;clear hbel)|(refine wpList_storeW rfl 65 (.tmp 8) (.tmp 14) rfl 13 nod_size (wN.heap.size) 65 rfl (nodC nod0 (.slice none 0 0) (.slice none 0 0)) (nodC x (.slice A1 n1 c1) (.slice C1 m1 d1)) rfl (RowL.new wN 65 (nodC nod0 (.slice none 0 0) (.slice none 0 0))) rfl rfl (nodC_one _ _ _ _ _ _ _) ?_;intro wS3 hr3 hg3 hs3;have hzb:=below_stored' hg3;clear q3_4 q4_0;replace HB:=trH HB hzb;replace R3:=hide (R3.out.on hzb);replace R4:=hide (R4.out.on hzb);replace R6:=hide (R6.out.on hzb);replace HU:=unH HU hzb (by omega);replace HE:=unH HE hzb (by omega);have hsz4:=hzb.size;have q3_4:=cel R3.out 4 rfl;have q4_0:=cel R4.out 0 rfl;have RN:=hide hr3;have hlt3:=hr3.lt;have q8_5:=cel RN.out 5 rfl;have q8_0:=cel RN.out 0 rfl;clear hzb hr3;clear hg3 hs3))
 have HEM:=hide HE.out.1
 have hm16:m1≤16:=by have:=HEM.out;omega
 clear hW1' q3_4 q4_0 q8_5 q8_0
 go_loopw [9] (fun v9 wr=>∃j:Nat,j≤m1∧v9=.int .i64 j∧Below wS3.heap.size wS3 wr∧(x.ents.take j).find? (useB up nm)=none) (fun v9 _=>m1 - (intOf v9).toNat)
 case atStart=>exact ⟨0,by omega,rfl,below_self _,by simp⟩
 case round =>
  obtain ⟨j,hj,rfl,hbr,hnone⟩:=hrel;have HN:=hide hnone;replace HB:=trH HB hbr;replace R3:=hide (R3.out.on hbr);replace R4:=hide (R4.out.on hbr);replace R6:=hide (R6.out.on hbr);replace HU:=unH HU hbr (by omega);replace HE:=unH HE hbr (by omega);replace RN:=hide (RN.out.on hbr);have hsz5:=hbr.size
  have q3_4:=cel R3.out 4 rfl
  have q4_0:=cel R4.out 0 rfl
  have q8_5:=cel RN.out 5 rfl
  have q8_0:=cel RN.out 0 rfl
  have HBR:=hide hbr;clear hbr hnone
  by_cases hlt:j < m1
  ·have hjm:(j:Int) < (m1:Int):=by omega
   by_cases hk:x.k=1
   rotate_left
   ·have hk1:(x.k==1)=false:=by simpa using hk
    have eFO:=HNL.out hk
    subst eFO
    go_wp2_with (first|(refine wpList_storeW rfl 95 (.tmp 6) (.tmp 53) rfl 3 entw_size (w.heap.size+1+1) 95 rfl [.int .i64 0,.int .i64 0,.string ⟨#[]⟩] (cellsE ent0) rfl R6.out rfl rfl (cellsE_one _) ?_;intro wS6 hr6 hg6 hs6;clear q3_4 q4_0 q8_5 q8_0;replace HB:=hide (HB.out.grown hg6 (by omega) (pu4 (by omega)));replace R3:=hide (R3.out.grown hg6 (pu5 (by omega)));replace R4:=hide (R4.out.grown hg6 (pu5 (by omega)));replace HU:=hide (und_grown HU.out hg6 (by omega) (by omega));replace HE:=hide (und_grown HE.out hg6 (by omega) (by omega));replace RN:=hide (RN.out.grown hg6 (pu5 (by omega)));have hsz7:=hg6.size;replace R6:=hide hr6;have q3_4:=cel R3.out 4 rfl;have q4_0:=cel R4.out 0 rfl;have q8_5:=cel RN.out 5 rfl;have q8_0:=cel RN.out 0 rfl;clear hr6 hg6 hs6))
    exact bodyPost_ret (res_cell2 Tryz.results42 rfl rfl entw_agg entw_size R6.out rfl) rfl ⟨rfl,HB.out⟩
   have hk1:(x.k==1)=true:=by simpa using hk
   obtain ⟨e,he⟩:∃e,x.ents[j]?=some e:=⟨_,List.getElem?_eq_getElem (by have:=HEM.out;omega)⟩;obtain ⟨bE,oE,rfl,hbE,hcE⟩:=ent_get HE.out he
   have hbE':bE < wr.heap.size:=by have:bE < B:=hbE;omega
   have HCE:=hide hcE;have HEJ:=hide he;obtain ⟨y,hy⟩:∃y,nodAt up e.ino=y:=⟨_,rfl⟩;have HY:=hide hy;obtain ⟨b2,hb2⟩:∃b2,(y.k != 0)=b2:=⟨_,rfl⟩;clear hcE he
   go_wp2_with fail
   clear q3_4 q4_0 q8_5 q8_0
   by_cases hnm:e.name=nm
   rotate_left
   ·have HU2:=hide (show useB up nm e=false from by unfold useB;simp [hnm])
    have hnb1:(e.name==nm)=false:=by simpa using hnm
    have hnb3:¬({data:=e.name.toArray}:ByteArray)={data:=nm.toArray}:=by simpa using hnm
    clear hy hb2;refine wp_region_planN (fun w'=>Below wr.heap.size wr w') [(0,true),(1,true),(2,true),(3,true),(4,true),(5,true),(6,true),(7,true),(8,true),(9,true),(10,true),(11,true),(12,true),(13,true),(14,true),(15,true),(16,true),(17,false),(18,true),(19,true),(20,true)] (by kernel_rfl) (by kernel_rfl) (by kernel_rfl) (by kernel_rfl) rfl (fun _ _ _ _ _ h=>h) (below_drew (below_self wr)) (fun hHh=>?_);simp only [planOps,List.filterMap_cons,List.filterMap_nil,List.getElem?_toArray,List.getElem?_cons_succ,List.getElem?_cons_zero,Option.map_some];refine wpPlan_take (v:=?_) (by kernel_rfl) (fun wS hSw=>?_) ?_;rotate_left
    ·(try dsimp only at hSw);go_simp;(try with_reducible rfl)
    (try simp only [Act.put,pu1,pu2,pu3]);refine wpPlan_take (v:=?_) (by kernel_rfl) (fun wS hSw=>?_) ?_;rotate_left
    ·have qx:=((RN.out.on hSw).cell 5).trans (show (nodC x (.slice A1 n1 c1) (.slice (some ⟨bE,oE,none⟩) m1 d1))[5]?=some (.slice (some ⟨bE,oE,none⟩) m1 d1) from rfl);go_simp;(try with_reducible rfl)
    (try simp only [Act.put,pu1,pu2,pu3])
    iterate 3
     refine wpPlan_take (v:=?_) (by kernel_rfl) (fun wS hSw=>?_) ?_;rotate_left
     ·(try dsimp only at hSw);go_simp;(try with_reducible rfl)
     (try simp only [Act.put,pu1,pu2,pu3])
    refine wpPlan_take (v:=?_) (by kernel_rfl) (fun wS hSw=>?_) ?_;rotate_left
    ·have qx:=(hSw.cell (p:=⟨bE,oE+j*3+2,none⟩) hbE').trans (HCE.out 2 _ rfl);go_simp;(try with_reducible rfl)
    (try simp only [Act.put,pu1,pu2,pu3])
    iterate 3
     refine wpPlan_take (v:=?_) (by kernel_rfl) (fun wS hSw=>?_) ?_;rotate_left
     ·(try dsimp only at hSw);go_simp;(try with_reducible rfl)
     (try simp only [Act.put,pu1,pu2,pu3])
    refine wpPlan_skip (by kernel_rfl) ?_;(try simp only [Act.put,pu1,pu2,pu3]);refine wpPlan_skip (by kernel_rfl) ?_;(try simp only [Act.put,pu1,pu2,pu3]);refine wpPlan_skip (by kernel_rfl) ?_;(try simp only [Act.put,pu1,pu2,pu3]);refine wpPlan_skip (by kernel_rfl) ?_;(try simp only [Act.put,pu1,pu2,pu3]);refine wpPlan_skip (by kernel_rfl) ?_;(try simp only [Act.put,pu1,pu2,pu3]);refine wpPlan_skip (by kernel_rfl) ?_;(try simp only [Act.put,pu1,pu2,pu3]);refine wpPlan_skip (by kernel_rfl) ?_;(try simp only [Act.put,pu1,pu2,pu3]);refine wpPlan_skip (by kernel_rfl) ?_;(try simp only [Act.put,pu1,pu2,pu3]);refine wpPlan_skip (by kernel_rfl) ?_;(try simp only [Act.put,pu1,pu2,pu3]);refine wpPlan_skip (by kernel_rfl) ?_;(try simp only [Act.put,pu1,pu2,pu3]);refine wpPlan_skip (by kernel_rfl) ?_;(try simp only [Act.put,pu1,pu2,pu3]);refine wpPlan_take (v:=?_) (by kernel_rfl) (fun wS hSw=>?_) ?_;rotate_left
    ·(try dsimp only at hSw);go_simp;(try with_reducible rfl)
    (try simp only [Act.put,pu1,pu2,pu3]);refine wpPlan_end ?_;have HBX:=hide (HBR.out.trans (hHh.mono HBR.out.size));clear hHh
    go_wp2_with fail
    go_roundw
    case rel=>exact ⟨j+1,by omega,by go_num,HBX.out,find_take_none HN.out HEJ.out HU2.out⟩
    case measure=>simp [intOf];omega
   have HU2:=hide (show useB up nm e=b2 from by
    rw [←hb2,←hy];unfold useB
    by_cases hk0:(nodAt up e.ino).k=0 <;> simp [hk0,hnm])
   subst hnm
   have hee:(e.name==e.name)=true:=by simp
   clear hy
   cases b2
   ·skip
    refine wp_region_planN (fun w'=>Below wr.heap.size wr w') [(0,true),(1,true),(2,true),(3,true),(4,true),(5,true),(6,true),(7,true),(8,true),(9,true),(10,true),(11,true),(12,true),(13,true),(14,true),(15,true),(16,true),(17,false),(18,true),(19,true),(20,true)] (by kernel_rfl) (by kernel_rfl) (by kernel_rfl) (by kernel_rfl) rfl (fun _ _ _ _ _ h=>h) (below_drew (below_self wr)) (fun hHh=>?_);simp only [planOps,List.filterMap_cons,List.filterMap_nil,List.getElem?_toArray,List.getElem?_cons_succ,List.getElem?_cons_zero,Option.map_some];refine wpPlan_take (v:=?_) (by kernel_rfl) (fun wS hSw=>?_) ?_;rotate_left
    ·(try dsimp only at hSw);go_simp;(try with_reducible rfl)
    (try simp only [Act.put,pu1,pu2,pu3]);refine wpPlan_take (v:=?_) (by kernel_rfl) (fun wS hSw=>?_) ?_;rotate_left
    ·have qx:=((RN.out.on hSw).cell 5).trans (show (nodC x (.slice A1 n1 c1) (.slice (some ⟨bE,oE,none⟩) m1 d1))[5]?=some (.slice (some ⟨bE,oE,none⟩) m1 d1) from rfl);go_simp;(try with_reducible rfl)
    (try simp only [Act.put,pu1,pu2,pu3])
    iterate 3
     refine wpPlan_take (v:=?_) (by kernel_rfl) (fun wS hSw=>?_) ?_;rotate_left
     ·(try dsimp only at hSw);go_simp;(try with_reducible rfl)
     (try simp only [Act.put,pu1,pu2,pu3])
    refine wpPlan_take (v:=?_) (by kernel_rfl) (fun wS hSw=>?_) ?_;rotate_left
    ·have qx:=(hSw.cell (p:=⟨bE,oE+j*3+2,none⟩) hbE').trans (HCE.out 2 _ rfl);go_simp;(try with_reducible rfl)
    (try simp only [Act.put,pu1,pu2,pu3])
    iterate 4
     refine wpPlan_take (v:=?_) (by kernel_rfl) (fun wS hSw=>?_) ?_;rotate_left
     ·(try dsimp only at hSw);go_simp;(try with_reducible rfl)
     (try simp only [Act.put,pu1,pu2,pu3])
    refine wpPlan_take (v:=?_) (by kernel_rfl) (fun wS hSw=>?_) ?_;rotate_left
    ·have qx:=((R3.out.on hSw).cell 4).trans (show (stkC g (.slice AU nU cU) (.slice AL nL cL))[4]?=some (.slice AU nU cU) from rfl);go_simp;(try with_reducible rfl)
    (try simp only [Act.put,pu1,pu2,pu3]);refine wpPlan_take (v:=?_) (by kernel_rfl) (fun wS hSw=>?_) ?_;rotate_left
    ·(try dsimp only at hSw);go_simp;(try with_reducible rfl)
    (try simp only [Act.put,pu1,pu2,pu3]);refine wpPlan_take (v:=?_) (by kernel_rfl) (fun wS hSw=>?_) ?_;rotate_left
    ·have qx:=((RN.out.on hSw).cell 5).trans (show (nodC x (.slice A1 n1 c1) (.slice (some ⟨bE,oE,none⟩) m1 d1))[5]?=some (.slice (some ⟨bE,oE,none⟩) m1 d1) from rfl);go_simp;(try with_reducible rfl)
    (try simp only [Act.put,pu1,pu2,pu3])
    iterate 3
     refine wpPlan_take (v:=?_) (by kernel_rfl) (fun wS hSw=>?_) ?_;rotate_left
     ·(try dsimp only at hSw);go_simp;(try with_reducible rfl)
     (try simp only [Act.put,pu1,pu2,pu3])
    refine wpPlan_take (v:=?_) (by kernel_rfl) (fun wS hSw=>?_) ?_;rotate_left
    ·have qx:=(hSw.cell (p:=⟨bE,oE+j*3+1,none⟩) hbE').trans (HCE.out 1 _ rfl);go_simp;(try with_reducible rfl)
    (try simp only [Act.put,pu1,pu2,pu3]);refine wpPlan_call (by kernel_rfl) (fun K hK=>?_);have hOh:=hide hHh;clear hHh
    go_simp
    go_at_call 61
    refine (At_e HY.out (B:=B) _ (HU.out.under hOh.out (by omega)) (by have:=hOh.out.size;omega) (by have:=HFU.out.1;omega)).mono ?_
    rintro e w' ⟨A9,n9,c9,C9,m9,d9,rfl,-,-,-,-,hbel⟩
    have hf0:=nod_f0 y (.slice A9 n9 c9) (.slice C9 m9 d9);refine hK.out _ _ (hOh.out.trans (hbel.mono hOh.out.size)) (fun hHh=>?_);clear hK K;(try simp only [Act.put,pu1,pu2,pu3])
    iterate 3
     refine wpPlan_take (v:=?_) (by kernel_rfl) (fun wS hSw=>?_) ?_;rotate_left
     ·(try dsimp only at hSw);go_simp;(try with_reducible rfl)
     (try simp only [Act.put,pu1,pu2,pu3])
    refine wpPlan_end ?_;have HBX:=hide (HBR.out.trans (hHh.mono HBR.out.size));clear hHh
    go_wp2_with fail
    go_roundw
    case rel=>exact ⟨j+1,by omega,by go_num,HBX.out,find_take_none HN.out HEJ.out HU2.out⟩
    case measure=>simp [intOf];omega
   ·skip
    refine wp_region_planN (fun w'=>Below wr.heap.size wr w') [(0,true),(1,true),(2,true),(3,true),(4,true),(5,true),(6,true),(7,true),(8,true),(9,true),(10,true),(11,true),(12,true),(13,true),(14,true),(15,true),(16,true),(17,false),(18,true),(19,true),(20,true)] (by kernel_rfl) (by kernel_rfl) (by kernel_rfl) (by kernel_rfl) rfl (fun _ _ _ _ _ h=>h) (below_drew (below_self wr)) (fun hHh=>?_);simp only [planOps,List.filterMap_cons,List.filterMap_nil,List.getElem?_toArray,List.getElem?_cons_succ,List.getElem?_cons_zero,Option.map_some];refine wpPlan_take (v:=?_) (by kernel_rfl) (fun wS hSw=>?_) ?_;rotate_left
    ·(try dsimp only at hSw);go_simp;(try with_reducible rfl)
    (try simp only [Act.put,pu1,pu2,pu3]);refine wpPlan_take (v:=?_) (by kernel_rfl) (fun wS hSw=>?_) ?_;rotate_left
    ·have qx:=((RN.out.on hSw).cell 5).trans (show (nodC x (.slice A1 n1 c1) (.slice (some ⟨bE,oE,none⟩) m1 d1))[5]?=some (.slice (some ⟨bE,oE,none⟩) m1 d1) from rfl);go_simp;(try with_reducible rfl)
    (try simp only [Act.put,pu1,pu2,pu3])
    iterate 3
     refine wpPlan_take (v:=?_) (by kernel_rfl) (fun wS hSw=>?_) ?_;rotate_left
     ·(try dsimp only at hSw);go_simp;(try with_reducible rfl)
     (try simp only [Act.put,pu1,pu2,pu3])
    refine wpPlan_take (v:=?_) (by kernel_rfl) (fun wS hSw=>?_) ?_;rotate_left
    ·have qx:=(hSw.cell (p:=⟨bE,oE+j*3+2,none⟩) hbE').trans (HCE.out 2 _ rfl);go_simp;(try with_reducible rfl)
    (try simp only [Act.put,pu1,pu2,pu3])
    iterate 4
     refine wpPlan_take (v:=?_) (by kernel_rfl) (fun wS hSw=>?_) ?_;rotate_left
     ·(try dsimp only at hSw);go_simp;(try with_reducible rfl)
     (try simp only [Act.put,pu1,pu2,pu3])
    refine wpPlan_take (v:=?_) (by kernel_rfl) (fun wS hSw=>?_) ?_;rotate_left
    ·have qx:=((R3.out.on hSw).cell 4).trans (show (stkC g (.slice AU nU cU) (.slice AL nL cL))[4]?=some (.slice AU nU cU) from rfl);go_simp;(try with_reducible rfl)
    (try simp only [Act.put,pu1,pu2,pu3]);refine wpPlan_take (v:=?_) (by kernel_rfl) (fun wS hSw=>?_) ?_;rotate_left
    ·(try dsimp only at hSw);go_simp;(try with_reducible rfl)
    (try simp only [Act.put,pu1,pu2,pu3]);refine wpPlan_take (v:=?_) (by kernel_rfl) (fun wS hSw=>?_) ?_;rotate_left
    ·have qx:=((RN.out.on hSw).cell 5).trans (show (nodC x (.slice A1 n1 c1) (.slice (some ⟨bE,oE,none⟩) m1 d1))[5]?=some (.slice (some ⟨bE,oE,none⟩) m1 d1) from rfl);go_simp;(try with_reducible rfl)
    (try simp only [Act.put,pu1,pu2,pu3])
    iterate 3
     refine wpPlan_take (v:=?_) (by kernel_rfl) (fun wS hSw=>?_) ?_;rotate_left
     ·(try dsimp only at hSw);go_simp;(try with_reducible rfl)
     (try simp only [Act.put,pu1,pu2,pu3])
    refine wpPlan_take (v:=?_) (by kernel_rfl) (fun wS hSw=>?_) ?_;rotate_left
    ·have qx:=(hSw.cell (p:=⟨bE,oE+j*3+1,none⟩) hbE').trans (HCE.out 1 _ rfl);go_simp;(try with_reducible rfl)
    (try simp only [Act.put,pu1,pu2,pu3]);refine wpPlan_call (by kernel_rfl) (fun K hK=>?_);have hOh:=hide hHh;clear hHh
    go_simp
    go_at_call 61
    refine (At_e HY.out (B:=B) _ (HU.out.under hOh.out (by omega)) (by have:=hOh.out.size;omega) (by have:=HFU.out.1;omega)).mono ?_
    rintro e w' ⟨A9,n9,c9,C9,m9,d9,rfl,-,-,-,-,hbel⟩
    have hf0:=nod_f0 y (.slice A9 n9 c9) (.slice C9 m9 d9);refine hK.out _ _ (hOh.out.trans (hbel.mono hOh.out.size)) (fun hHh=>?_);clear hK K;(try simp only [Act.put,pu1,pu2,pu3])
    iterate 3
     refine wpPlan_take (v:=?_) (by kernel_rfl) (fun wS hSw=>?_) ?_;rotate_left
     ·(try dsimp only at hSw);go_simp;(try with_reducible rfl)
     (try simp only [Act.put,pu1,pu2,pu3])
    refine wpPlan_end ?_
    have eFO:FO=some e:=by
     rw [←HFO.out];unfold firstB;rw [HEL.out hk,find_take_some HN.out HEJ.out HU2.out]
    subst eFO;replace HCE:=hide (fun (j':Nat) (v:Value) (hv:(cellsE e)[j']?=some v)=>(hHh.cell (p:=⟨bE,oE+j*3+j',none⟩) hbE').trans (HCE.out j' v hv));replace HB:=trH HB hHh;replace R3:=hide (R3.out.on hHh);replace R4:=hide (R4.out.on hHh);replace R6:=hide (R6.out.on hHh);replace HU:=unH HU hHh (by omega);replace HE:=unH HE hHh (by omega);replace RN:=hide (RN.out.on hHh);have hsz6:=hHh.size
    have q3_4:=cel R3.out 4 rfl
    have q4_0:=cel R4.out 0 rfl
    have q8_5:=cel RN.out 5 rfl
    have q8_0:=cel RN.out 0 rfl
    clear hHh
    go_wp2_with (first|(refine wpList_loadX rfl 95 (.tmp 51) rfl 3 entw_agg entw_size bE (oE+j*3) rfl (cellsE e) HCE.out rfl ?_)|(refine wpList_storeW rfl 95 (.tmp 6) (.tmp 52) rfl 3 entw_size (w.heap.size+1+1) 95 rfl [.int .i64 0,.int .i64 0,.string ⟨#[]⟩] (cellsE e) rfl R6.out rfl rfl (cellsE_one _) ?_;intro wS7 hr7 hg7 hs7;clear q3_4 q4_0 q8_5 q8_0;replace HB:=hide (HB.out.grown hg7 (by omega) (pu4 (by omega)));replace R3:=hide (R3.out.grown hg7 (pu5 (by omega)));replace R4:=hide (R4.out.grown hg7 (pu5 (by omega)));replace HU:=hide (und_grown HU.out hg7 (by omega) (by omega));replace HE:=hide (und_grown HE.out hg7 (by omega) (by omega));replace RN:=hide (RN.out.grown hg7 (pu5 (by omega)));have hsz8:=hg7.size;replace R6:=hide hr7;have q3_4:=cel R3.out 4 rfl;have q4_0:=cel R4.out 0 rfl;have q8_5:=cel RN.out 5 rfl;have q8_0:=cel RN.out 0 rfl;clear hr7 hg7 hs7))
    exact bodyPost_ret (res_cell2 Tryz.results42 rfl rfl entw_agg entw_size R6.out rfl) rfl ⟨rfl,HB.out⟩
  ·obtain rfl:m1=j:=by omega
   have hjj:¬(m1:Int) < (m1:Int):=by omega
   have eFO:FO=none:=by
    by_cases hk:x.k=1
    ·rw [←HFO.out]
     unfold firstB;have h1:=HN.out;rw [List.take_of_length_le (by have:=HEM.out;omega)] at h1;rw [HEL.out hk,h1]
    ·exact HNL.out hk
   subst eFO
   go_wp2_with (first|(refine wpList_storeW rfl 95 (.tmp 6) (.tmp 53) rfl 3 entw_size (w.heap.size+1+1) 95 rfl [.int .i64 0,.int .i64 0,.string ⟨#[]⟩] (cellsE ent0) rfl R6.out rfl rfl (cellsE_one _) ?_;intro wS6 hr6 hg6 hs6;clear q3_4 q4_0 q8_5 q8_0;replace HB:=hide (HB.out.grown hg6 (by omega) (pu4 (by omega)));replace R3:=hide (R3.out.grown hg6 (pu5 (by omega)));replace R4:=hide (R4.out.grown hg6 (pu5 (by omega)));replace HU:=hide (und_grown HU.out hg6 (by omega) (by omega));replace HE:=hide (und_grown HE.out hg6 (by omega) (by omega));replace RN:=hide (RN.out.grown hg6 (pu5 (by omega)));have hsz7:=hg6.size;replace R6:=hide hr6;have q3_4:=cel R3.out 4 rfl;have q4_0:=cel R4.out 0 rfl;have q8_5:=cel RN.out 5 rfl;have q8_0:=cel RN.out 0 rfl;clear hr6 hg6 hs6))
   exact bodyPost_ret (res_cell2 Tryz.results42 rfl rfl entw_agg entw_size R6.out rfl) rfl ⟨rfl,HB.out⟩
theorem REnt17_e {g:GeoQ} {AU AL:Option Addr} {nU cU nL cL B:Nat} {up:List NodV} {u:Int} {AV:Option Addr} {nV cV:Nat} {nm:List UInt8} {E:EntV} {b:Bool} (hE:entO (firstB up u nm)=E) (hb:(firstB up u nm).isSome=b) (w:World) (hu:RdE nodEn w (Under B) AU nU up) (hB:B≤w.heap.size) (hup:FewU up):Calls Tryz.prog 42 #[.agg (stkC g (.slice AU nU cU) (.slice AL nL cL)).toArray,.agg (viwC u (.slice AV nV cV)).toArray,.string ⟨nm.toArray⟩] w (fun e w'=>e=.returned (.tuple #[.agg (cellsE E).toArray,.bool b])∧Below w.heap.size w w'):=by
 subst hE hb;exact REnt17_any w hu hB hup
end Go.Proofs.YtggnbflbbfdohaaGreat

