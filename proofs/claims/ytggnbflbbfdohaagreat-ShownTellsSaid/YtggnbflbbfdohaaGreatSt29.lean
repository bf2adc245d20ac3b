import Derived.Test.YtggnbflbbfdohaaGreatSt26
import Derived.Test.YtggnbflbbfdohaaGreatSt28

namespace Go.Proofs.YtggnbflbbfdohaaGreat
open Go.RowKit Go.Shelf Plain

set_option maxRecDepth 100000 in
set_option maxHeartbeats 16000000 in
theorem RVNames_any {g:GeoQ} {AU AL:Option Addr} {nU cU nL cL B:Nat} {up:List NodV} {ls:List (List NodV)} {u:Int} {AV:Option Addr} {nV cV BV:Nat} {vl:List (Int×Int)} (w:World) (hu:RdE nodEn w (Under B) AU nU up) (h:RdE layEn w (Under B) AL nL ls) (hB:B≤w.heap.size) (hF:FewL ls) (hup:FewU up) (hv:RdE prEn w (Under BV) AV nV vl) (hBV:BV≤w.heap.size) (hnV:nV≤1000):Calls Tryz.prog 41 #[.agg (stkC g (.slice AU nU cU) (.slice AL nL cL)).toArray,.agg (viwC u (.slice AV nV cV)).toArray] w (NamesO w (namesV up ls (u,vl))):=by
 obtain ⟨W1,hW1⟩:∃W1,((w.alloc (.cells (stkC g (.slice AU nU cU) (.slice AL nL cL)).toArray 29)).alloc (.cells (viwC u (.slice AV nV cV)).toArray 80))=W1:=⟨_,rfl⟩;obtain ⟨r0,r1,hb1,hs1⟩:=rowA2 w _ _ _ _ hW1;have hW1':((w.alloc (.cells #[.int .i64 g.a,.int .i64 g.b,.int .i64 g.c,.int .i64 g.d,.slice AU nU cU,.slice AL nL cL] 29)).alloc (.cells #[.int .i64 u,.slice AV nV cV] 80))=W1:=hW1;have R2:=hide r0;have R3:=hide r1;have HB:=hide hb1;have hsz0:=hb1.size;have HU:=hide (hu.under hb1 hB);have HL:=hide (h.under hb1 hB);have HF:=hide hF;have HFU:=hide hup;have HV:=hide (hv.under hb1 hBV);obtain ⟨N,hN⟩:∃N,nodAt up u=N:=⟨_,rfl⟩;obtain ⟨EL,hEL⟩:∃EL,entB up u=EL:=⟨_,rfl⟩
 have hel:EL.length≤16:=by rw [←hEL];exact entB_len hup.2 u
 have hel2:N.ents.length≤16:=by rw [←hN];exact (nodAt_plain hup.2 u).2.2.2.2.1
 have hELN:EL=if N.k=1 then N.ents else []:=by rw [←hEL];unfold entB;rw [hN]
 have hnl:(namesL ls vl).length≤16000:=by have h1:(namesL ls vl).length≤16*vl.length:=Nat.le_trans (List.length_filter_le _ _) (Nat.le_trans (sortS_length _) (allN_len hF vl));have h2:=hv.1;omega
 have HAV:=hide (show allV up ls (u,vl)=namesL ls vl++EL.map EntV.name from by unfold allV;rw [←hEL]);obtain ⟨bk,hbk⟩:∃bk,(N.k==1)=bk:=⟨_,rfl⟩
 have HELB:=hide (show EL=if bk=true then N.ents else [] from by
  rw [hELN,←hbk]
  by_cases hk:N.k=1 <;> simp [hk])
 have HN:=hide hN
 have q3_1:=cel R3.out 1 rfl
 have q2_4:=cel R2.out 4 rfl
 have q3_0:=cel R3.out 0 rfl
 unfold stkC viwC;clear r0 r1 hb1 hW1 hu h hF hup hv hN hEL hELN
 go_enter Tryz.func41,Tryz.ntmps41
 go_wp2_with (first|(refine wpList_loadW rfl 29 (.tmp 2) rfl 6 stk_agg stk_size (w.heap.size) 29 rfl (stkC g (.slice AU nU cU) (.slice AL nL cL)) R2.out rfl ?_)|(go_at_call 78;refine (RNames_o W1 (und_up HL.out (by omega)) (und_up HV.out (by omega)) HF.out hnV).mono ?_;rintro e1 wN ⟨A5,n5,c5,rfl,h5,hbel⟩;clear q3_1 q2_4 q3_0;replace HB:=trH HB hbel;replace R2:=hide (R2.out.on hbel);replace R3:=hide (R3.out.on hbel);replace HU:=unH HU hbel (by omega);replace HL:=unH HL hbel (by omega);replace HV:=unH HV hbel (by omega);have hsz2:=hbel.size;have q3_1:=cel R3.out 1 rfl;have q2_4:=cel R2.out 4 rfl;have q3_0:=cel R3.out 0 rfl;have HO5:=hide h5;clear h5;clear hbel)|(go_at_call 61;refine (At_e HN.out wN HU.out (by omega) (by have:=HFU.out.1;omega)).mono ?_;rintro e3 wA ⟨A1,n1,c1,C1,m1,d1,rfl,-,-,-,hE,hbel⟩;clear q3_1 q2_4 q3_0;replace HB:=trH HB hbel;replace R2:=hide (R2.out.on hbel);replace R3:=hide (R3.out.on hbel);replace HU:=unH HU hbel (by omega);replace HL:=unH HL hbel (by omega);replace HV:=unH HV hbel (by omega);replace HO5:=hide (HO5.out.below hbel);have hsz4:=hbel.size;have q3_1:=cel R3.out 1 rfl;have q2_4:=cel R2.out 4 rfl;have q3_0:=cel R3.out 0 rfl;have HE:=hide hE;clear hE;clear hbel)|(refine wpList_storeW rfl 65 (.tmp 6) (.tmp 21) rfl 13 nod_size (wA.heap.size) 65 rfl (nodC nod0 (.slice none 0 0) (.slice none 0 0)) (nodC N (.slice A1 n1 c1) (.slice C1 m1 d1)) rfl (RowL.new wA 65 (nodC nod0 (.slice none 0 0) (.slice none 0 0))) rfl rfl (nodC_one _ _ _ _ _ _ _) ?_;intro wS5 hr5 hg5 hs5;have hzb:=below_stored' hg5;clear q3_1 q2_4 q3_0;replace HB:=trH HB hzb;replace R2:=hide (R2.out.on hzb);replace R3:=hide (R3.out.on hzb);replace HU:=unH HU hzb (by omega);replace HL:=unH HL hzb (by omega);replace HV:=unH HV hzb (by omega);replace HO5:=hide (HO5.out.below hzb);replace HE:=unH HE hzb (by omega);have hsz6:=hzb.size;have q3_1:=cel R3.out 1 rfl;have q2_4:=cel R2.out 4 rfl;have q3_0:=cel R3.out 0 rfl;have RN:=hide hr5;have hlt5:=hr5.lt;have q6_5:=cel RN.out 5 rfl;have q6_0:=cel RN.out 0 rfl;clear hzb hr5;clear hg5 hs5))
 have hn5:n5≤16000:=by rw [←HO5.out.rd.len];exact hnl
 have HEM:=hide HE.out.1
 have hm16:m1≤16:=by have:=HEM.out;omega
 have hWc:W1.heap.size≤wS5.heap.size:=by omega
 have hW1w:w.heap.size≤W1.heap.size:=hsz0
 have hEm:EL.length≤m1:=by have:=HEM.out;rw [HELB.out];cases bk <;> simp <;> omega
 clear hW1' q3_1 q2_4 q3_0 q6_5 q6_0 hnl
 go_loopw [5,7] (fun v5 v7 wr=>∃(i n6:Nat) (A6:Option Addr) (c6:Nat),i≤EL.length∧v7=.int .i64 i∧v5=.slice A6 n6 c6∧n6≤n5+i∧Ow st wr W1.heap.size 9 A6 n6 c6 (namesL ls vl++(EL.take i).map EntV.name)∧Below W1.heap.size wS5 wr∧RowL wr (wA.heap.size) 65 (nodC N (.slice A1 n1 c1) (.slice C1 m1 d1))) (fun _ v7 _=>m1 - (intOf v7).toNat)
 case atStart=>exact ⟨0,n5,A5,c5,by omega,rfl,rfl,by omega,by simpa using HO5.out,Below.refl _ _,RN.out⟩
 case round =>
  rename World=>wo
  obtain ⟨i,n6,A6,c6,hi,rfl,rfl,hn6,ho6,hbr,hri⟩:=hrel;have HO6:=hide ho6;have HBR:=hide hbr;have HRI:=hide hri;have hbsz:=hbr.size
  have qs:wo.cell? ⟨wA.heap.size,5,none⟩=some (.slice C1 m1 d1):=hri.cell 5
  have qk:wo.cell? ⟨wA.heap.size,0,none⟩=some (.int .i64 N.k):=hri.cell 0
  have hE6:=HE.out.mono (fun b hb=>HBR.out.block b (Nat.lt_of_lt_of_le hb (by omega))) (fun _ h=>h);have HE6:=hide (hE6:RdE entEn wo (Under B) C1 m1 N.ents);clear ho6 hbr hri hE6
  by_cases hlt2:i < EL.length
  ·obtain rfl:bk=true:=by
    cases bk with
    | true=>rfl
    | false=>rw [HELB.out] at hlt2;simp at hlt2
   have hELe:EL=N.ents:=by rw [HELB.out];simp
   obtain ⟨e,he⟩:∃e,EL[i]?=some e:=⟨_,List.getElem?_eq_getElem hlt2⟩
   have he2:N.ents[i]?=some e:=by rw [←hELe];exact he
   have hi1:i < m1:=by omega
   obtain ⟨bE,oE,rfl,hbE,hcE⟩:=ent_get HE6.out he2
   have qn:wo.cell? ⟨bE,oE+i*3+2,none⟩=some (.string ⟨e.name.toArray⟩):=hcE 2 _ rfl
   have HNS:=hide (names_snoc he (namesL ls vl))
   have him:(i:Int) < (m1:Int):=by omega
   clear he he2 hcE hELe
   go_wp2_with (at_builtin;refine wpList_append_Rd' (f:=st) _ rfl (.tmp 34) (.tmp 41) 41 rfl W1.heap.size 9 _ 16 Tryz.underlying41 info_st rfl (fun _=>rfl) A6 n6 c6 _ rfl (HO6.out.below (below_new (below_self wo) _)) _ _ 1 1 [e.name] rfl (Rd.one _ _ rfl) (n6+1) rfl (by omega) (by omega) (by simp;omega) ?_;intro A7 c7 w9 ho9 hb9 hg9;have HO9:=hide ho9;have hs9:=hb9.size;have HB9:=hide ((HBR.out.alloc (by omega) _).trans hb9);have hba:=below_new (below_self wo) (.cells #[.string ⟨e.name.toArray⟩] 9);have HR9:=hide ((HRI.out.on hba).grown hg9 (row_apart (HO6.out.below hba) (HRI.out.on hba) (by decide)));clear ho9 hb9 hg9 hba)
   go_roundw
   case rel=>exact ⟨i+1,n6+1,A7,c7,by omega,by go_num,rfl,by omega,by rw [HNS.out];exact HO9.out,HB9.out,HR9.out⟩
   case measure=>simp [intOf];omega
  ·obtain rfl:i=EL.length:=by omega
   cases bk with
   | true =>
    have hELe:EL.length=m1:=by rw [←HEM.out,HELB.out];simp
    have hnlt:¬((EL.length:Int) < (m1:Int)):=by omega
    have ho:Ow st wo W1.heap.size 9 A6 n6 c6 (allV up ls (u,vl)):=by
     have:=HO6.out
     rw [List.take_of_length_le (l:=EL) (i:=EL.length) (Nat.le_refl _)] at this;rw [HAV.out];exact this
    have hk1:∀b,b < W1.heap.size→wo.heap[b]?=wS5.heap[b]?:=fun b hb=>HBR.out.block b hb;replace HB:=hide (HB.out.trans (HBR.out.mono hW1w));replace R2:=hide (show RowL wo w.heap.size _ _ from (hk1 _ (by omega)).trans R2.out);replace R3:=hide (show RowL wo (w.heap.size+1) _ _ from (hk1 _ (by omega)).trans R3.out);replace HU:=hide (HU.out.mono (fun b hb=>hk1 b (Nat.lt_of_lt_of_le hb (by omega))) (fun _ h=>h):RdE nodEn wo (Under B) AU nU up);replace HL:=hide (HL.out.mono (fun b hb=>hk1 b (Nat.lt_of_lt_of_le hb (by omega))) (fun _ h=>h):RdE layEn wo (Under B) AL nL ls);replace HV:=hide (HV.out.mono (fun b hb=>hk1 b (Nat.lt_of_lt_of_le hb (by omega))) (fun _ h=>h):RdE prEn wo (Under BV) AV nV vl)
    have hna:n6≤20000:=by omega
    obtain ⟨X,hX⟩:∃X,allV up ls (u,vl)=X:=⟨_,rfl⟩;have HNV:=hide (show namesV up ls (u,vl)=sortS (X.filter (fun x=>!hidV up ls (u,vl) x)) from by unfold namesV;rw [sort_filter,hX]);rw [hX] at ho;have HXL:=hide ho.rd.len;have HX:=hide ho.rd;have HO0:=hide (show Ow st (wo.alloc (.cells #[] 9)) wo.heap.size 9 (some ⟨wo.heap.size,0,none⟩) 0 0 [] from own_lit0 wo 9 1 (base:=wo.heap.size) rfl (Nat.le_refl _));have HW0:=hide (below_new (below_self wo) (.cells #[] 9));clear ho hk1 HE HO6 HRI hX
    go_wp2_with fail
    go_loopw [8,9] (fun v8 v9 wr=>∃(j n8:Nat) (A8:Option Addr) (c8:Nat),j≤n6∧v9=.int .i64 j∧v8=.slice A8 n8 c8∧n8≤j∧Ow st wr wo.heap.size 9 A8 n8 c8 ((X.take j).filter (fun x=>!hidV up ls (u,vl) x))∧Below wo.heap.size wo wr) (fun _ v9 _=>n6 - (intOf v9).toNat)
    case atStart=>exact ⟨0,0,_,0,by omega,rfl,rfl,by omega,HO0.out,HW0.out⟩
    case round =>
     obtain ⟨j,n8,A8,c8,hj,rfl,rfl,hn8,ho8,hbr8⟩:=hrel;have HO8:=hide ho8;have HBQ:=hide hbr8;have hbq:=hbr8.size;have R2q:=hide (R2.out.on hbr8);have R3q:=hide (R3.out.on hbr8);have HUq:=hide (HU.out.under hbr8 (by omega));have HLq:=hide (HL.out.under hbr8 (by omega));have HVq:=hide (HV.out.under hbr8 (by omega));clear ho8
     by_cases hlt3:j < n6
     ·obtain ⟨nm,hnm⟩:∃nm,X[j]?=some nm:=⟨_,List.getElem?_eq_getElem (by have:=HXL.out;omega)⟩
      obtain ⟨bN,oN,hA6,hbN,hcN⟩:=HX.out.2 (by omega);have hcn:=hcN j nm hnm;have HNM:=hide (fun W (hb:Below wr.heap.size wr W)=>show W.cell? ⟨bN,oN+j,none⟩=some (.string ⟨nm.toArray⟩) from (hb.cell (p:=⟨bN,oN+j,none⟩) (show bN < wr.heap.size by omega)).trans ((hbr8.cell (p:=⟨bN,oN+j,none⟩) hbN).trans hcn));have hqn:wr.cell? ⟨bN,oN+j,none⟩=some (.string ⟨nm.toArray⟩):=HNM.out wr (Below.refl _ _);obtain ⟨S,hS⟩:∃S,stepV up ls (u,vl) nm=S:=⟨_,rfl⟩;obtain ⟨b2,hb2⟩:∃b2,(S.1 != 0)=b2:=⟨_,rfl⟩
      have HKS:=hide (show (X.take (j+1)).filter (fun x=>!hidV up ls (u,vl) x)=if b2=true then (X.take j).filter (fun x=>!hidV up ls (u,vl) x)++[nm] else (X.take j).filter (fun x=>!hidV up ls (u,vl) x) from by
       rw [List.take_add_one,hnm,Option.toList_some,List.filter_append]
       have:(!hidV up ls (u,vl) nm)=b2:=by unfold hidV;rw [hS,←hb2];by_cases hk:S.1=0 <;> simp [hk]
       cases b2 <;> simp [this])
      have HS:=hide hS;subst hA6
      have hj6:(j:Int) < (n6:Int):=by omega
      clear hnm hcN hcn hS hbr8
      go_upto_region 11 with fail
      go_cut [10] from 50 to 60 (fun v10 wx=>v10=.int .i64 S.1∧Below wr.heap.size wr wx)
      case first =>
       refine wp_region_G (fun w'=>Below (wr.heap.size) wr w') (.take 0 (.take 1 (.take 2 (.take 3 (.take 4 (.take 5 (.alt 6 (.take 7 (.take 8 (.take 9 (.take 10 (.alt 11 (.alt 12 (.take 13 (.alt 14 (.alt 15 .leaf .stop) .stop)) .stop) (.alt 12 (.alt 11 (.take 13 (.alt 14 (.alt 15 .leaf .stop) .stop)) .stop) .stop)))))) (.alt 11 (.alt 6 (.take 7 (.take 8 (.take 9 (.take 10 (.alt 12 (.take 13 (.alt 14 (.alt 15 .leaf .stop) .stop)) .stop))))) (.alt 12 (.alt 6 (.take 7 (.take 8 (.take 9 (.take 10 (.take 13 (.alt 14 (.alt 15 .leaf .stop) .stop)))))) .stop) .stop)) (.alt 12 (.alt 6 (.take 7 (.take 8 (.take 9 (.take 10 (.alt 11 (.take 13 (.alt 14 (.alt 15 .leaf .stop) .stop)) .stop))))) (.alt 11 (.alt 6 (.take 7 (.take 8 (.take 9 (.take 10 (.take 13 (.alt 14 (.alt 15 .leaf .stop) .stop)))))) .stop) .stop)) .stop))))))))) (by kernel_rfl) (by kernel_rfl) (by kernel_rfl) (by kernel_rfl) rfl (fun _ _ _ _ _ h=>h) (below_drew (below_self wr)) (fun hHh=>?_)
       generalize wr.drew=wd at *
       simp only [PT.map,List.getElem?_toArray,List.getElem?_cons_succ,List.getElem?_cons_zero];refine wpPT_take (v:=?_) (by kernel_rfl) (fun wS hSw=>?_) ?_;rotate_left
       ·refine execOp_load (x:=.tmp 2) (k:=6) (g:=w.heap.size) (off:=0) (cs:=stkC g (.slice AU nU cU) (.slice AL nL cL)) ?_ stk_agg stk_size ?_ (fun j v hv=>by rw [Nat.zero_add];exact ((R2q.out.on hSw).cell j).trans hv) rfl <;> rfl
       (try simp only [Act.put,pu1,pu2,pu3]);refine wpPT_take (v:=?_) (by kernel_rfl) (fun wS hSw=>?_) ?_;rotate_left
       ·refine execOp_load (x:=.tmp 3) (k:=2) (g:=w.heap.size+1) (off:=0) (cs:=viwC u (.slice AV nV cV)) ?_ viw_agg viw_size ?_ (fun j v hv=>by rw [Nat.zero_add];exact ((R3q.out.on hSw).cell j).trans hv) rfl <;> rfl
       (try simp only [Act.put,pu1,pu2,pu3])
       iterate 3
        refine wpPT_take (v:=?_) (by kernel_rfl) (fun wS hSw=>?_) ?_;rotate_left
        ·(try dsimp only at hSw);go_simp;(try with_reducible rfl)
        (try simp only [Act.put,pu1,pu2,pu3])
       refine wpPT_take (v:=?_) (by kernel_rfl) (fun wS hSw=>?_) ?_;rotate_left
       ·have qx:=HNM.out wS hSw;go_simp;(try with_reducible rfl)
       (try simp only [Act.put,pu1,pu2,pu3]);refine wpPT_alt (by kernel_rfl) (fun K hK=>?_) ?_
       ·skip
        have hOh:=hide hHh;clear hHh
        go_simp
        go_at_call 44
        refine (RVStep_e HS.out (B:=B) (BV:=BV) _ (HUq.out.under hOh.out (by omega)) (HLq.out.under hOh.out (by omega)) (by have:=hOh.out.size;omega) HF.out HFU.out (HVq.out.under hOh.out (by omega)) (by have:=hOh.out.size;omega) hnV).mono ?_
        rintro e w' ⟨A3,c3,rfl,-,hbel⟩
        have hb':=hbel.mono (B':=wr.heap.size) (by have:=hOh.out.size;omega);clear hbel;refine hK.out _ _ (hOh.out.trans hb') (fun hHh=>?_);clear hK K;(try simp only [Act.put,pu1,pu2,pu3])
        iterate 4
         refine wpPT_take (v:=?_) (by kernel_rfl) (fun wS hSw=>?_) ?_;rotate_left
         ·(try dsimp only at hSw);go_simp;(try with_reducible rfl)
         (try simp only [Act.put,pu1,pu2,pu3])
        refine wpPT_alt (by kernel_rfl) (fun K hK=>?_) ?_
        ·skip
         have hOh:=hide hHh;clear hHh;unfold Oper.wp execOp
         go_simp
         have hal:=below_new (below_self w') (.cells #[.int .i64 0,.slice none 0 0] 80);have hb':=hal.mono (B':=wr.heap.size) (by have:=hOh.out.size;omega);have HFN:=hide (show RowL (w'.alloc (.cells #[.int .i64 0,.slice none 0 0] 80)) w'.heap.size 80 (viwC 0 (.slice none 0 0)) from RowL.new w' 80 (viwC 0 (.slice none 0 0)));have g11l:wr.heap.size≤w'.heap.size:=hOh.out.size;refine hK.out _ _ (hOh.out.trans hb') (fun hHh=>?_);clear hK K;have R11:=HFN;clear hal hb' hOh HFN
         generalize w'.alloc (.cells #[.int .i64 0,.slice none 0 0] 80)=z1 at *
         generalize w'.heap.size=g11 at *
         (try simp only [Act.put,pu1,pu2,pu3]);refine wpPT_alt (by kernel_rfl) (fun K hK=>?_) ?_;rotate_left
         ·exact wpPT_stop
         have hOh:=hide hHh;clear hHh;unfold Oper.wp execOp
         go_simp
         have hal:=below_new (below_self z1) (.cells #[.int .i64 0,.int .i64 0] 31);have hb':=hal.mono (B':=wr.heap.size) (by have:=hOh.out.size;omega);have HFN:=hide (show RowL (z1.alloc (.cells #[.int .i64 0,.int .i64 0] 31)) z1.heap.size 31 (prC (0,0)) from RowL.new z1 31 (prC (0,0)));have g12l:wr.heap.size≤z1.heap.size:=hOh.out.size;have g11ng12:g11 < z1.heap.size:=R11.out.lt;refine hK.out _ _ (hOh.out.trans hb') (fun hHh=>?_);clear hK K;replace R11:=hide (R11.out.on hal);have R12:=HFN;clear hal hb' hOh HFN
         generalize z1.alloc (.cells #[.int .i64 0,.int .i64 0] 31)=z2 at *
         generalize z1.heap.size=g12 at *
         (try simp only [Act.put,pu1,pu2,pu3]);refine wpPT_take (v:=?_) (by kernel_rfl) (fun wS hSw=>?_) ?_;rotate_left
         ·(try dsimp only at hSw);go_simp;(try with_reducible rfl)
         (try simp only [Act.put,pu1,pu2,pu3]);refine wpPT_alt (by kernel_rfl) (fun K hK=>?_) ?_;rotate_left
         ·exact wpPT_stop
         have hOh:=hide hHh;clear hHh;refine wp_storeC 80 (.tmp 11) (.tmp 59) rfl 2 viw_size g11 0 80 rfl (viwC 0 (.slice none 0 0)) (viwC S.2.1.1 (.slice A3 S.2.1.2.length c3)) rfl R11.out rfl (by exact Nat.le_refl _) (viwC_one _ _ _ _) ?_;intro w' hr' hg' hs';rw [splice_all (viwC 0 (.slice none 0 0)) (viwC S.2.1.1 (.slice A3 S.2.1.2.length c3)) rfl] at hr';refine hK.out _ _ (hOh.out.grown hg' (by have:=hOh.out.size;omega) (pu4 (by omega))) (fun hHh=>?_);clear hK K;replace R12:=hide (R12.out.grown hg' (pu5 (by omega)));clear R11;have R11:=hide hr';clear hg' hs' hr' hOh;(try simp only [Act.put]);refine wpPT_alt (by kernel_rfl) (fun K hK=>?_) ?_;rotate_left
         ·exact wpPT_stop
         have hOh:=hide hHh;clear hHh;refine wp_storeC 31 (.tmp 12) (.tmp 60) rfl 2 plc_size g12 0 31 rfl (prC (0,0)) (prC S.2.2) rfl R12.out rfl (by exact Nat.le_refl _) (prC_one _) ?_;intro w' hr' hg' hs';rw [splice_all (prC (0,0)) (prC S.2.2) rfl] at hr';refine hK.out _ _ (hOh.out.grown hg' (by have:=hOh.out.size;omega) (pu4 (by omega))) (fun hHh=>?_);clear hK K;replace R11:=hide (R11.out.grown hg' (pu5 (by omega)));clear R12;have R12:=hide hr';clear hg' hs' hr' hOh;(try simp only [Act.put]);refine wpPT_leaf ?_;have HBX:=hide hHh;clear hHh
         go_wp2_with fail
         go_meet
         case rel=>exact ⟨rfl,HBX.out⟩
        refine wpPT_alt (by kernel_rfl) (fun K hK=>?_) ?_
        ·skip
         have hOh:=hide hHh;clear hHh;unfold Oper.wp execOp
         go_simp
         have hal:=below_new (below_self w') (.cells #[.int .i64 0,.int .i64 0] 31);have hb':=hal.mono (B':=wr.heap.size) (by have:=hOh.out.size;omega);have HFN:=hide (show RowL (w'.alloc (.cells #[.int .i64 0,.int .i64 0] 31)) w'.heap.size 31 (prC (0,0)) from RowL.new w' 31 (prC (0,0)));have g12l:wr.heap.size≤w'.heap.size:=hOh.out.size;refine hK.out _ _ (hOh.out.trans hb') (fun hHh=>?_);clear hK K;have R12:=HFN;clear hal hb' hOh HFN
         generalize w'.alloc (.cells #[.int .i64 0,.int .i64 0] 31)=z1 at *
         generalize w'.heap.size=g12 at *
         (try simp only [Act.put,pu1,pu2,pu3]);refine wpPT_alt (by kernel_rfl) (fun K hK=>?_) ?_;rotate_left
         ·exact wpPT_stop
         have hOh:=hide hHh;clear hHh;unfold Oper.wp execOp
         go_simp
         have hal:=below_new (below_self z1) (.cells #[.int .i64 0,.slice none 0 0] 80);have hb':=hal.mono (B':=wr.heap.size) (by have:=hOh.out.size;omega);have HFN:=hide (show RowL (z1.alloc (.cells #[.int .i64 0,.slice none 0 0] 80)) z1.heap.size 80 (viwC 0 (.slice none 0 0)) from RowL.new z1 80 (viwC 0 (.slice none 0 0)));have g11l:wr.heap.size≤z1.heap.size:=hOh.out.size;have g12ng11:g12 < z1.heap.size:=R12.out.lt;refine hK.out _ _ (hOh.out.trans hb') (fun hHh=>?_);clear hK K;replace R12:=hide (R12.out.on hal);have R11:=HFN;clear hal hb' hOh HFN
         generalize z1.alloc (.cells #[.int .i64 0,.slice none 0 0] 80)=z2 at *
         generalize z1.heap.size=g11 at *
         (try simp only [Act.put,pu1,pu2,pu3]);refine wpPT_take (v:=?_) (by kernel_rfl) (fun wS hSw=>?_) ?_;rotate_left
         ·(try dsimp only at hSw);go_simp;(try with_reducible rfl)
         (try simp only [Act.put,pu1,pu2,pu3]);refine wpPT_alt (by kernel_rfl) (fun K hK=>?_) ?_;rotate_left
         ·exact wpPT_stop
         have hOh:=hide hHh;clear hHh;refine wp_storeC 80 (.tmp 11) (.tmp 59) rfl 2 viw_size g11 0 80 rfl (viwC 0 (.slice none 0 0)) (viwC S.2.1.1 (.slice A3 S.2.1.2.length c3)) rfl R11.out rfl (by exact Nat.le_refl _) (viwC_one _ _ _ _) ?_;intro w' hr' hg' hs';rw [splice_all (viwC 0 (.slice none 0 0)) (viwC S.2.1.1 (.slice A3 S.2.1.2.length c3)) rfl] at hr';refine hK.out _ _ (hOh.out.grown hg' (by have:=hOh.out.size;omega) (pu4 (by omega))) (fun hHh=>?_);clear hK K;replace R12:=hide (R12.out.grown hg' (pu5 (by omega)));clear R11;have R11:=hide hr';clear hg' hs' hr' hOh;(try simp only [Act.put]);refine wpPT_alt (by kernel_rfl) (fun K hK=>?_) ?_;rotate_left
         ·exact wpPT_stop
         have hOh:=hide hHh;clear hHh;refine wp_storeC 31 (.tmp 12) (.tmp 60) rfl 2 plc_size g12 0 31 rfl (prC (0,0)) (prC S.2.2) rfl R12.out rfl (by exact Nat.le_refl _) (prC_one _) ?_;intro w' hr' hg' hs';rw [splice_all (prC (0,0)) (prC S.2.2) rfl] at hr';refine hK.out _ _ (hOh.out.grown hg' (by have:=hOh.out.size;omega) (pu4 (by omega))) (fun hHh=>?_);clear hK K;replace R11:=hide (R11.out.grown hg' (pu5 (by omega)));clear R12;have R12:=hide hr';clear hg' hs' hr' hOh;(try simp only [Act.put]);refine wpPT_leaf ?_;have HBX:=hide hHh;clear hHh
         go_wp2_with fail
         go_meet
         case rel=>exact ⟨rfl,HBX.out⟩
        exact wpPT_stop
       refine wpPT_alt (by kernel_rfl) (fun K hK=>?_) ?_
       ·skip
        have hOh:=hide hHh;clear hHh;unfold Oper.wp execOp
        go_simp
        have hal:=below_new (below_self wd) (.cells #[.int .i64 0,.slice none 0 0] 80);have hb':=hal.mono (B':=wr.heap.size) (by have:=hOh.out.size;omega);have HFN:=hide (show RowL (wd.alloc (.cells #[.int .i64 0,.slice none 0 0] 80)) wd.heap.size 80 (viwC 0 (.slice none 0 0)) from RowL.new wd 80 (viwC 0 (.slice none 0 0)));have g11l:wr.heap.size≤wd.heap.size:=hOh.out.size;refine hK.out _ _ (hOh.out.trans hb') (fun hHh=>?_);clear hK K;have R11:=HFN;clear hal hb' hOh HFN
        generalize wd.alloc (.cells #[.int .i64 0,.slice none 0 0] 80)=z0 at *
        generalize wd.heap.size=g11 at *
        (try simp only [Act.put,pu1,pu2,pu3]);refine wpPT_alt (by kernel_rfl) (fun K hK=>?_) ?_
        ·skip
         have hOh:=hide hHh;clear hHh
         go_simp
         go_at_call 44
         refine (RVStep_e HS.out (B:=B) (BV:=BV) _ (HUq.out.under hOh.out (by omega)) (HLq.out.under hOh.out (by omega)) (by have:=hOh.out.size;omega) HF.out HFU.out (HVq.out.under hOh.out (by omega)) (by have:=hOh.out.size;omega) hnV).mono ?_
         rintro e w' ⟨A3,c3,rfl,-,hbel⟩
         have hb':=hbel.mono (B':=wr.heap.size) (by have:=hOh.out.size;omega);replace R11:=hide (R11.out.on hbel);clear hbel;refine hK.out _ _ (hOh.out.trans hb') (fun hHh=>?_);clear hK K;(try simp only [Act.put,pu1,pu2,pu3])
         iterate 4
          refine wpPT_take (v:=?_) (by kernel_rfl) (fun wS hSw=>?_) ?_;rotate_left
          ·(try dsimp only at hSw);go_simp;(try with_reducible rfl)
          (try simp only [Act.put,pu1,pu2,pu3])
         refine wpPT_alt (by kernel_rfl) (fun K hK=>?_) ?_;rotate_left
         ·exact wpPT_stop
         have hOh:=hide hHh;clear hHh;unfold Oper.wp execOp
         go_simp
         have hal:=below_new (below_self w') (.cells #[.int .i64 0,.int .i64 0] 31);have hb':=hal.mono (B':=wr.heap.size) (by have:=hOh.out.size;omega);have HFN:=hide (show RowL (w'.alloc (.cells #[.int .i64 0,.int .i64 0] 31)) w'.heap.size 31 (prC (0,0)) from RowL.new w' 31 (prC (0,0)));have g12l:wr.heap.size≤w'.heap.size:=hOh.out.size;have g11ng12:g11 < w'.heap.size:=R11.out.lt;refine hK.out _ _ (hOh.out.trans hb') (fun hHh=>?_);clear hK K;replace R11:=hide (R11.out.on hal);have R12:=HFN;clear hal hb' hOh HFN
         generalize w'.alloc (.cells #[.int .i64 0,.int .i64 0] 31)=z2 at *
         generalize w'.heap.size=g12 at *
         (try simp only [Act.put,pu1,pu2,pu3]);refine wpPT_take (v:=?_) (by kernel_rfl) (fun wS hSw=>?_) ?_;rotate_left
         ·(try dsimp only at hSw);go_simp;(try with_reducible rfl)
         (try simp only [Act.put,pu1,pu2,pu3]);refine wpPT_alt (by kernel_rfl) (fun K hK=>?_) ?_;rotate_left
         ·exact wpPT_stop
         have hOh:=hide hHh;clear hHh;refine wp_storeC 80 (.tmp 11) (.tmp 59) rfl 2 viw_size g11 0 80 rfl (viwC 0 (.slice none 0 0)) (viwC S.2.1.1 (.slice A3 S.2.1.2.length c3)) rfl R11.out rfl (by exact Nat.le_refl _) (viwC_one _ _ _ _) ?_;intro w' hr' hg' hs';rw [splice_all (viwC 0 (.slice none 0 0)) (viwC S.2.1.1 (.slice A3 S.2.1.2.length c3)) rfl] at hr';refine hK.out _ _ (hOh.out.grown hg' (by have:=hOh.out.size;omega) (pu4 (by omega))) (fun hHh=>?_);clear hK K;replace R12:=hide (R12.out.grown hg' (pu5 (by omega)));clear R11;have R11:=hide hr';clear hg' hs' hr' hOh;(try simp only [Act.put]);refine wpPT_alt (by kernel_rfl) (fun K hK=>?_) ?_;rotate_left
         ·exact wpPT_stop
         have hOh:=hide hHh;clear hHh;refine wp_storeC 31 (.tmp 12) (.tmp 60) rfl 2 plc_size g12 0 31 rfl (prC (0,0)) (prC S.2.2) rfl R12.out rfl (by exact Nat.le_refl _) (prC_one _) ?_;intro w' hr' hg' hs';rw [splice_all (prC (0,0)) (prC S.2.2) rfl] at hr';refine hK.out _ _ (hOh.out.grown hg' (by have:=hOh.out.size;omega) (pu4 (by omega))) (fun hHh=>?_);clear hK K;replace R11:=hide (R11.out.grown hg' (pu5 (by omega)));clear R12;have R12:=hide hr';clear hg' hs' hr' hOh;(try simp only [Act.put]);refine wpPT_leaf ?_;have HBX:=hide hHh;clear hHh
         go_wp2_with fail
         go_meet
         case rel=>exact ⟨rfl,HBX.out⟩
        refine wpPT_alt (by kernel_rfl) (fun K hK=>?_) ?_
        ·skip
         have hOh:=hide hHh;clear hHh;unfold Oper.wp execOp
         go_simp
         have hal:=below_new (below_self z0) (.cells #[.int .i64 0,.int .i64 0] 31);have hb':=hal.mono (B':=wr.heap.size) (by have:=hOh.out.size;omega);have HFN:=hide (show RowL (z0.alloc (.cells #[.int .i64 0,.int .i64 0] 31)) z0.heap.size 31 (prC (0,0)) from RowL.new z0 31 (prC (0,0)));have g12l:wr.heap.size≤z0.heap.size:=hOh.out.size;have g11ng12:g11 < z0.heap.size:=R11.out.lt;refine hK.out _ _ (hOh.out.trans hb') (fun hHh=>?_);clear hK K;replace R11:=hide (R11.out.on hal);have R12:=HFN;clear hal hb' hOh HFN
         generalize z0.alloc (.cells #[.int .i64 0,.int .i64 0] 31)=z1 at *
         generalize z0.heap.size=g12 at *
         (try simp only [Act.put,pu1,pu2,pu3]);refine wpPT_alt (by kernel_rfl) (fun K hK=>?_) ?_;rotate_left
         ·exact wpPT_stop
         have hOh:=hide hHh;clear hHh
         go_simp
         go_at_call 44
         refine (RVStep_e HS.out (B:=B) (BV:=BV) _ (HUq.out.under hOh.out (by omega)) (HLq.out.under hOh.out (by omega)) (by have:=hOh.out.size;omega) HF.out HFU.out (HVq.out.under hOh.out (by omega)) (by have:=hOh.out.size;omega) hnV).mono ?_
         rintro e w' ⟨A3,c3,rfl,-,hbel⟩
         have hb':=hbel.mono (B':=wr.heap.size) (by have:=hOh.out.size;omega);replace R11:=hide (R11.out.on hbel);replace R12:=hide (R12.out.on hbel);clear hbel;refine hK.out _ _ (hOh.out.trans hb') (fun hHh=>?_);clear hK K;(try simp only [Act.put,pu1,pu2,pu3])
         iterate 5
          refine wpPT_take (v:=?_) (by kernel_rfl) (fun wS hSw=>?_) ?_;rotate_left
          ·(try dsimp only at hSw);go_simp;(try with_reducible rfl)
          (try simp only [Act.put,pu1,pu2,pu3])
         refine wpPT_alt (by kernel_rfl) (fun K hK=>?_) ?_;rotate_left
         ·exact wpPT_stop
         have hOh:=hide hHh;clear hHh;refine wp_storeC 80 (.tmp 11) (.tmp 59) rfl 2 viw_size g11 0 80 rfl (viwC 0 (.slice none 0 0)) (viwC S.2.1.1 (.slice A3 S.2.1.2.length c3)) rfl R11.out rfl (by exact Nat.le_refl _) (viwC_one _ _ _ _) ?_;intro w' hr' hg' hs';rw [splice_all (viwC 0 (.slice none 0 0)) (viwC S.2.1.1 (.slice A3 S.2.1.2.length c3)) rfl] at hr';refine hK.out _ _ (hOh.out.grown hg' (by have:=hOh.out.size;omega) (pu4 (by omega))) (fun hHh=>?_);clear hK K;replace R12:=hide (R12.out.grown hg' (pu5 (by omega)));clear R11;have R11:=hide hr';clear hg' hs' hr' hOh;(try simp only [Act.put]);refine wpPT_alt (by kernel_rfl) (fun K hK=>?_) ?_;rotate_left
         ·exact wpPT_stop
         have hOh:=hide hHh;clear hHh;refine wp_storeC 31 (.tmp 12) (.tmp 60) rfl 2 plc_size g12 0 31 rfl (prC (0,0)) (prC S.2.2) rfl R12.out rfl (by exact Nat.le_refl _) (prC_one _) ?_;intro w' hr' hg' hs';rw [splice_all (prC (0,0)) (prC S.2.2) rfl] at hr';refine hK.out _ _ (hOh.out.grown hg' (by have:=hOh.out.size;omega) (pu4 (by omega))) (fun hHh=>?_);clear hK K;replace R11:=hide (R11.out.grown hg' (pu5 (by omega)));clear R12;have R12:=hide hr';clear hg' hs' hr' hOh;(try simp only [Act.put]);refine wpPT_leaf ?_;have HBX:=hide hHh;clear hHh
         go_wp2_with fail
         go_meet
         case rel=>exact ⟨rfl,HBX.out⟩
        exact wpPT_stop
       refine wpPT_alt (by kernel_rfl) (fun K hK=>?_) ?_
       ·skip
        have hOh:=hide hHh;clear hHh;unfold Oper.wp execOp
        go_simp
        have hal:=below_new (below_self wd) (.cells #[.int .i64 0,.int .i64 0] 31);have hb':=hal.mono (B':=wr.heap.size) (by have:=hOh.out.size;omega);have HFN:=hide (show RowL (wd.alloc (.cells #[.int .i64 0,.int .i64 0] 31)) wd.heap.size 31 (prC (0,0)) from RowL.new wd 31 (prC (0,0)));have g12l:wr.heap.size≤wd.heap.size:=hOh.out.size;refine hK.out _ _ (hOh.out.trans hb') (fun hHh=>?_);clear hK K;have R12:=HFN;clear hal hb' hOh HFN
        generalize wd.alloc (.cells #[.int .i64 0,.int .i64 0] 31)=z0 at *
        generalize wd.heap.size=g12 at *
        (try simp only [Act.put,pu1,pu2,pu3]);refine wpPT_alt (by kernel_rfl) (fun K hK=>?_) ?_
        ·skip
         have hOh:=hide hHh;clear hHh
         go_simp
         go_at_call 44
         refine (RVStep_e HS.out (B:=B) (BV:=BV) _ (HUq.out.under hOh.out (by omega)) (HLq.out.under hOh.out (by omega)) (by have:=hOh.out.size;omega) HF.out HFU.out (HVq.out.under hOh.out (by omega)) (by have:=hOh.out.size;omega) hnV).mono ?_
         rintro e w' ⟨A3,c3,rfl,-,hbel⟩
         have hb':=hbel.mono (B':=wr.heap.size) (by have:=hOh.out.size;omega);replace R12:=hide (R12.out.on hbel);clear hbel;refine hK.out _ _ (hOh.out.trans hb') (fun hHh=>?_);clear hK K;(try simp only [Act.put,pu1,pu2,pu3])
         iterate 4
          refine wpPT_take (v:=?_) (by kernel_rfl) (fun wS hSw=>?_) ?_;rotate_left
          ·(try dsimp only at hSw);go_simp;(try with_reducible rfl)
          (try simp only [Act.put,pu1,pu2,pu3])
         refine wpPT_alt (by kernel_rfl) (fun K hK=>?_) ?_;rotate_left
         ·exact wpPT_stop
         have hOh:=hide hHh;clear hHh;unfold Oper.wp execOp
         go_simp
         have hal:=below_new (below_self w') (.cells #[.int .i64 0,.slice none 0 0] 80);have hb':=hal.mono (B':=wr.heap.size) (by have:=hOh.out.size;omega);have HFN:=hide (show RowL (w'.alloc (.cells #[.int .i64 0,.slice none 0 0] 80)) w'.heap.size 80 (viwC 0 (.slice none 0 0)) from RowL.new w' 80 (viwC 0 (.slice none 0 0)));have g11l:wr.heap.size≤w'.heap.size:=hOh.out.size;have g12ng11:g12 < w'.heap.size:=R12.out.lt;refine hK.out _ _ (hOh.out.trans hb') (fun hHh=>?_);clear hK K;replace R12:=hide (R12.out.on hal);have R11:=HFN;clear hal hb' hOh HFN
         generalize w'.alloc (.cells #[.int .i64 0,.slice none 0 0] 80)=z2 at *
         generalize w'.heap.size=g11 at *
         (try simp only [Act.put,pu1,pu2,pu3]);refine wpPT_take (v:=?_) (by kernel_rfl) (fun wS hSw=>?_) ?_;rotate_left
         ·(try dsimp only at hSw);go_simp;(try with_reducible rfl)
         (try simp only [Act.put,pu1,pu2,pu3]);refine wpPT_alt (by kernel_rfl) (fun K hK=>?_) ?_;rotate_left
         ·exact wpPT_stop
         have hOh:=hide hHh;clear hHh;refine wp_storeC 80 (.tmp 11) (.tmp 59) rfl 2 viw_size g11 0 80 rfl (viwC 0 (.slice none 0 0)) (viwC S.2.1.1 (.slice A3 S.2.1.2.length c3)) rfl R11.out rfl (by exact Nat.le_refl _) (viwC_one _ _ _ _) ?_;intro w' hr' hg' hs';rw [splice_all (viwC 0 (.slice none 0 0)) (viwC S.2.1.1 (.slice A3 S.2.1.2.length c3)) rfl] at hr';refine hK.out _ _ (hOh.out.grown hg' (by have:=hOh.out.size;omega) (pu4 (by omega))) (fun hHh=>?_);clear hK K;replace R12:=hide (R12.out.grown hg' (pu5 (by omega)));clear R11;have R11:=hide hr';clear hg' hs' hr' hOh;(try simp only [Act.put]);refine wpPT_alt (by kernel_rfl) (fun K hK=>?_) ?_;rotate_left
         ·exact wpPT_stop
         have hOh:=hide hHh;clear hHh;refine wp_storeC 31 (.tmp 12) (.tmp 60) rfl 2 plc_size g12 0 31 rfl (prC (0,0)) (prC S.2.2) rfl R12.out rfl (by exact Nat.le_refl _) (prC_one _) ?_;intro w' hr' hg' hs';rw [splice_all (prC (0,0)) (prC S.2.2) rfl] at hr';refine hK.out _ _ (hOh.out.grown hg' (by have:=hOh.out.size;omega) (pu4 (by omega))) (fun hHh=>?_);clear hK K;replace R11:=hide (R11.out.grown hg' (pu5 (by omega)));clear R12;have R12:=hide hr';clear hg' hs' hr' hOh;(try simp only [Act.put]);refine wpPT_leaf ?_;have HBX:=hide hHh;clear hHh
         go_wp2_with fail
         go_meet
         case rel=>exact ⟨rfl,HBX.out⟩
        refine wpPT_alt (by kernel_rfl) (fun K hK=>?_) ?_
        ·skip
         have hOh:=hide hHh;clear hHh;unfold Oper.wp execOp
         go_simp
         have hal:=below_new (below_self z0) (.cells #[.int .i64 0,.slice none 0 0] 80);have hb':=hal.mono (B':=wr.heap.size) (by have:=hOh.out.size;omega);have HFN:=hide (show RowL (z0.alloc (.cells #[.int .i64 0,.slice none 0 0] 80)) z0.heap.size 80 (viwC 0 (.slice none 0 0)) from RowL.new z0 80 (viwC 0 (.slice none 0 0)));have g11l:wr.heap.size≤z0.heap.size:=hOh.out.size;have g12ng11:g12 < z0.heap.size:=R12.out.lt;refine hK.out _ _ (hOh.out.trans hb') (fun hHh=>?_);clear hK K;replace R12:=hide (R12.out.on hal);have R11:=HFN;clear hal hb' hOh HFN
         generalize z0.alloc (.cells #[.int .i64 0,.slice none 0 0] 80)=z1 at *
         generalize z0.heap.size=g11 at *
         (try simp only [Act.put,pu1,pu2,pu3]);refine wpPT_alt (by kernel_rfl) (fun K hK=>?_) ?_;rotate_left
         ·exact wpPT_stop
         have hOh:=hide hHh;clear hHh
         go_simp
         go_at_call 44
         refine (RVStep_e HS.out (B:=B) (BV:=BV) _ (HUq.out.under hOh.out (by omega)) (HLq.out.under hOh.out (by omega)) (by have:=hOh.out.size;omega) HF.out HFU.out (HVq.out.under hOh.out (by omega)) (by have:=hOh.out.size;omega) hnV).mono ?_
         rintro e w' ⟨A3,c3,rfl,-,hbel⟩
         have hb':=hbel.mono (B':=wr.heap.size) (by have:=hOh.out.size;omega);replace R12:=hide (R12.out.on hbel);replace R11:=hide (R11.out.on hbel);clear hbel;refine hK.out _ _ (hOh.out.trans hb') (fun hHh=>?_);clear hK K;(try simp only [Act.put,pu1,pu2,pu3])
         iterate 5
          refine wpPT_take (v:=?_) (by kernel_rfl) (fun wS hSw=>?_) ?_;rotate_left
          ·(try dsimp only at hSw);go_simp;(try with_reducible rfl)
          (try simp only [Act.put,pu1,pu2,pu3])
         refine wpPT_alt (by kernel_rfl) (fun K hK=>?_) ?_;rotate_left
         ·exact wpPT_stop
         have hOh:=hide hHh;clear hHh;refine wp_storeC 80 (.tmp 11) (.tmp 59) rfl 2 viw_size g11 0 80 rfl (viwC 0 (.slice none 0 0)) (viwC S.2.1.1 (.slice A3 S.2.1.2.length c3)) rfl R11.out rfl (by exact Nat.le_refl _) (viwC_one _ _ _ _) ?_;intro w' hr' hg' hs';rw [splice_all (viwC 0 (.slice none 0 0)) (viwC S.2.1.1 (.slice A3 S.2.1.2.length c3)) rfl] at hr';refine hK.out _ _ (hOh.out.grown hg' (by have:=hOh.out.size;omega) (pu4 (by omega))) (fun hHh=>?_);clear hK K;replace R12:=hide (R12.out.grown hg' (pu5 (by omega)));clear R11;have R11:=hide hr';clear hg' hs' hr' hOh;(try simp only [Act.put]);refine wpPT_alt (by kernel_rfl) (fun K hK=>?_) ?_;rotate_left
         ·exact wpPT_stop
         have hOh:=hide hHh;clear hHh;refine wp_storeC 31 (.tmp 12) (.tmp 60) rfl 2 plc_size g12 0 31 rfl (prC (0,0)) (prC S.2.2) rfl R12.out rfl (by exact Nat.le_refl _) (prC_one _) ?_;intro w' hr' hg' hs';rw [splice_all (prC (0,0)) (prC S.2.2) rfl] at hr';refine hK.out _ _ (hOh.out.grown hg' (by have:=hOh.out.size;omega) (pu4 (by omega))) (fun hHh=>?_);clear hK K;replace R11:=hide (R11.out.grown hg' (pu5 (by omega)));clear R12;have R12:=hide hr';clear hg' hs' hr' hOh;(try simp only [Act.put]);refine wpPT_leaf ?_;have HBX:=hide hHh;clear hHh
         go_wp2_with fail
         go_meet
         case rel=>exact ⟨rfl,HBX.out⟩
        exact wpPT_stop
       exact wpPT_stop
      case rest =>
      obtain ⟨rfl,hbx⟩:=hcut;have HO9:=hide (HO8.out.below hbx);have HBX:=hide (HBQ.out.trans (hbx.mono hbq));have hsx:=hbx.size
      have qn':wc.cell? ⟨bN,oN+j,none⟩=some (.string ⟨nm.toArray⟩):=HNM.out wc hbx
      clear hbx
      cases b2 with
      | false =>
       go_wp2_with fail
       go_roundw
       case rel=>exact ⟨j+1,n8,A8,c8,by omega,by go_num,rfl,by omega,by rw [HKS.out,if_neg (by simp)];exact HO9.out,HBX.out⟩
       case measure=>simp [intOf];omega
      | true =>
       go_wp2_with (at_builtin;refine wpList_append_Rd (f:=st) _ rfl (.tmp 63) (.tmp 68) 41 rfl wo.heap.size 9 _ 16 Tryz.underlying41 info_st rfl (fun _=>rfl) A8 n8 c8 _ rfl (HO9.out.below (below_new (below_self wc) _)) _ _ 1 1 [nm] rfl (Rd.one _ _ rfl) (n8+1) rfl (by omega) (by omega) (by simp;omega) ?_;intro A7 c7 w9 ho9 hb9;have HOZ:=hide ho9;have hs9:=hb9.size;have HBZ:=hide ((HBX.out.alloc (by omega) _).trans hb9);clear ho9 hb9)
       go_roundw
       case rel=>exact ⟨j+1,n8+1,A7,c7,by omega,by go_num,rfl,by omega,by rw [HKS.out,if_pos (by simp)];exact HOZ.out,HBZ.out⟩
       case measure=>simp [intOf];omega
     ·obtain rfl:j=n6:=by omega
      have ho9:=HO8.out;rw [List.take_of_length_le (by have:=HXL.out;omega)] at ho9;have HOF:=hide ho9;clear ho9 hbr8
      go_wp2_with fail
      refine (RSort_any wr HOF.out.rd (by omega)).mono ?_
      rintro ez w3 ⟨A3,c3,rfl,ho3,hb3⟩
      have HO3:=hide ho3;have HB3:=hide (HB.out.trans ((HBQ.out.trans (hb3.mono hbq)).mono (by omega)));clear hb3 ho3
      go_wp2_with fail
      go_ret
      rw [HNV.out];exact ⟨A3,_,c3,rfl,HO3.out.rebase (by omega),HB3.out⟩
   | false =>
    have hEl0:EL.length=0:=by rw [HELB.out];simp
    by_cases hm0:(EL.length:Int) < (m1:Int)
    ·have ho:Ow st wo W1.heap.size 9 A6 n6 c6 (allV up ls (u,vl)):=by
      have:=HO6.out
      rw [List.take_of_length_le (l:=EL) (i:=EL.length) (Nat.le_refl _)] at this;rw [HAV.out];exact this
     have hk1:∀b,b < W1.heap.size→wo.heap[b]?=wS5.heap[b]?:=fun b hb=>HBR.out.block b hb;replace HB:=hide (HB.out.trans (HBR.out.mono hW1w));replace R2:=hide (show RowL wo w.heap.size _ _ from (hk1 _ (by omega)).trans R2.out);replace R3:=hide (show RowL wo (w.heap.size+1) _ _ from (hk1 _ (by omega)).trans R3.out);replace HU:=hide (HU.out.mono (fun b hb=>hk1 b (Nat.lt_of_lt_of_le hb (by omega))) (fun _ h=>h):RdE nodEn wo (Under B) AU nU up);replace HL:=hide (HL.out.mono (fun b hb=>hk1 b (Nat.lt_of_lt_of_le hb (by omega))) (fun _ h=>h):RdE layEn wo (Under B) AL nL ls);replace HV:=hide (HV.out.mono (fun b hb=>hk1 b (Nat.lt_of_lt_of_le hb (by omega))) (fun _ h=>h):RdE prEn wo (Under BV) AV nV vl)
     have hna:n6≤20000:=by omega
     obtain ⟨X,hX⟩:∃X,allV up ls (u,vl)=X:=⟨_,rfl⟩;have HNV:=hide (show namesV up ls (u,vl)=sortS (X.filter (fun x=>!hidV up ls (u,vl) x)) from by unfold namesV;rw [sort_filter,hX]);rw [hX] at ho;have HXL:=hide ho.rd.len;have HX:=hide ho.rd;have HO0:=hide (show Ow st (wo.alloc (.cells #[] 9)) wo.heap.size 9 (some ⟨wo.heap.size,0,none⟩) 0 0 [] from own_lit0 wo 9 1 (base:=wo.heap.size) rfl (Nat.le_refl _));have HW0:=hide (below_new (below_self wo) (.cells #[] 9));clear ho hk1 HE HO6 HRI hX
     go_wp2_with fail
     go_loopw [8,9] (fun v8 v9 wr=>∃(j n8:Nat) (A8:Option Addr) (c8:Nat),j≤n6∧v9=.int .i64 j∧v8=.slice A8 n8 c8∧n8≤j∧Ow st wr wo.heap.size 9 A8 n8 c8 ((X.take j).filter (fun x=>!hidV up ls (u,vl) x))∧Below wo.heap.size wo wr) (fun _ v9 _=>n6 - (intOf v9).toNat)
     case atStart=>exact ⟨0,0,_,0,by omega,rfl,rfl,by omega,HO0.out,HW0.out⟩
     case round =>
      obtain ⟨j,n8,A8,c8,hj,rfl,rfl,hn8,ho8,hbr8⟩:=hrel;have HO8:=hide ho8;have HBQ:=hide hbr8;have hbq:=hbr8.size;have R2q:=hide (R2.out.on hbr8);have R3q:=hide (R3.out.on hbr8);have HUq:=hide (HU.out.under hbr8 (by omega));have HLq:=hide (HL.out.under hbr8 (by omega));have HVq:=hide (HV.out.under hbr8 (by omega));clear ho8
      by_cases hlt3:j < n6
      ·obtain ⟨nm,hnm⟩:∃nm,X[j]?=some nm:=⟨_,List.getElem?_eq_getElem (by have:=HXL.out;omega)⟩
       obtain ⟨bN,oN,hA6,hbN,hcN⟩:=HX.out.2 (by omega);have hcn:=hcN j nm hnm;have HNM:=hide (fun W (hb:Below wr.heap.size wr W)=>show W.cell? ⟨bN,oN+j,none⟩=some (.string ⟨nm.toArray⟩) from (hb.cell (p:=⟨bN,oN+j,none⟩) (show bN < wr.heap.size by omega)).trans ((hbr8.cell (p:=⟨bN,oN+j,none⟩) hbN).trans hcn));have hqn:wr.cell? ⟨bN,oN+j,none⟩=some (.string ⟨nm.toArray⟩):=HNM.out wr (Below.refl _ _);obtain ⟨S,hS⟩:∃S,stepV up ls (u,vl) nm=S:=⟨_,rfl⟩;obtain ⟨b2,hb2⟩:∃b2,(S.1 != 0)=b2:=⟨_,rfl⟩
       have HKS:=hide (show (X.take (j+1)).filter (fun x=>!hidV up ls (u,vl) x)=if b2=true then (X.take j).filter (fun x=>!hidV up ls (u,vl) x)++[nm] else (X.take j).filter (fun x=>!hidV up ls (u,vl) x) from by
        rw [List.take_add_one,hnm,Option.toList_some,List.filter_append]
        have:(!hidV up ls (u,vl) nm)=b2:=by unfold hidV;rw [hS,←hb2];by_cases hk:S.1=0 <;> simp [hk]
        cases b2 <;> simp [this])
       have HS:=hide hS;subst hA6
       have hj6:(j:Int) < (n6:Int):=by omega
       clear hnm hcN hcn hS hbr8
       go_upto_region 11 with fail
       go_cut [10] from 50 to 60 (fun v10 wx=>v10=.int .i64 S.1∧Below wr.heap.size wr wx)
       case first =>
        refine wp_region_G (fun w'=>Below (wr.heap.size) wr w') (.take 0 (.take 1 (.take 2 (.take 3 (.take 4 (.take 5 (.alt 6 (.take 7 (.take 8 (.take 9 (.take 10 (.alt 11 (.alt 12 (.take 13 (.alt 14 (.alt 15 .leaf .stop) .stop)) .stop) (.alt 12 (.alt 11 (.take 13 (.alt 14 (.alt 15 .leaf .stop) .stop)) .stop) .stop)))))) (.alt 11 (.alt 6 (.take 7 (.take 8 (.take 9 (.take 10 (.alt 12 (.take 13 (.alt 14 (.alt 15 .leaf .stop) .stop)) .stop))))) (.alt 12 (.alt 6 (.take 7 (.take 8 (.take 9 (.take 10 (.take 13 (.alt 14 (.alt 15 .leaf .stop) .stop)))))) .stop) .stop)) (.alt 12 (.alt 6 (.take 7 (.take 8 (.take 9 (.take 10 (.alt 11 (.take 13 (.alt 14 (.alt 15 .leaf .stop) .stop)) .stop))))) (.alt 11 (.alt 6 (.take 7 (.take 8 (.take 9 (.take 10 (.take 13 (.alt 14 (.alt 15 .leaf .stop) .stop)))))) .stop) .stop)) .stop))))))))) (by kernel_rfl) (by kernel_rfl) (by kernel_rfl) (by kernel_rfl) rfl (fun _ _ _ _ _ h=>h) (below_drew (below_self wr)) (fun hHh=>?_)
        generalize wr.drew=wd at *
        simp only [PT.map,List.getElem?_toArray,List.getElem?_cons_succ,List.getElem?_cons_zero];refine wpPT_take (v:=?_) (by kernel_rfl) (fun wS hSw=>?_) ?_;rotate_left
        ·refine execOp_load (x:=.tmp 2) (k:=6) (g:=w.heap.size) (off:=0) (cs:=stkC g (.slice AU nU cU) (.slice AL nL cL)) ?_ stk_agg stk_size ?_ (fun j v hv=>by rw [Nat.zero_add];exact ((R2q.out.on hSw).cell j).trans hv) rfl <;> rfl
        (try simp only [Act.put,pu1,pu2,pu3]);refine wpPT_take (v:=?_) (by kernel_rfl) (fun wS hSw=>?_) ?_;rotate_left
        ·refine execOp_load (x:=.tmp 3) (k:=2) (g:=w.heap.size+1) (off:=0) (cs:=viwC u (.slice AV nV cV)) ?_ viw_agg viw_size ?_ (fun j v hv=>by rw [Nat.zero_add];exact ((R3q.out.on hSw).cell j).trans hv) rfl <;> rfl
        (try simp only [Act.put,pu1,pu2,pu3])
        iterate 3
         refine wpPT_take (v:=?_) (by kernel_rfl) (fun wS hSw=>?_) ?_;rotate_left
         ·(try dsimp only at hSw);go_simp;(try with_reducible rfl)
         (try simp only [Act.put,pu1,pu2,pu3])
        refine wpPT_take (v:=?_) (by kernel_rfl) (fun wS hSw=>?_) ?_;rotate_left
        ·have qx:=HNM.out wS hSw;go_simp;(try with_reducible rfl)
        (try simp only [Act.put,pu1,pu2,pu3]);refine wpPT_alt (by kernel_rfl) (fun K hK=>?_) ?_
        ·skip
         have hOh:=hide hHh;clear hHh
         go_simp
         go_at_call 44
         refine (RVStep_e HS.out (B:=B) (BV:=BV) _ (HUq.out.under hOh.out (by omega)) (HLq.out.under hOh.out (by omega)) (by have:=hOh.out.size;omega) HF.out HFU.out (HVq.out.under hOh.out (by omega)) (by have:=hOh.out.size;omega) hnV).mono ?_
         rintro e w' ⟨A3,c3,rfl,-,hbel⟩
         have hb':=hbel.mono (B':=wr.heap.size) (by have:=hOh.out.size;omega);clear hbel;refine hK.out _ _ (hOh.out.trans hb') (fun hHh=>?_);clear hK K;(try simp only [Act.put,pu1,pu2,pu3])
         iterate 4
          refine wpPT_take (v:=?_) (by kernel_rfl) (fun wS hSw=>?_) ?_;rotate_left
          ·(try dsimp only at hSw);go_simp;(try with_reducible rfl)
          (try simp only [Act.put,pu1,pu2,pu3])
         refine wpPT_alt (by kernel_rfl) (fun K hK=>?_) ?_
         ·skip
          have hOh:=hide hHh;clear hHh;unfold Oper.wp execOp
          go_simp
          have hal:=below_new (below_self w') (.cells #[.int .i64 0,.slice none 0 0] 80);have hb':=hal.mono (B':=wr.heap.size) (by have:=hOh.out.size;omega);have HFN:=hide (show RowL (w'.alloc (.cells #[.int .i64 0,.slice none 0 0] 80)) w'.heap.size 80 (viwC 0 (.slice none 0 0)) from RowL.new w' 80 (viwC 0 (.slice none 0 0)));have g11l:wr.heap.size≤w'.heap.size:=hOh.out.size;refine hK.out _ _ (hOh.out.trans hb') (fun hHh=>?_);clear hK K;have R11:=HFN;clear hal hb' hOh HFN
          generalize w'.alloc (.cells #[.int .i64 0,.slice none 0 0] 80)=z1 at *
          generalize w'.heap.size=g11 at *
          (try simp only [Act.put,pu1,pu2,pu3]);refine wpPT_alt (by kernel_rfl) (fun K hK=>?_) ?_;rotate_left
          ·exact wpPT_stop
          have hOh:=hide hHh;clear hHh;unfold Oper.wp execOp
          go_simp
          have hal:=below_new (below_self z1) (.cells #[.int .i64 0,.int .i64 0] 31);have hb':=hal.mono (B':=wr.heap.size) (by have:=hOh.out.size;omega);have HFN:=hide (show RowL (z1.alloc (.cells #[.int .i64 0,.int .i64 0] 31)) z1.heap.size 31 (prC (0,0)) from RowL.new z1 31 (prC (0,0)));have g12l:wr.heap.size≤z1.heap.size:=hOh.out.size;have g11ng12:g11 < z1.heap.size:=R11.out.lt;refine hK.out _ _ (hOh.out.trans hb') (fun hHh=>?_);clear hK K;replace R11:=hide (R11.out.on hal);have R12:=HFN;clear hal hb' hOh HFN
          generalize z1.alloc (.cells #[.int .i64 0,.int .i64 0] 31)=z2 at *
          generalize z1.heap.size=g12 at *
          (try simp only [Act.put,pu1,pu2,pu3]);refine wpPT_take (v:=?_) (by kernel_rfl) (fun wS hSw=>?_) ?_;rotate_left
          ·(try dsimp only at hSw);go_simp;(try with_reducible rfl)
          (try simp only [Act.put,pu1,pu2,pu3]);refine wpPT_alt (by kernel_rfl) (fun K hK=>?_) ?_;rotate_left
          ·exact wpPT_stop
          have hOh:=hide hHh;clear hHh;refine wp_storeC 80 (.tmp 11) (.tmp 59) rfl 2 viw_size g11 0 80 rfl (viwC 0 (.slice none 0 0)) (viwC S.2.1.1 (.slice A3 S.2.1.2.length c3)) rfl R11.out rfl (by exact Nat.le_refl _) (viwC_one _ _ _ _) ?_;intro w' hr' hg' hs';rw [splice_all (viwC 0 (.slice none 0 0)) (viwC S.2.1.1 (.slice A3 S.2.1.2.length c3)) rfl] at hr';refine hK.out _ _ (hOh.out.grown hg' (by have:=hOh.out.size;omega) (pu4 (by omega))) (fun hHh=>?_);clear hK K;replace R12:=hide (R12.out.grown hg' (pu5 (by omega)));clear R11;have R11:=hide hr';clear hg' hs' hr' hOh;(try simp only [Act.put]);refine wpPT_alt (by kernel_rfl) (fun K hK=>?_) ?_;rotate_left
          ·exact wpPT_stop
          have hOh:=hide hHh;clear hHh;refine wp_storeC 31 (.tmp 12) (.tmp 60) rfl 2 plc_size g12 0 31 rfl (prC (0,0)) (prC S.2.2) rfl R12.out rfl (by exact Nat.le_refl _) (prC_one _) ?_;intro w' hr' hg' hs';rw [splice_all (prC (0,0)) (prC S.2.2) rfl] at hr';refine hK.out _ _ (hOh.out.grown hg' (by have:=hOh.out.size;omega) (pu4 (by omega))) (fun hHh=>?_);clear hK K;replace R11:=hide (R11.out.grown hg' (pu5 (by omega)));clear R12;have R12:=hide hr';clear hg' hs' hr' hOh;(try simp only [Act.put]);refine wpPT_leaf ?_;have HBX:=hide hHh;clear hHh
          go_wp2_with fail
          go_meet
          case rel=>exact ⟨rfl,HBX.out⟩
         refine wpPT_alt (by kernel_rfl) (fun K hK=>?_) ?_
         ·skip
          have hOh:=hide hHh;clear hHh;unfold Oper.wp execOp
          go_simp
          have hal:=below_new (below_self w') (.cells #[.int .i64 0,.int .i64 0] 31);have hb':=hal.mono (B':=wr.heap.size) (by have:=hOh.out.size;omega);have HFN:=hide (show RowL (w'.alloc (.cells #[.int .i64 0,.int .i64 0] 31)) w'.heap.size 31 (prC (0,0)) from RowL.new w' 31 (prC (0,0)));have g12l:wr.heap.size≤w'.heap.size:=hOh.out.size;refine hK.out _ _ (hOh.out.trans hb') (fun hHh=>?_);clear hK K;have R12:=HFN;clear hal hb' hOh HFN
          generalize w'.alloc (.cells #[.int .i64 0,.int .i64 0] 31)=z1 at *
          generalize w'.heap.size=g12 at *
          (try simp only [Act.put,pu1,pu2,pu3]);refine wpPT_alt (by kernel_rfl) (fun K hK=>?_) ?_;rotate_left
          ·exact wpPT_stop
          have hOh:=hide hHh;clear hHh;unfold Oper.wp execOp
          go_simp
          have hal:=below_new (below_self z1) (.cells #[.int .i64 0,.slice none 0 0] 80);have hb':=hal.mono (B':=wr.heap.size) (by have:=hOh.out.size;omega);have HFN:=hide (show RowL (z1.alloc (.cells #[.int .i64 0,.slice none 0 0] 80)) z1.heap.size 80 (viwC 0 (.slice none 0 0)) from RowL.new z1 80 (viwC 0 (.slice none 0 0)));have g11l:wr.heap.size≤z1.heap.size:=hOh.out.size;have g12ng11:g12 < z1.heap.size:=R12.out.lt;refine hK.out _ _ (hOh.out.trans hb') (fun hHh=>?_);clear hK K;replace R12:=hide (R12.out.on hal);have R11:=HFN;clear hal hb' hOh HFN
          generalize z1.alloc (.cells #[.int .i64 0,.slice none 0 0] 80)=z2 at *
          generalize z1.heap.size=g11 at *
          (try simp only [Act.put,pu1,pu2,pu3]);refine wpPT_take (v:=?_) (by kernel_rfl) (fun wS hSw=>?_) ?_;rotate_left
          ·(try dsimp only at hSw);go_simp;(try with_reducible rfl)
          (try simp only [Act.put,pu1,pu2,pu3]);refine wpPT_alt (by kernel_rfl) (fun K hK=>?_) ?_;rotate_left
          ·exact wpPT_stop
          have hOh:=hide hHh;clear hHh;refine wp_storeC 80 (.tmp 11) (.tmp 59) rfl 2 viw_size g11 0 80 rfl (viwC 0 (.slice none 0 0)) (viwC S.2.1.1 (.slice A3 S.2.1.2.length c3)) rfl R11.out rfl (by exact Nat.le_refl _) (viwC_one _ _ _ _) ?_;intro w' hr' hg' hs';rw [splice_all (viwC 0 (.slice none 0 0)) (viwC S.2.1.1 (.slice A3 S.2.1.2.length c3)) rfl] at hr';refine hK.out _ _ (hOh.out.grown hg' (by have:=hOh.out.size;omega) (pu4 (by omega))) (fun hHh=>?_);clear hK K;replace R12:=hide (R12.out.grown hg' (pu5 (by omega)));clear R11;have R11:=hide hr';clear hg' hs' hr' hOh;(try simp only [Act.put]);refine wpPT_alt (by kernel_rfl) (fun K hK=>?_) ?_;rotate_left
          ·exact wpPT_stop
          have hOh:=hide hHh;clear hHh;refine wp_storeC 31 (.tmp 12) (.tmp 60) rfl 2 plc_size g12 0 31 rfl (prC (0,0)) (prC S.2.2) rfl R12.out rfl (by exact Nat.le_refl _) (prC_one _) ?_;intro w' hr' hg' hs';rw [splice_all (prC (0,0)) (prC S.2.2) rfl] at hr';refine hK.out _ _ (hOh.out.grown hg' (by have:=hOh.out.size;omega) (pu4 (by omega))) (fun hHh=>?_);clear hK K;replace R11:=hide (R11.out.grown hg' (pu5 (by omega)));clear R12;have R12:=hide hr';clear hg' hs' hr' hOh;(try simp only [Act.put]);refine wpPT_leaf ?_;have HBX:=hide hHh;clear hHh
          go_wp2_with fail
          go_meet
          case rel=>exact ⟨rfl,HBX.out⟩
         exact wpPT_stop
        refine wpPT_alt (by kernel_rfl) (fun K hK=>?_) ?_
        ·skip
         have hOh:=hide hHh;clear hHh;unfold Oper.wp execOp
         go_simp
         have hal:=below_new (below_self wd) (.cells #[.int .i64 0,.slice none 0 0] 80);have hb':=hal.mono (B':=wr.heap.size) (by have:=hOh.out.size;omega);have HFN:=hide (show RowL (wd.alloc (.cells #[.int .i64 0,.slice none 0 0] 80)) wd.heap.size 80 (viwC 0 (.slice none 0 0)) from RowL.new wd 80 (viwC 0 (.slice none 0 0)));have g11l:wr.heap.size≤wd.heap.size:=hOh.out.size;refine hK.out _ _ (hOh.out.trans hb') (fun hHh=>?_);clear hK K;have R11:=HFN;clear hal hb' hOh HFN
         generalize wd.alloc (.cells #[.int .i64 0,.slice none 0 0] 80)=z0 at *
         generalize wd.heap.size=g11 at *
         (try simp only [Act.put,pu1,pu2,pu3]);refine wpPT_alt (by kernel_rfl) (fun K hK=>?_) ?_
         ·skip
          have hOh:=hide hHh;clear hHh
          go_simp
          go_at_call 44
          refine (RVStep_e HS.out (B:=B) (BV:=BV) _ (HUq.out.under hOh.out (by omega)) (HLq.out.under hOh.out (by omega)) (by have:=hOh.out.size;omega) HF.out HFU.out (HVq.out.under hOh.out (by omega)) (by have:=hOh.out.size;omega) hnV).mono ?_
          rintro e w' ⟨A3,c3,rfl,-,hbel⟩
          have hb':=hbel.mono (B':=wr.heap.size) (by have:=hOh.out.size;omega);replace R11:=hide (R11.out.on hbel);clear hbel;refine hK.out _ _ (hOh.out.trans hb') (fun hHh=>?_);clear hK K;(try simp only [Act.put,pu1,pu2,pu3])
          iterate 4
           refine wpPT_take (v:=?_) (by kernel_rfl) (fun wS hSw=>?_) ?_;rotate_left
           ·(try dsimp only at hSw);go_simp;(try with_reducible rfl)
           (try simp only [Act.put,pu1,pu2,pu3])
          refine wpPT_alt (by kernel_rfl) (fun K hK=>?_) ?_;rotate_left
          ·exact wpPT_stop
          have hOh:=hide hHh;clear hHh;unfold Oper.wp execOp
          go_simp
          have hal:=below_new (below_self w') (.cells #[.int .i64 0,.int .i64 0] 31);have hb':=hal.mono (B':=wr.heap.size) (by have:=hOh.out.size;omega);have HFN:=hide (show RowL (w'.alloc (.cells #[.int .i64 0,.int .i64 0] 31)) w'.heap.size 31 (prC (0,0)) from RowL.new w' 31 (prC (0,0)));have g12l:wr.heap.size≤w'.heap.size:=hOh.out.size;have g11ng12:g11 < w'.heap.size:=R11.out.lt;refine hK.out _ _ (hOh.out.trans hb') (fun hHh=>?_);clear hK K;replace R11:=hide (R11.out.on hal);have R12:=HFN;clear hal hb' hOh HFN
          generalize w'.alloc (.cells #[.int .i64 0,.int .i64 0] 31)=z2 at *
          generalize w'.heap.size=g12 at *
          (try simp only [Act.put,pu1,pu2,pu3]);refine wpPT_take (v:=?_) (by kernel_rfl) (fun wS hSw=>?_) ?_;rotate_left
          ·(try dsimp only at hSw);go_simp;(try with_reducible rfl)
          (try simp only [Act.put,pu1,pu2,pu3]);refine wpPT_alt (by kernel_rfl) (fun K hK=>?_) ?_;rotate_left
          ·exact wpPT_stop
          have hOh:=hide hHh;clear hHh;refine wp_storeC 80 (.tmp 11) (.tmp 59) rfl 2 viw_size g11 0 80 rfl (viwC 0 (.slice none 0 0)) (viwC S.2.1.1 (.slice A3 S.2.1.2.length c3)) rfl R11.out rfl (by exact Nat.le_refl _) (viwC_one _ _ _ _) ?_;intro w' hr' hg' hs';rw [splice_all (viwC 0 (.slice none 0 0)) (viwC S.2.1.1 (.slice A3 S.2.1.2.length c3)) rfl] at hr';refine hK.out _ _ (hOh.out.grown hg' (by have:=hOh.out.size;omega) (pu4 (by omega))) (fun hHh=>?_);clear hK K;replace R12:=hide (R12.out.grown hg' (pu5 (by omega)));clear R11;have R11:=hide hr';clear hg' hs' hr' hOh;(try simp only [Act.put]);refine wpPT_alt (by kernel_rfl) (fun K hK=>?_) ?_;rotate_left
          ·exact wpPT_stop
          have hOh:=hide hHh;clear hHh;refine wp_storeC 31 (.tmp 12) (.tmp 60) rfl 2 plc_size g12 0 31 rfl (prC (0,0)) (prC S.2.2) rfl R12.out rfl (by exact Nat.le_refl _) (prC_one _) ?_;intro w' hr' hg' hs';rw [splice_all (prC (0,0)) (prC S.2.2) rfl] at hr';refine hK.out _ _ (hOh.out.grown hg' (by have:=hOh.out.size;omega) (pu4 (by omega))) (fun hHh=>?_);clear hK K;replace R11:=hide (R11.out.grown hg' (pu5 (by omega)));clear R12;have R12:=hide hr';clear hg' hs' hr' hOh;(try simp only [Act.put]);refine wpPT_leaf ?_;have HBX:=hide hHh;clear hHh
          go_wp2_with fail
          go_meet
          case rel=>exact ⟨rfl,HBX.out⟩
         refine wpPT_alt (by kernel_rfl) (fun K hK=>?_) ?_
         ·skip
          have hOh:=hide hHh;clear hHh;unfold Oper.wp execOp
          go_simp
          have hal:=below_new (below_self z0) (.cells #[.int .i64 0,.int .i64 0] 31);have hb':=hal.mono (B':=wr.heap.size) (by have:=hOh.out.size;omega);have HFN:=hide (show RowL (z0.alloc (.cells #[.int .i64 0,.int .i64 0] 31)) z0.heap.size 31 (prC (0,0)) from RowL.new z0 31 (prC (0,0)));have g12l:wr.heap.size≤z0.heap.size:=hOh.out.size;have g11ng12:g11 < z0.heap.size:=R11.out.lt;refine hK.out _ _ (hOh.out.trans hb') (fun hHh=>?_);clear hK K;replace R11:=hide (R11.out.on hal);have R12:=HFN;clear hal hb' hOh HFN
          generalize z0.alloc (.cells #[.int .i64 0,.int .i64 0] 31)=z1 at *
          generalize z0.heap.size=g12 at *
          (try simp only [Act.put,pu1,pu2,pu3]);refine wpPT_alt (by kernel_rfl) (fun K hK=>?_) ?_;rotate_left
          ·exact wpPT_stop
          have hOh:=hide hHh;clear hHh
          go_simp
          go_at_call 44
          refine (RVStep_e HS.out (B:=B) (BV:=BV) _ (HUq.out.under hOh.out (by omega)) (HLq.out.under hOh.out (by omega)) (by have:=hOh.out.size;omega) HF.out HFU.out (HVq.out.under hOh.out (by omega)) (by have:=hOh.out.size;omega) hnV).mono ?_
          rintro e w' ⟨A3,c3,rfl,-,hbel⟩
          have hb':=hbel.mono (B':=wr.heap.size) (by have:=hOh.out.size;omega);replace R11:=hide (R11.out.on hbel);replace R12:=hide (R12.out.on hbel);clear hbel;refine hK.out _ _ (hOh.out.trans hb') (fun hHh=>?_);clear hK K;(try simp only [Act.put,pu1,pu2,pu3])
          iterate 5
           refine wpPT_take (v:=?_) (by kernel_rfl) (fun wS hSw=>?_) ?_;rotate_left
           ·(try dsimp only at hSw);go_simp;(try with_reducible rfl)
           (try simp only [Act.put,pu1,pu2,pu3])
          refine wpPT_alt (by kernel_rfl) (fun K hK=>?_) ?_;rotate_left
          ·exact wpPT_stop
          have hOh:=hide hHh;clear hHh;refine wp_storeC 80 (.tmp 11) (.tmp 59) rfl 2 viw_size g11 0 80 rfl (viwC 0 (.slice none 0 0)) (viwC S.2.1.1 (.slice A3 S.2.1.2.length c3)) rfl R11.out rfl (by exact Nat.le_refl _) (viwC_one _ _ _ _) ?_;intro w' hr' hg' hs';rw [splice_all (viwC 0 (.slice none 0 0)) (viwC S.2.1.1 (.slice A3 S.2.1.2.length c3)) rfl] at hr';refine hK.out _ _ (hOh.out.grown hg' (by have:=hOh.out.size;omega) (pu4 (by omega))) (fun hHh=>?_);clear hK K;replace R12:=hide (R12.out.grown hg' (pu5 (by omega)));clear R11;have R11:=hide hr';clear hg' hs' hr' hOh;(try simp only [Act.put]);refine wpPT_alt (by kernel_rfl) (fun K hK=>?_) ?_;rotate_left
          ·exact wpPT_stop
          have hOh:=hide hHh;clear hHh;refine wp_storeC 31 (.tmp 12) (.tmp 60) rfl 2 plc_size g12 0 31 rfl (prC (0,0)) (prC S.2.2) rfl R12.out rfl (by exact Nat.le_refl _) (prC_one _) ?_;intro w' hr' hg' hs';rw [splice_all (prC (0,0)) (prC S.2.2) rfl] at hr';refine hK.out _ _ (hOh.out.grown hg' (by have:=hOh.out.size;omega) (pu4 (by omega))) (fun hHh=>?_);clear hK K;replace R11:=hide (R11.out.grown hg' (pu5 (by omega)));clear R12;have R12:=hide hr';clear hg' hs' hr' hOh;(try simp only [Act.put]);refine wpPT_leaf ?_;have HBX:=hide hHh;clear hHh
          go_wp2_with fail
          go_meet
          case rel=>exact ⟨rfl,HBX.out⟩
         exact wpPT_stop
        refine wpPT_alt (by kernel_rfl) (fun K hK=>?_) ?_
        ·skip
         have hOh:=hide hHh;clear hHh;unfold Oper.wp execOp
         go_simp
         have hal:=below_new (below_self wd) (.cells #[.int .i64 0,.int .i64 0] 31);have hb':=hal.mono (B':=wr.heap.size) (by have:=hOh.out.size;omega);have HFN:=hide (show RowL (wd.alloc (.cells #[.int .i64 0,.int .i64 0] 31)) wd.heap.size 31 (prC (0,0)) from RowL.new wd 31 (prC (0,0)));have g12l:wr.heap.size≤wd.heap.size:=hOh.out.size;refine hK.out _ _ (hOh.out.trans hb') (fun hHh=>?_);clear hK K;have R12:=HFN;clear hal hb' hOh HFN
         generalize wd.alloc (.cells #[.int .i64 0,.int .i64 0] 31)=z0 at *
         generalize wd.heap.size=g12 at *
         (try simp only [Act.put,pu1,pu2,pu3]);refine wpPT_alt (by kernel_rfl) (fun K hK=>?_) ?_
         ·skip
          have hOh:=hide hHh;clear hHh
          go_simp
          go_at_call 44
          refine (RVStep_e HS.out (B:=B) (BV:=BV) _ (HUq.out.under hOh.out (by omega)) (HLq.out.under hOh.out (by omega)) (by have:=hOh.out.size;omega) HF.out HFU.out (HVq.out.under hOh.out (by omega)) (by have:=hOh.out.size;omega) hnV).mono ?_
          rintro e w' ⟨A3,c3,rfl,-,hbel⟩
          have hb':=hbel.mono (B':=wr.heap.size) (by have:=hOh.out.size;omega);replace R12:=hide (R12.out.on hbel);clear hbel;refine hK.out _ _ (hOh.out.trans hb') (fun hHh=>?_);clear hK K;(try simp only [Act.put,pu1,pu2,pu3])
          iterate 4
           refine wpPT_take (v:=?_) (by kernel_rfl) (fun wS hSw=>?_) ?_;rotate_left
           ·(try dsimp only at hSw);go_simp;(try with_reducible rfl)
           (try simp only [Act.put,pu1,pu2,pu3])
          refine wpPT_alt (by kernel_rfl) (fun K hK=>?_) ?_;rotate_left
          ·exact wpPT_stop
          have hOh:=hide hHh;clear hHh;unfold Oper.wp execOp
          go_simp
          have hal:=below_new (below_self w') (.cells #[.int .i64 0,.slice none 0 0] 80);have hb':=hal.mono (B':=wr.heap.size) (by have:=hOh.out.size;omega);have HFN:=hide (show RowL (w'.alloc (.cells #[.int .i64 0,.slice none 0 0] 80)) w'.heap.size 80 (viwC 0 (.slice none 0 0)) from RowL.new w' 80 (viwC 0 (.slice none 0 0)));have g11l:wr.heap.size≤w'.heap.size:=hOh.out.size;have g12ng11:g12 < w'.heap.size:=R12.out.lt;refine hK.out _ _ (hOh.out.trans hb') (fun hHh=>?_);clear hK K;replace R12:=hide (R12.out.on hal);have R11:=HFN;clear hal hb' hOh HFN
          generalize w'.alloc (.cells #[.int .i64 0,.slice none 0 0] 80)=z2 at *
          generalize w'.heap.size=g11 at *
          (try simp only [Act.put,pu1,pu2,pu3]);refine wpPT_take (v:=?_) (by kernel_rfl) (fun wS hSw=>?_) ?_;rotate_left
          ·(try dsimp only at hSw);go_simp;(try with_reducible rfl)
          (try simp only [Act.put,pu1,pu2,pu3]);refine wpPT_alt (by kernel_rfl) (fun K hK=>?_) ?_;rotate_left
          ·exact wpPT_stop
          have hOh:=hide hHh;clear hHh;refine wp_storeC 80 (.tmp 11) (.tmp 59) rfl 2 viw_size g11 0 80 rfl (viwC 0 (.slice none 0 0)) (viwC S.2.1.1 (.slice A3 S.2.1.2.length c3)) rfl R11.out rfl (by exact Nat.le_refl _) (viwC_one _ _ _ _) ?_;intro w' hr' hg' hs';rw [splice_all (viwC 0 (.slice none 0 0)) (viwC S.2.1.1 (.slice A3 S.2.1.2.length c3)) rfl] at hr';refine hK.out _ _ (hOh.out.grown hg' (by have:=hOh.out.size;omega) (pu4 (by omega))) (fun hHh=>?_);clear hK K;replace R12:=hide (R12.out.grown hg' (pu5 (by omega)));clear R11;have R11:=hide hr';clear hg' hs' hr' hOh;(try simp only [Act.put]);refine wpPT_alt (by kernel_rfl) (fun K hK=>?_) ?_;rotate_left
          ·exact wpPT_stop
          have hOh:=hide hHh;clear hHh;refine wp_storeC 31 (.tmp 12) (.tmp 60) rfl 2 plc_size g12 0 31 rfl (prC (0,0)) (prC S.2.2) rfl R12.out rfl (by exact Nat.le_refl _) (prC_one _) ?_;intro w' hr' hg' hs';rw [splice_all (prC (0,0)) (prC S.2.2) rfl] at hr';refine hK.out _ _ (hOh.out.grown hg' (by have:=hOh.out.size;omega) (pu4 (by omega))) (fun hHh=>?_);clear hK K;replace R11:=hide (R11.out.grown hg' (pu5 (by omega)));clear R12;have R12:=hide hr';clear hg' hs' hr' hOh;(try simp only [Act.put]);refine wpPT_leaf ?_;have HBX:=hide hHh;clear hHh
          go_wp2_with fail
          go_meet
          case rel=>exact ⟨rfl,HBX.out⟩
         refine wpPT_alt (by kernel_rfl) (fun K hK=>?_) ?_
         ·skip
          have hOh:=hide hHh;clear hHh;unfold Oper.wp execOp
          go_simp
          have hal:=below_new (below_self z0) (.cells #[.int .i64 0,.slice none 0 0] 80);have hb':=hal.mono (B':=wr.heap.size) (by have:=hOh.out.size;omega);have HFN:=hide (show RowL (z0.alloc (.cells #[.int .i64 0,.slice none 0 0] 80)) z0.heap.size 80 (viwC 0 (.slice none 0 0)) from RowL.new z0 80 (viwC 0 (.slice none 0 0)));have g11l:wr.heap.size≤z0.heap.size:=hOh.out.size;have g12ng11:g12 < z0.heap.size:=R12.out.lt;refine hK.out _ _ (hOh.out.trans hb') (fun hHh=>?_);clear hK K;replace R12:=hide (R12.out.on hal);have R11:=HFN;clear hal hb' hOh HFN
          generalize z0.alloc (.cells #[.int .i64 0,.slice none 0 0] 80)=z1 at *
          generalize z0.heap.size=g11 at *
          (try simp only [Act.put,pu1,pu2,pu3]);refine wpPT_alt (by kernel_rfl) (fun K hK=>?_) ?_;rotate_left
          ·exact wpPT_stop
          have hOh:=hide hHh;clear hHh
          go_simp
          go_at_call 44
          refine (RVStep_e HS.out (B:=B) (BV:=BV) _ (HUq.out.under hOh.out (by omega)) (HLq.out.under hOh.out (by omega)) (by have:=hOh.out.size;omega) HF.out HFU.out (HVq.out.under hOh.out (by omega)) (by have:=hOh.out.size;omega) hnV).mono ?_
          rintro e w' ⟨A3,c3,rfl,-,hbel⟩
          have hb':=hbel.mono (B':=wr.heap.size) (by have:=hOh.out.size;omega);replace R12:=hide (R12.out.on hbel);replace R11:=hide (R11.out.on hbel);clear hbel;refine hK.out _ _ (hOh.out.trans hb') (fun hHh=>?_);clear hK K;(try simp only [Act.put,pu1,pu2,pu3])
          iterate 5
           refine wpPT_take (v:=?_) (by kernel_rfl) (fun wS hSw=>?_) ?_;rotate_left
           ·(try dsimp only at hSw);go_simp;(try with_reducible rfl)
           (try simp only [Act.put,pu1,pu2,pu3])
          refine wpPT_alt (by kernel_rfl) (fun K hK=>?_) ?_;rotate_left
          ·exact wpPT_stop
          have hOh:=hide hHh;clear hHh;refine wp_storeC 80 (.tmp 11) (.tmp 59) rfl 2 viw_size g11 0 80 rfl (viwC 0 (.slice none 0 0)) (viwC S.2.1.1 (.slice A3 S.2.1.2.length c3)) rfl R11.out rfl (by exact Nat.le_refl _) (viwC_one _ _ _ _) ?_;intro w' hr' hg' hs';rw [splice_all (viwC 0 (.slice none 0 0)) (viwC S.2.1.1 (.slice A3 S.2.1.2.length c3)) rfl] at hr';refine hK.out _ _ (hOh.out.grown hg' (by have:=hOh.out.size;omega) (pu4 (by omega))) (fun hHh=>?_);clear hK K;replace R12:=hide (R12.out.grown hg' (pu5 (by omega)));clear R11;have R11:=hide hr';clear hg' hs' hr' hOh;(try simp only [Act.put]);refine wpPT_alt (by kernel_rfl) (fun K hK=>?_) ?_;rotate_left
          ·exact wpPT_stop
          have hOh:=hide hHh;clear hHh;refine wp_storeC 31 (.tmp 12) (.tmp 60) rfl 2 plc_size g12 0 31 rfl (prC (0,0)) (prC S.2.2) rfl R12.out rfl (by exact Nat.le_refl _) (prC_one _) ?_;intro w' hr' hg' hs';rw [splice_all (prC (0,0)) (prC S.2.2) rfl] at hr';refine hK.out _ _ (hOh.out.grown hg' (by have:=hOh.out.size;omega) (pu4 (by omega))) (fun hHh=>?_);clear hK K;replace R11:=hide (R11.out.grown hg' (pu5 (by omega)));clear R12;have R12:=hide hr';clear hg' hs' hr' hOh;(try simp only [Act.put]);refine wpPT_leaf ?_;have HBX:=hide hHh;clear hHh
          go_wp2_with fail
          go_meet
          case rel=>exact ⟨rfl,HBX.out⟩
         exact wpPT_stop
        exact wpPT_stop
       case rest =>
       obtain ⟨rfl,hbx⟩:=hcut;have HO9:=hide (HO8.out.below hbx);have HBX:=hide (HBQ.out.trans (hbx.mono hbq));have hsx:=hbx.size
       have qn':wc.cell? ⟨bN,oN+j,none⟩=some (.string ⟨nm.toArray⟩):=HNM.out wc hbx
       clear hbx
       cases b2 with
       | false =>
        go_wp2_with fail
        go_roundw
        case rel=>exact ⟨j+1,n8,A8,c8,by omega,by go_num,rfl,by omega,by rw [HKS.out,if_neg (by simp)];exact HO9.out,HBX.out⟩
        case measure=>simp [intOf];omega
       | true =>
        go_wp2_with (at_builtin;refine wpList_append_Rd (f:=st) _ rfl (.tmp 63) (.tmp 68) 41 rfl wo.heap.size 9 _ 16 Tryz.underlying41 info_st rfl (fun _=>rfl) A8 n8 c8 _ rfl (HO9.out.below (below_new (below_self wc) _)) _ _ 1 1 [nm] rfl (Rd.one _ _ rfl) (n8+1) rfl (by omega) (by omega) (by simp;omega) ?_;intro A7 c7 w9 ho9 hb9;have HOZ:=hide ho9;have hs9:=hb9.size;have HBZ:=hide ((HBX.out.alloc (by omega) _).trans hb9);clear ho9 hb9)
        go_roundw
        case rel=>exact ⟨j+1,n8+1,A7,c7,by omega,by go_num,rfl,by omega,by rw [HKS.out,if_pos (by simp)];exact HOZ.out,HBZ.out⟩
        case measure=>simp [intOf];omega
      ·obtain rfl:j=n6:=by omega
       have ho9:=HO8.out;rw [List.take_of_length_le (by have:=HXL.out;omega)] at ho9;have HOF:=hide ho9;clear ho9 hbr8
       go_wp2_with fail
       refine (RSort_any wr HOF.out.rd (by omega)).mono ?_
       rintro ez w3 ⟨A3,c3,rfl,ho3,hb3⟩
       have HO3:=hide ho3;have HB3:=hide (HB.out.trans ((HBQ.out.trans (hb3.mono hbq)).mono (by omega)));clear hb3 ho3
       go_wp2_with fail
       go_ret
       rw [HNV.out];exact ⟨A3,_,c3,rfl,HO3.out.rebase (by omega),HB3.out⟩
    ·have ho:Ow st wo W1.heap.size 9 A6 n6 c6 (allV up ls (u,vl)):=by
      have:=HO6.out
      rw [List.take_of_length_le (l:=EL) (i:=EL.length) (Nat.le_refl _)] at this;rw [HAV.out];exact this
     have hk1:∀b,b < W1.heap.size→wo.heap[b]?=wS5.heap[b]?:=fun b hb=>HBR.out.block b hb;replace HB:=hide (HB.out.trans (HBR.out.mono hW1w));replace R2:=hide (show RowL wo w.heap.size _ _ from (hk1 _ (by omega)).trans R2.out);replace R3:=hide (show RowL wo (w.heap.size+1) _ _ from (hk1 _ (by omega)).trans R3.out);replace HU:=hide (HU.out.mono (fun b hb=>hk1 b (Nat.lt_of_lt_of_le hb (by omega))) (fun _ h=>h):RdE nodEn wo (Under B) AU nU up);replace HL:=hide (HL.out.mono (fun b hb=>hk1 b (Nat.lt_of_lt_of_le hb (by omega))) (fun _ h=>h):RdE layEn wo (Under B) AL nL ls);replace HV:=hide (HV.out.mono (fun b hb=>hk1 b (Nat.lt_of_lt_of_le hb (by omega))) (fun _ h=>h):RdE prEn wo (Under BV) AV nV vl)
     have hna:n6≤20000:=by omega
     obtain ⟨X,hX⟩:∃X,allV up ls (u,vl)=X:=⟨_,rfl⟩;have HNV:=hide (show namesV up ls (u,vl)=sortS (X.filter (fun x=>!hidV up ls (u,vl) x)) from by unfold namesV;rw [sort_filter,hX]);rw [hX] at ho;have HXL:=hide ho.rd.len;have HX:=hide ho.rd;have HO0:=hide (show Ow st (wo.alloc (.cells #[] 9)) wo.heap.size 9 (some ⟨wo.heap.size,0,none⟩) 0 0 [] from own_lit0 wo 9 1 (base:=wo.heap.size) rfl (Nat.le_refl _));have HW0:=hide (below_new (below_self wo) (.cells #[] 9));clear ho hk1 HE HO6 HRI hX
     go_wp2_with fail
     go_loopw [8,9] (fun v8 v9 wr=>∃(j n8:Nat) (A8:Option Addr) (c8:Nat),j≤n6∧v9=.int .i64 j∧v8=.slice A8 n8 c8∧n8≤j∧Ow st wr wo.heap.size 9 A8 n8 c8 ((X.take j).filter (fun x=>!hidV up ls (u,vl) x))∧Below wo.heap.size wo wr) (fun _ v9 _=>n6 - (intOf v9).toNat)
     case atStart=>exact ⟨0,0,_,0,by omega,rfl,rfl,by omega,HO0.out,HW0.out⟩
     case round =>
      obtain ⟨j,n8,A8,c8,hj,rfl,rfl,hn8,ho8,hbr8⟩:=hrel;have HO8:=hide ho8;have HBQ:=hide hbr8;have hbq:=hbr8.size;have R2q:=hide (R2.out.on hbr8);have R3q:=hide (R3.out.on hbr8);have HUq:=hide (HU.out.under hbr8 (by omega));have HLq:=hide (HL.out.under hbr8 (by omega));have HVq:=hide (HV.out.under hbr8 (by omega));clear ho8
      by_cases hlt3:j < n6
      ·obtain ⟨nm,hnm⟩:∃nm,X[j]?=some nm:=⟨_,List.getElem?_eq_getElem (by have:=HXL.out;omega)⟩
       obtain ⟨bN,oN,hA6,hbN,hcN⟩:=HX.out.2 (by omega);have hcn:=hcN j nm hnm;have HNM:=hide (fun W (hb:Below wr.heap.size wr W)=>show W.cell? ⟨bN,oN+j,none⟩=some (.string ⟨nm.toArray⟩) from (hb.cell (p:=⟨bN,oN+j,none⟩) (show bN < wr.heap.size by omega)).trans ((hbr8.cell (p:=⟨bN,oN+j,none⟩) hbN).trans hcn));have hqn:wr.cell? ⟨bN,oN+j,none⟩=some (.string ⟨nm.toArray⟩):=HNM.out wr (Below.refl _ _);obtain ⟨S,hS⟩:∃S,stepV up ls (u,vl) nm=S:=⟨_,rfl⟩;obtain ⟨b2,hb2⟩:∃b2,(S.1 != 0)=b2:=⟨_,rfl⟩
       have HKS:=hide (show (X.take (j+1)).filter (fun x=>!hidV up ls (u,vl) x)=if b2=true then (X.take j).filter (fun x=>!hidV up ls (u,vl) x)++[nm] else (X.take j).filter (fun x=>!hidV up ls (u,vl) x) from by
        rw [List.take_add_one,hnm,Option.toList_some,List.filter_append]
        have:(!hidV up ls (u,vl) nm)=b2:=by unfold hidV;rw [hS,←hb2];by_cases hk:S.1=0 <;> simp [hk]
        cases b2 <;> simp [this])
       have HS:=hide hS;subst hA6
       have hj6:(j:Int) < (n6:Int):=by omega
       clear hnm hcN hcn hS hbr8
       go_upto_region 11 with fail
       go_cut [10] from 50 to 60 (fun v10 wx=>v10=.int .i64 S.1∧Below wr.heap.size wr wx)
       case first =>
        refine wp_region_G (fun w'=>Below (wr.heap.size) wr w') (.take 0 (.take 1 (.take 2 (.take 3 (.take 4 (.take 5 (.alt 6 (.take 7 (.take 8 (.take 9 (.take 10 (.alt 11 (.alt 12 (.take 13 (.alt 14 (.alt 15 .leaf .stop) .stop)) .stop) (.alt 12 (.alt 11 (.take 13 (.alt 14 (.alt 15 .leaf .stop) .stop)) .stop) .stop)))))) (.alt 11 (.alt 6 (.take 7 (.take 8 (.take 9 (.take 10 (.alt 12 (.take 13 (.alt 14 (.alt 15 .leaf .stop) .stop)) .stop))))) (.alt 12 (.alt 6 (.take 7 (.take 8 (.take 9 (.take 10 (.take 13 (.alt 14 (.alt 15 .leaf .stop) .stop)))))) .stop) .stop)) (.alt 12 (.alt 6 (.take 7 (.take 8 (.take 9 (.take 10 (.alt 11 (.take 13 (.alt 14 (.alt 15 .leaf .stop) .stop)) .stop))))) (.alt 11 (.alt 6 (.take 7 (.take 8 (.take 9 (.take 10 (.take 13 (.alt 14 (.alt 15 .leaf .stop) .stop)))))) .stop) .stop)) .stop))))))))) (by kernel_rfl) (by kernel_rfl) (by kernel_rfl) (by kernel_rfl) rfl (fun _ _ _ _ _ h=>h) (below_drew (below_self wr)) (fun hHh=>?_)
        generalize wr.drew=wd at *
        simp only [PT.map,List.getElem?_toArray,List.getElem?_cons_succ,List.getElem?_cons_zero];refine wpPT_take (v:=?_) (by kernel_rfl) (fun wS hSw=>?_) ?_;rotate_left
        ·refine execOp_load (x:=.tmp 2) (k:=6) (g:=w.heap.size) (off:=0) (cs:=stkC g (.slice AU nU cU) (.slice AL nL cL)) ?_ stk_agg stk_size ?_ (fun j v hv=>by rw [Nat.zero_add];exact ((R2q.out.on hSw).cell j).trans hv) rfl <;> rfl
        (try simp only [Act.put,pu1,pu2,pu3]);refine wpPT_take (v:=?_) (by kernel_rfl) (fun wS hSw=>?_) ?_;rotate_left
        ·refine execOp_load (x:=.tmp 3) (k:=2) (g:=w.heap.size+1) (off:=0) (cs:=viwC u (.slice AV nV cV)) ?_ viw_agg viw_size ?_ (fun j v hv=>by rw [Nat.zero_add];exact ((R3q.out.on hSw).cell j).trans hv) rfl <;> rfl
        (try simp only [Act.put,pu1,pu2,pu3])
        iterate 3
         refine wpPT_take (v:=?_) (by kernel_rfl) (fun wS hSw=>?_) ?_;rotate_left
         ·(try dsimp only at hSw);go_simp;(try with_reducible rfl)
         (try simp only [Act.put,pu1,pu2,pu3])
        refine wpPT_take (v:=?_) (by kernel_rfl) (fun wS hSw=>?_) ?_;rotate_left
        ·have qx:=HNM.out wS hSw;go_simp;(try with_reducible rfl)
        (try simp only [Act.put,pu1,pu2,pu3]);refine wpPT_alt (by kernel_rfl) (fun K hK=>?_) ?_
        ·skip
         have hOh:=hide hHh;clear hHh
         go_simp
         go_at_call 44
         refine (RVStep_e HS.out (B:=B) (BV:=BV) _ (HUq.out.under hOh.out (by omega)) (HLq.out.under hOh.out (by omega)) (by have:=hOh.out.size;omega) HF.out HFU.out (HVq.out.under hOh.out (by omega)) (by have:=hOh.out.size;omega) hnV).mono ?_
         rintro e w' ⟨A3,c3,rfl,-,hbel⟩
         have hb':=hbel.mono (B':=wr.heap.size) (by have:=hOh.out.size;omega);clear hbel;refine hK.out _ _ (hOh.out.trans hb') (fun hHh=>?_);clear hK K;(try simp only [Act.put,pu1,pu2,pu3])
         iterate 4
          refine wpPT_take (v:=?_) (by kernel_rfl) (fun wS hSw=>?_) ?_;rotate_left
          ·(try dsimp only at hSw);go_simp;(try with_reducible rfl)
          (try simp only [Act.put,pu1,pu2,pu3])
         refine wpPT_alt (by kernel_rfl) (fun K hK=>?_) ?_
         ·skip
          have hOh:=hide hHh;clear hHh;unfold Oper.wp execOp
          go_simp
          have hal:=below_new (below_self w') (.cells #[.int .i64 0,.slice none 0 0] 80);have hb':=hal.mono (B':=wr.heap.size) (by have:=hOh.out.size;omega);have HFN:=hide (show RowL (w'.alloc (.cells #[.int .i64 0,.slice none 0 0] 80)) w'.heap.size 80 (viwC 0 (.slice none 0 0)) from RowL.new w' 80 (viwC 0 (.slice none 0 0)));have g11l:wr.heap.size≤w'.heap.size:=hOh.out.size;refine hK.out _ _ (hOh.out.trans hb') (fun hHh=>?_);clear hK K;have R11:=HFN;clear hal hb' hOh HFN
          generalize w'.alloc (.cells #[.int .i64 0,.slice none 0 0] 80)=z1 at *
          generalize w'.heap.size=g11 at *
          (try simp only [Act.put,pu1,pu2,pu3]);refine wpPT_alt (by kernel_rfl) (fun K hK=>?_) ?_;rotate_left
          ·exact wpPT_stop
          have hOh:=hide hHh;clear hHh;unfold Oper.wp execOp
          go_simp
          have hal:=below_new (below_self z1) (.cells #[.int .i64 0,.int .i64 0] 31);have hb':=hal.mono (B':=wr.heap.size) (by have:=hOh.out.size;omega);have HFN:=hide (show RowL (z1.alloc (.cells #[.int .i64 0,.int .i64 0] 31)) z1.heap.size 31 (prC (0,0)) from RowL.new z1 31 (prC (0,0)));have g12l:wr.heap.size≤z1.heap.size:=hOh.out.size;have g11ng12:g11 < z1.heap.size:=R11.out.lt;refine hK.out _ _ (hOh.out.trans hb') (fun hHh=>?_);clear hK K;replace R11:=hide (R11.out.on hal);have R12:=HFN;clear hal hb' hOh HFN
          generalize z1.alloc (.cells #[.int .i64 0,.int .i64 0] 31)=z2 at *
          generalize z1.heap.size=g12 at *
          (try simp only [Act.put,pu1,pu2,pu3]);refine wpPT_take (v:=?_) (by kernel_rfl) (fun wS hSw=>?_) ?_;rotate_left
          ·(try dsimp only at hSw);go_simp;(try with_reducible rfl)
          (try simp only [Act.put,pu1,pu2,pu3]);refine wpPT_alt (by kernel_rfl) (fun K hK=>?_) ?_;rotate_left
          ·exact wpPT_stop
          have hOh:=hide hHh;clear hHh;refine wp_storeC 80 (.tmp 11) (.tmp 59) rfl 2 viw_size g11 0 80 rfl (viwC 0 (.slice none 0 0)) (viwC S.2.1.1 (.slice A3 S.2.1.2.length c3)) rfl R11.out rfl (by exact Nat.le_refl _) (viwC_one _ _ _ _) ?_;intro w' hr' hg' hs';rw [splice_all (viwC 0 (.slice none 0 0)) (viwC S.2.1.1 (.slice A3 S.2.1.2.length c3)) rfl] at hr';refine hK.out _ _ (hOh.out.grown hg' (by have:=hOh.out.size;omega) (pu4 (by omega))) (fun hHh=>?_);clear hK K;replace R12:=hide (R12.out.grown hg' (pu5 (by omega)));clear R11;have R11:=hide hr';clear hg' hs' hr' hOh;(try simp only [Act.put]);refine wpPT_alt (by kernel_rfl) (fun K hK=>?_) ?_;rotate_left
          ·exact wpPT_stop
          have hOh:=hide hHh;clear hHh;refine wp_storeC 31 (.tmp 12) (.tmp 60) rfl 2 plc_size g12 0 31 rfl (prC (0,0)) (prC S.2.2) rfl R12.out rfl (by exact Nat.le_refl _) (prC_one _) ?_;intro w' hr' hg' hs';rw [splice_all (prC (0,0)) (prC S.2.2) rfl] at hr';refine hK.out _ _ (hOh.out.grown hg' (by have:=hOh.out.size;omega) (pu4 (by omega))) (fun hHh=>?_);clear hK K;replace R11:=hide (R11.out.grown hg' (pu5 (by omega)));clear R12;have R12:=hide hr';clear hg' hs' hr' hOh;(try simp only [Act.put]);refine wpPT_leaf ?_;have HBX:=hide hHh;clear hHh
          go_wp2_with fail
          go_meet
          case rel=>exact ⟨rfl,HBX.out⟩
         refine wpPT_alt (by kernel_rfl) (fun K hK=>?_) ?_
         ·skip
          have hOh:=hide hHh;clear hHh;unfold Oper.wp execOp
          go_simp
          have hal:=below_new (below_self w') (.cells #[.int .i64 0,.int .i64 0] 31);have hb':=hal.mono (B':=wr.heap.size) (by have:=hOh.out.size;omega);have HFN:=hide (show RowL (w'.alloc (.cells #[.int .i64 0,.int .i64 0] 31)) w'.heap.size 31 (prC (0,0)) from RowL.new w' 31 (prC (0,0)));have g12l:wr.heap.size≤w'.heap.size:=hOh.out.size;refine hK.out _ _ (hOh.out.trans hb') (fun hHh=>?_);clear hK K;have R12:=HFN;clear hal hb' hOh HFN
          generalize w'.alloc (.cells #[.int .i64 0,.int .i64 0] 31)=z1 at *
          generalize w'.heap.size=g12 at *
          (try simp only [Act.put,pu1,pu2,pu3]);refine wpPT_alt (by kernel_rfl) (fun K hK=>?_) ?_;rotate_left
          ·exact wpPT_stop
          have hOh:=hide hHh;clear hHh;unfold Oper.wp execOp
          go_simp
          have hal:=below_new (below_self z1) (.cells #[.int .i64 0,.slice none 0 0] 80);have hb':=hal.mono (B':=wr.heap.size) (by have:=hOh.out.size;omega);have HFN:=hide (show RowL (z1.alloc (.cells #[.int .i64 0,.slice none 0 0] 80)) z1.heap.size 80 (viwC 0 (.slice none 0 0)) from RowL.new z1 80 (viwC 0 (.slice none 0 0)));have g11l:wr.heap.size≤z1.heap.size:=hOh.out.size;have g12ng11:g12 < z1.heap.size:=R12.out.lt;refine hK.out _ _ (hOh.out.trans hb') (fun hHh=>?_);clear hK K;replace R12:=hide (R12.out.on hal);have R11:=HFN;clear hal hb' hOh HFN
          generalize z1.alloc (.cells #[.int .i64 0,.slice none 0 0] 80)=z2 at *
          generalize z1.heap.size=g11 at *
          (try simp only [Act.put,pu1,pu2,pu3]);refine wpPT_take (v:=?_) (by kernel_rfl) (fun wS hSw=>?_) ?_;rotate_left
          ·(try dsimp only at hSw);go_simp;(try with_reducible rfl)
          (try simp only [Act.put,pu1,pu2,pu3]);refine wpPT_alt (by kernel_rfl) (fun K hK=>?_) ?_;rotate_left
          ·exact wpPT_stop
          have hOh:=hide hHh;clear hHh;refine wp_storeC 80 (.tmp 11) (.tmp 59) rfl 2 viw_size g11 0 80 rfl (viwC 0 (.slice none 0 0)) (viwC S.2.1.1 (.slice A3 S.2.1.2.length c3)) rfl R11.out rfl (by exact Nat.le_refl _) (viwC_one _ _ _ _) ?_;intro w' hr' hg' hs';rw [splice_all (viwC 0 (.slice none 0 0)) (viwC S.2.1.1 (.slice A3 S.2.1.2.length c3)) rfl] at hr';refine hK.out _ _ (hOh.out.grown hg' (by have:=hOh.out.size;omega) (pu4 (by omega))) (fun hHh=>?_);clear hK K;replace R12:=hide (R12.out.grown hg' (pu5 (by omega)));clear R11;have R11:=hide hr';clear hg' hs' hr' hOh;(try simp only [Act.put]);refine wpPT_alt (by kernel_rfl) (fun K hK=>?_) ?_;rotate_left
          ·exact wpPT_stop
          have hOh:=hide hHh;clear hHh;refine wp_storeC 31 (.tmp 12) (.tmp 60) rfl 2 plc_size g12 0 31 rfl (prC (0,0)) (prC S.2.2) rfl R12.out rfl (by exact Nat.le_refl _) (prC_one _) ?_;intro w' hr' hg' hs';rw [splice_all (prC (0,0)) (prC S.2.2) rfl] at hr';refine hK.out _ _ (hOh.out.grown hg' (by have:=hOh.out.size;omega) (pu4 (by omega))) (fun hHh=>?_);clear hK K;replace R11:=hide (R11.out.grown hg' (pu5 (by omega)));clear R12;have R12:=hide hr';clear hg' hs' hr' hOh;(try simp only [Act.put]);refine wpPT_leaf ?_;have HBX:=hide hHh;clear hHh
          go_wp2_with fail
          go_meet
          case rel=>exact ⟨rfl,HBX.out⟩
         exact wpPT_stop
        refine wpPT_alt (by kernel_rfl) (fun K hK=>?_) ?_
        ·skip
         have hOh:=hide hHh;clear hHh;unfold Oper.wp execOp
         go_simp
         have hal:=below_new (below_self wd) (.cells #[.int .i64 0,.slice none 0 0] 80);have hb':=hal.mono (B':=wr.heap.size) (by have:=hOh.out.size;omega);have HFN:=hide (show RowL (wd.alloc (.cells #[.int .i64 0,.slice none 0 0] 80)) wd.heap.size 80 (viwC 0 (.slice none 0 0)) from RowL.new wd 80 (viwC 0 (.slice none 0 0)));have g11l:wr.heap.size≤wd.heap.size:=hOh.out.size;refine hK.out _ _ (hOh.out.trans hb') (fun hHh=>?_);clear hK K;have R11:=HFN;clear hal hb' hOh HFN
         generalize wd.alloc (.cells #[.int .i64 0,.slice none 0 0] 80)=z0 at *
         generalize wd.heap.size=g11 at *
         (try simp only [Act.put,pu1,pu2,pu3]);refine wpPT_alt (by kernel_rfl) (fun K hK=>?_) ?_
         ·skip
          have hOh:=hide hHh;clear hHh
          go_simp
          go_at_call 44
          refine (RVStep_e HS.out (B:=B) (BV:=BV) _ (HUq.out.under hOh.out (by omega)) (HLq.out.under hOh.out (by omega)) (by have:=hOh.out.size;omega) HF.out HFU.out (HVq.out.under hOh.out (by omega)) (by have:=hOh.out.size;omega) hnV).mono ?_
          rintro e w' ⟨A3,c3,rfl,-,hbel⟩
          have hb':=hbel.mono (B':=wr.heap.size) (by have:=hOh.out.size;omega);replace R11:=hide (R11.out.on hbel);clear hbel;refine hK.out _ _ (hOh.out.trans hb') (fun hHh=>?_);clear hK K;(try simp only [Act.put,pu1,pu2,pu3])
          iterate 4
           refine wpPT_take (v:=?_) (by kernel_rfl) (fun wS hSw=>?_) ?_;rotate_left
           ·(try dsimp only at hSw);go_simp;(try with_reducible rfl)
           (try simp only [Act.put,pu1,pu2,pu3])
          refine wpPT_alt (by kernel_rfl) (fun K hK=>?_) ?_;rotate_left
          ·exact wpPT_stop
          have hOh:=hide hHh;clear hHh;unfold Oper.wp execOp
          go_simp
          have hal:=below_new (below_self w') (.cells #[.int .i64 0,.int .i64 0] 31);have hb':=hal.mono (B':=wr.heap.size) (by have:=hOh.out.size;omega);have HFN:=hide (show RowL (w'.alloc (.cells #[.int .i64 0,.int .i64 0] 31)) w'.heap.size 31 (prC (0,0)) from RowL.new w' 31 (prC (0,0)));have g12l:wr.heap.size≤w'.heap.size:=hOh.out.size;have g11ng12:g11 < w'.heap.size:=R11.out.lt;refine hK.out _ _ (hOh.out.trans hb') (fun hHh=>?_);clear hK K;replace R11:=hide (R11.out.on hal);have R12:=HFN;clear hal hb' hOh HFN
          generalize w'.alloc (.cells #[.int .i64 0,.int .i64 0] 31)=z2 at *
          generalize w'.heap.size=g12 at *
          (try simp only [Act.put,pu1,pu2,pu3]);refine wpPT_take (v:=?_) (by kernel_rfl) (fun wS hSw=>?_) ?_;rotate_left
          ·(try dsimp only at hSw);go_simp;(try with_reducible rfl)
          (try simp only [Act.put,pu1,pu2,pu3]);refine wpPT_alt (by kernel_rfl) (fun K hK=>?_) ?_;rotate_left
          ·exact wpPT_stop
          have hOh:=hide hHh;clear hHh;refine wp_storeC 80 (.tmp 11) (.tmp 59) rfl 2 viw_size g11 0 80 rfl (viwC 0 (.slice none 0 0)) (viwC S.2.1.1 (.slice A3 S.2.1.2.length c3)) rfl R11.out rfl (by exact Nat.le_refl _) (viwC_one _ _ _ _) ?_;intro w' hr' hg' hs';rw [splice_all (viwC 0 (.slice none 0 0)) (viwC S.2.1.1 (.slice A3 S.2.1.2.length c3)) rfl] at hr';refine hK.out _ _ (hOh.out.grown hg' (by have:=hOh.out.size;omega) (pu4 (by omega))) (fun hHh=>?_);clear hK K;replace R12:=hide (R12.out.grown hg' (pu5 (by omega)));clear R11;have R11:=hide hr';clear hg' hs' hr' hOh;(try simp only [Act.put]);refine wpPT_alt (by kernel_rfl) (fun K hK=>?_) ?_;rotate_left
          ·exact wpPT_stop
          have hOh:=hide hHh;clear hHh;refine wp_storeC 31 (.tmp 12) (.tmp 60) rfl 2 plc_size g12 0 31 rfl (prC (0,0)) (prC S.2.2) rfl R12.out rfl (by exact Nat.le_refl _) (prC_one _) ?_;intro w' hr' hg' hs';rw [splice_all (prC (0,0)) (prC S.2.2) rfl] at hr';refine hK.out _ _ (hOh.out.grown hg' (by have:=hOh.out.size;omega) (pu4 (by omega))) (fun hHh=>?_);clear hK K;replace R11:=hide (R11.out.grown hg' (pu5 (by omega)));clear R12;have R12:=hide hr';clear hg' hs' hr' hOh;(try simp only [Act.put]);refine wpPT_leaf ?_;have HBX:=hide hHh;clear hHh
          go_wp2_with fail
          go_meet
          case rel=>exact ⟨rfl,HBX.out⟩
         refine wpPT_alt (by kernel_rfl) (fun K hK=>?_) ?_
         ·skip
          have hOh:=hide hHh;clear hHh;unfold Oper.wp execOp
          go_simp
          have hal:=below_new (below_self z0) (.cells #[.int .i64 0,.int .i64 0] 31);have hb':=hal.mono (B':=wr.heap.size) (by have:=hOh.out.size;omega);have HFN:=hide (show RowL (z0.alloc (.cells #[.int .i64 0,.int .i64 0] 31)) z0.heap.size 31 (prC (0,0)) from RowL.new z0 31 (prC (0,0)));have g12l:wr.heap.size≤z0.heap.size:=hOh.out.size;have g11ng12:g11 < z0.heap.size:=R11.out.lt;refine hK.out _ _ (hOh.out.trans hb') (fun hHh=>?_);clear hK K;replace R11:=hide (R11.out.on hal);have R12:=HFN;clear hal hb' hOh HFN
          generalize z0.alloc (.cells #[.int .i64 0,.int .i64 0] 31)=z1 at *
          generalize z0.heap.size=g12 at *
          (try simp only [Act.put,pu1,pu2,pu3]);refine wpPT_alt (by kernel_rfl) (fun K hK=>?_) ?_;rotate_left
          ·exact wpPT_stop
          have hOh:=hide hHh;clear hHh
          go_simp
          go_at_call 44
          refine (RVStep_e HS.out (B:=B) (BV:=BV) _ (HUq.out.under hOh.out (by omega)) (HLq.out.under hOh.out (by omega)) (by have:=hOh.out.size;omega) HF.out HFU.out (HVq.out.under hOh.out (by omega)) (by have:=hOh.out.size;omega) hnV).mono ?_
          rintro e w' ⟨A3,c3,rfl,-,hbel⟩
          have hb':=hbel.mono (B':=wr.heap.size) (by have:=hOh.out.size;omega);replace R11:=hide (R11.out.on hbel);replace R12:=hide (R12.out.on hbel);clear hbel;refine hK.out _ _ (hOh.out.trans hb') (fun hHh=>?_);clear hK K;(try simp only [Act.put,pu1,pu2,pu3])
          iterate 5
           refine wpPT_take (v:=?_) (by kernel_rfl) (fun wS hSw=>?_) ?_;rotate_left
           ·(try dsimp only at hSw);go_simp;(try with_reducible rfl)
           (try simp only [Act.put,pu1,pu2,pu3])
          refine wpPT_alt (by kernel_rfl) (fun K hK=>?_) ?_;rotate_left
          ·exact wpPT_stop
          have hOh:=hide hHh;clear hHh;refine wp_storeC 80 (.tmp 11) (.tmp 59) rfl 2 viw_size g11 0 80 rfl (viwC 0 (.slice none 0 0)) (viwC S.2.1.1 (.slice A3 S.2.1.2.length c3)) rfl R11.out rfl (by exact Nat.le_refl _) (viwC_one _ _ _ _) ?_;intro w' hr' hg' hs';rw [splice_all (viwC 0 (.slice none 0 0)) (viwC S.2.1.1 (.slice A3 S.2.1.2.length c3)) rfl] at hr';refine hK.out _ _ (hOh.out.grown hg' (by have:=hOh.out.size;omega) (pu4 (by omega))) (fun hHh=>?_);clear hK K;replace R12:=hide (R12.out.grown hg' (pu5 (by omega)));clear R11;have R11:=hide hr';clear hg' hs' hr' hOh;(try simp only [Act.put]);refine wpPT_alt (by kernel_rfl) (fun K hK=>?_) ?_;rotate_left
          ·exact wpPT_stop
          have hOh:=hide hHh;clear hHh;refine wp_storeC 31 (.tmp 12) (.tmp 60) rfl 2 plc_size g12 0 31 rfl (prC (0,0)) (prC S.2.2) rfl R12.out rfl (by exact Nat.le_refl _) (prC_one _) ?_;intro w' hr' hg' hs';rw [splice_all (prC (0,0)) (prC S.2.2) rfl] at hr';refine hK.out _ _ (hOh.out.grown hg' (by have:=hOh.out.size;omega) (pu4 (by omega))) (fun hHh=>?_);clear hK K;replace R11:=hide (R11.out.grown hg' (pu5 (by omega)));clear R12;have R12:=hide hr';clear hg' hs' hr' hOh;(try simp only [Act.put]);refine wpPT_leaf ?_;have HBX:=hide hHh;clear hHh
          go_wp2_with fail
          go_meet
          case rel=>exact ⟨rfl,HBX.out⟩
         exact wpPT_stop
        refine wpPT_alt (by kernel_rfl) (fun K hK=>?_) ?_
        ·skip
         have hOh:=hide hHh;clear hHh;unfold Oper.wp execOp
         go_simp
         have hal:=below_new (below_self wd) (.cells #[.int .i64 0,.int .i64 0] 31);have hb':=hal.mono (B':=wr.heap.size) (by have:=hOh.out.size;omega);have HFN:=hide (show RowL (wd.alloc (.cells #[.int .i64 0,.int .i64 0] 31)) wd.heap.size 31 (prC (0,0)) from RowL.new wd 31 (prC (0,0)));have g12l:wr.heap.size≤wd.heap.size:=hOh.out.size;refine hK.out _ _ (hOh.out.trans hb') (fun hHh=>?_);clear hK K;have R12:=HFN;clear hal hb' hOh HFN
         generalize wd.alloc (.cells #[.int .i64 0,.int .i64 0] 31)=z0 at *
         generalize wd.heap.size=g12 at *
         (try simp only [Act.put,pu1,pu2,pu3]);refine wpPT_alt (by kernel_rfl) (fun K hK=>?_) ?_
         ·skip
          have hOh:=hide hHh;clear hHh
          go_simp
          go_at_call 44
          refine (RVStep_e HS.out (B:=B) (BV:=BV) _ (HUq.out.under hOh.out (by omega)) (HLq.out.under hOh.out (by omega)) (by have:=hOh.out.size;omega) HF.out HFU.out (HVq.out.under hOh.out (by omega)) (by have:=hOh.out.size;omega) hnV).mono ?_
          rintro e w' ⟨A3,c3,rfl,-,hbel⟩
          have hb':=hbel.mono (B':=wr.heap.size) (by have:=hOh.out.size;omega);replace R12:=hide (R12.out.on hbel);clear hbel;refine hK.out _ _ (hOh.out.trans hb') (fun hHh=>?_);clear hK K;(try simp only [Act.put,pu1,pu2,pu3])
          iterate 4
           refine wpPT_take (v:=?_) (by kernel_rfl) (fun wS hSw=>?_) ?_;rotate_left
           ·(try dsimp only at hSw);go_simp;(try with_reducible rfl)
           (try simp only [Act.put,pu1,pu2,pu3])
          refine wpPT_alt (by kernel_rfl) (fun K hK=>?_) ?_;rotate_left
          ·exact wpPT_stop
          have hOh:=hide hHh;clear hHh;unfold Oper.wp execOp
          go_simp
          have hal:=below_new (below_self w') (.cells #[.int .i64 0,.slice none 0 0] 80);have hb':=hal.mono (B':=wr.heap.size) (by have:=hOh.out.size;omega);have HFN:=hide (show RowL (w'.alloc (.cells #[.int .i64 0,.slice none 0 0] 80)) w'.heap.size 80 (viwC 0 (.slice none 0 0)) from RowL.new w' 80 (viwC 0 (.slice none 0 0)));have g11l:wr.heap.size≤w'.heap.size:=hOh.out.size;have g12ng11:g12 < w'.heap.size:=R12.out.lt;refine hK.out _ _ (hOh.out.trans hb') (fun hHh=>?_);clear hK K;replace R12:=hide (R12.out.on hal);have R11:=HFN;clear hal hb' hOh HFN
          generalize w'.alloc (.cells #[.int .i64 0,.slice none 0 0] 80)=z2 at *
          generalize w'.heap.size=g11 at *
          (try simp only [Act.put,pu1,pu2,pu3]);refine wpPT_take (v:=?_) (by kernel_rfl) (fun wS hSw=>?_) ?_;rotate_left
          ·(try dsimp only at hSw);go_simp;(try with_reducible rfl)
          (try simp only [Act.put,pu1,pu2,pu3]);refine wpPT_alt (by kernel_rfl) (fun K hK=>?_) ?_;rotate_left
          ·exact wpPT_stop
          have hOh:=hide hHh;clear hHh;refine wp_storeC 80 (.tmp 11) (.tmp 59) rfl 2 viw_size g11 0 80 rfl (viwC 0 (.slice none 0 0)) (viwC S.2.1.1 (.slice A3 S.2.1.2.length c3)) rfl R11.out rfl (by exact Nat.le_refl _) (viwC_one _ _ _ _) ?_;intro w' hr' hg' hs';rw [splice_all (viwC 0 (.slice none 0 0)) (viwC S.2.1.1 (.slice A3 S.2.1.2.length c3)) rfl] at hr';refine hK.out _ _ (hOh.out.grown hg' (by have:=hOh.out.size;omega) (pu4 (by omega))) (fun hHh=>?_);clear hK K;replace R12:=hide (R12.out.grown hg' (pu5 (by omega)));clear R11;have R11:=hide hr';clear hg' hs' hr' hOh;(try simp only [Act.put]);refine wpPT_alt (by kernel_rfl) (fun K hK=>?_) ?_;rotate_left
          ·exact wpPT_stop
          have hOh:=hide hHh;clear hHh;refine wp_storeC 31 (.tmp 12) (.tmp 60) rfl 2 plc_size g12 0 31 rfl (prC (0,0)) (prC S.2.2) rfl R12.out rfl (by exact Nat.le_refl _) (prC_one _) ?_;intro w' hr' hg' hs';rw [splice_all (prC (0,0)) (prC S.2.2) rfl] at hr';refine hK.out _ _ (hOh.out.grown hg' (by have:=hOh.out.size;omega) (pu4 (by omega))) (fun hHh=>?_);clear hK K;replace R11:=hide (R11.out.grown hg' (pu5 (by omega)));clear R12;have R12:=hide hr';clear hg' hs' hr' hOh;(try simp only [Act.put]);refine wpPT_leaf ?_;have HBX:=hide hHh;clear hHh
          go_wp2_with fail
          go_meet
          case rel=>exact ⟨rfl,HBX.out⟩
         refine wpPT_alt (by kernel_rfl) (fun K hK=>?_) ?_
         ·skip
          have hOh:=hide hHh;clear hHh;unfold Oper.wp execOp
          go_simp
          have hal:=below_new (below_self z0) (.cells #[.int .i64 0,.slice none 0 0] 80);have hb':=hal.mono (B':=wr.heap.size) (by have:=hOh.out.size;omega);have HFN:=hide (show RowL (z0.alloc (.cells #[.int .i64 0,.slice none 0 0] 80)) z0.heap.size 80 (viwC 0 (.slice none 0 0)) from RowL.new z0 80 (viwC 0 (.slice none 0 0)));have g11l:wr.heap.size≤z0.heap.size:=hOh.out.size;have g12ng11:g12 < z0.heap.size:=R12.out.lt;refine hK.out _ _ (hOh.out.trans hb') (fun hHh=>?_);clear hK K;replace R12:=hide (R12.out.on hal);have R11:=HFN;clear hal hb' hOh HFN
          generalize z0.alloc (.cells #[.int .i64 0,.slice none 0 0] 80)=z1 at *
          generalize z0.heap.size=g11 at *
          (try simp only [Act.put,pu1,pu2,pu3]);refine wpPT_alt (by kernel_rfl) (fun K hK=>?_) ?_;rotate_left
          ·exact wpPT_stop
          have hOh:=hide hHh;clear hHh
          go_simp
          go_at_call 44
          refine (RVStep_e HS.out (B:=B) (BV:=BV) _ (HUq.out.under hOh.out (by omega)) (HLq.out.under hOh.out (by omega)) (by have:=hOh.out.size;omega) HF.out HFU.out (HVq.out.under hOh.out (by omega)) (by have:=hOh.out.size;omega) hnV).mono ?_
          rintro e w' ⟨A3,c3,rfl,-,hbel⟩
          have hb':=hbel.mono (B':=wr.heap.size) (by have:=hOh.out.size;omega);replace R12:=hide (R12.out.on hbel);replace R11:=hide (R11.out.on hbel);clear hbel;refine hK.out _ _ (hOh.out.trans hb') (fun hHh=>?_);clear hK K;(try simp only [Act.put,pu1,pu2,pu3])
          iterate 5
           refine wpPT_take (v:=?_) (by kernel_rfl) (fun wS hSw=>?_) ?_;rotate_left
           ·(try dsimp only at hSw);go_simp;(try with_reducible rfl)
           (try simp only [Act.put,pu1,pu2,pu3])
          refine wpPT_alt (by kernel_rfl) (fun K hK=>?_) ?_;rotate_left
          ·exact wpPT_stop
          have hOh:=hide hHh;clear hHh;refine wp_storeC 80 (.tmp 11) (.tmp 59) rfl 2 viw_size g11 0 80 rfl (viwC 0 (.slice none 0 0)) (viwC S.2.1.1 (.slice A3 S.2.1.2.length c3)) rfl R11.out rfl (by exact Nat.le_refl _) (viwC_one _ _ _ _) ?_;intro w' hr' hg' hs';rw [splice_all (viwC 0 (.slice none 0 0)) (viwC S.2.1.1 (.slice A3 S.2.1.2.length c3)) rfl] at hr';refine hK.out _ _ (hOh.out.grown hg' (by have:=hOh.out.size;omega) (pu4 (by omega))) (fun hHh=>?_);clear hK K;replace R12:=hide (R12.out.grown hg' (pu5 (by omega)));clear R11;have R11:=hide hr';clear hg' hs' hr' hOh;(try simp only [Act.put]);refine wpPT_alt (by kernel_rfl) (fun K hK=>?_) ?_;rotate_left
          ·exact wpPT_stop
          have hOh:=hide hHh;clear hHh;refine wp_storeC 31 (.tmp 12) (.tmp 60) rfl 2 plc_size g12 0 31 rfl (prC (0,0)) (prC S.2.2) rfl R12.out rfl (by exact Nat.le_refl _) (prC_one _) ?_;intro w' hr' hg' hs';rw [splice_all (prC (0,0)) (prC S.2.2) rfl] at hr';refine hK.out _ _ (hOh.out.grown hg' (by have:=hOh.out.size;omega) (pu4 (by omega))) (fun hHh=>?_);clear hK K;replace R11:=hide (R11.out.grown hg' (pu5 (by omega)));clear R12;have R12:=hide hr';clear hg' hs' hr' hOh;(try simp only [Act.put]);refine wpPT_leaf ?_;have HBX:=hide hHh;clear hHh
          go_wp2_with fail
          go_meet
          case rel=>exact ⟨rfl,HBX.out⟩
         exact wpPT_stop
        exact wpPT_stop
       case rest =>
       obtain ⟨rfl,hbx⟩:=hcut;have HO9:=hide (HO8.out.below hbx);have HBX:=hide (HBQ.out.trans (hbx.mono hbq));have hsx:=hbx.size
       have qn':wc.cell? ⟨bN,oN+j,none⟩=some (.string ⟨nm.toArray⟩):=HNM.out wc hbx
       clear hbx
       cases b2 with
       | false =>
        go_wp2_with fail
        go_roundw
        case rel=>exact ⟨j+1,n8,A8,c8,by omega,by go_num,rfl,by omega,by rw [HKS.out,if_neg (by simp)];exact HO9.out,HBX.out⟩
        case measure=>simp [intOf];omega
       | true =>
        go_wp2_with (at_builtin;refine wpList_append_Rd (f:=st) _ rfl (.tmp 63) (.tmp 68) 41 rfl wo.heap.size 9 _ 16 Tryz.underlying41 info_st rfl (fun _=>rfl) A8 n8 c8 _ rfl (HO9.out.below (below_new (below_self wc) _)) _ _ 1 1 [nm] rfl (Rd.one _ _ rfl) (n8+1) rfl (by omega) (by omega) (by simp;omega) ?_;intro A7 c7 w9 ho9 hb9;have HOZ:=hide ho9;have hs9:=hb9.size;have HBZ:=hide ((HBX.out.alloc (by omega) _).trans hb9);clear ho9 hb9)
        go_roundw
        case rel=>exact ⟨j+1,n8+1,A7,c7,by omega,by go_num,rfl,by omega,by rw [HKS.out,if_pos (by simp)];exact HOZ.out,HBZ.out⟩
        case measure=>simp [intOf];omega
      ·obtain rfl:j=n6:=by omega
       have ho9:=HO8.out;rw [List.take_of_length_le (by have:=HXL.out;omega)] at ho9;have HOF:=hide ho9;clear ho9 hbr8
       go_wp2_with fail
       refine (RSort_any wr HOF.out.rd (by omega)).mono ?_
       rintro ez w3 ⟨A3,c3,rfl,ho3,hb3⟩
       have HO3:=hide ho3;have HB3:=hide (HB.out.trans ((HBQ.out.trans (hb3.mono hbq)).mono (by omega)));clear hb3 ho3
       go_wp2_with fail
       go_ret
       rw [HNV.out];exact ⟨A3,_,c3,rfl,HO3.out.rebase (by omega),HB3.out⟩
end Go.Proofs.YtggnbflbbfdohaaGreat

