import Derived.Test.YtggnbflbbfdohaaGreatRo35
import Derived.Test.YtggnbflbbfdohaaGreatRo33

namespace Go.Proofs.YtggnbflbbfdohaaGreat
open Go.RowKit Go.Shelf Plain Go.Maps

set_option maxRecDepth 100000 in
set_option maxHeartbeats 8000000 in
theorem Claims21_any {g:GeoQ} {AU AL:Option Addr} {nU cU nL cL B:Nat} {up:List NodV} {ls:List (List NodV)} {l:List WayV} {TV:List ViewV} {n:Nat} (hl:(walkW up [1]).1=l) (hT:treeV up ls l=TV) (hn:l.length=n) (w:World) (hu:RdE nodEn w (Under B) AU nU up) (h:RdE layEn w (Under B) AL nL ls) (hB:B≤w.heap.size) (hF:FewL ls) (hup:FewU up):Calls Tryz.prog 21 #[.agg (stkC g (.slice AU nU cU) (.slice AL nL cL)).toArray] w (fun e w'=>∃A c,e=.returned (.slice A n c)∧RdE prEn w' (Under w'.heap.size) A n (TV.map clmR)∧Below w.heap.size w w'):=by
 obtain ⟨W1,hW1⟩:∃W1,(w.alloc (.cells (stkC g (.slice AU nU cU) (.slice AL nL cL)).toArray 29))=W1:=⟨_,rfl⟩
 obtain ⟨r0,hb1,hs1⟩:=rowA1 w _ _ hW1
 have hW1':(w.alloc (.cells #[.int .i64 g.a,.int .i64 g.b,.int .i64 g.c,.int .i64 g.d,.slice AU nU cU,.slice AL nL cL] 29))=W1:=hW1
 have R1:=hide r0
 have HB:=hide hb1
 have hsz0:=hb1.size
 have HU:=hide (hu.under hb1 hB)
 have HL:=hide (h.under hb1 hB)
 have HF:=hide hF
 have HFU:=hide hup
 have HWS:=hide hl
 have HT:=hide hT
 have HN:=hide hn
 unfold stkC
 clear r0 hb1 hW1 hu h hF hup hl hT hn
 go_enter Tryz.func21,Tryz.ntmps21
 go_wp2_with (first|(refine wpList_loadW rfl 29 (.tmp 1) rfl 6 stk_agg stk_size (w.heap.size) 29 rfl [.int .i64 g.a,.int .i64 g.b,.int .i64 g.c,.int .i64 g.d,.slice AU nU cU,.slice AL nL cL] R1.out rfl ?_)|(go_at_call 49;refine (RBegin_any HWS.out HT.out HN.out W1 HU.out HL.out (by omega) HF.out HFU.out).mono ?_;rintro e1 wB ⟨gT,bM,cM,AW,AC,cW,cC,hi,rfl,ht,hcM,hbel⟩;have HT1:=hide ht;replace HB:=hide (HB.out.trans (hbel.mono (by omega)));have q7:wB.cell? ⟨gT,7,none⟩=some (.slice AC n cC):=HT1.out.row.cell 7;clear ht hbel))
 go_ret
 exact ⟨AC,cC,rfl,HT1.out.clms.mono (fun _ _=>rfl) (fun b hb=>Nat.lt_of_lt_of_le hb.2.1 HT1.out.hiw),HB.out⟩
theorem takF_nil:takF []=fun _=>false:=by
 funext p
 simp [takF]
set_option maxRecDepth 100000 in
set_option maxHeartbeats 16000000 in
theorem RFinds21_any {g:GeoQ} {AU AL:Option Addr} {nU cU nL cL B:Nat} {up:List NodV} {ls:List (List NodV)} {l:List WayV} {rs:List Bool} (hl:(walkW up [1]).1=l) (hrs:reachL up l=rs) (w:World) (hu:RdE nodEn w (Under B) AU nU up) (h:RdE layEn w (Under B) AL nL ls) (hB:B≤w.heap.size) (hF:FewL ls) (hup:FewU up):Calls Tryz.prog 18 #[.agg (stkC g (.slice AU nU cU) (.slice AL nL cL)).toArray] w (FinsO w (findR up rs l (runR up ls l l.length).2 up.length)):=by
 obtain ⟨W1,hW1⟩:∃W1,(w.alloc (.cells (stkC g (.slice AU nU cU) (.slice AL nL cL)).toArray 29))=W1:=⟨_,rfl⟩
 obtain ⟨r0,hb1,hs1⟩:=rowA1 w _ _ hW1
 have hW1':(w.alloc (.cells #[.int .i64 g.a,.int .i64 g.b,.int .i64 g.c,.int .i64 g.d,.slice AU nU cU,.slice AL nL cL] 29))=W1:=hW1
 have R1:=hide r0
 have HB:=hide hb1
 have hsz0:=hb1.size
 have HU:=hide (hu.under hb1 hB)
 have HL:=hide (h.under hb1 hB)
 have HF:=hide hF
 have HFU:=hide hup
 have HWS:=hide hl
 obtain ⟨TV,hT⟩:∃TV,treeV up ls l=TV:=⟨_,rfl⟩
 obtain ⟨n,hn⟩:∃n,l.length=n:=⟨_,rfl⟩
 have HT:=hide hT
 have HN:=hide hn
 have hn24:n≤24:=by
  have h1:=(walk_ok up [1]).le
  rw [hl] at h1
  have h2:=hup.1
  omega
 have hokw:=walk_ok up [1]
 have hlw:=hokw.le
 rw [hl] at hokw hlw
 have HND:=hide hokw.2
 have hu24:=hup.1
 have HYI:=hide (show ∀y∈l,i64 y.ino from fun y hy=>by have h1:=isDir_in (hokw.1 y hy);unfold i64;omega)
 have HCI:=hide (show ∀q∈TV.map clmR,i64 q.1∧i64 q.2 from fun q hq=>by obtain ⟨v,hv,rfl⟩:=List.mem_map.1 hq;exact clm_i64 (tree_pos up hF l v (by rw [hT];exact hv)))
 have HRS:=hide (show reachL up (walkW up [1]).1=rs from by rw [hl];exact hrs)
 have hrl:rs.length=up.length:=by rw [←hrs,reachL_len]
 unfold stkC
 clear r0 hb1 hW1 hu h hF hup hl hrs hokw hT hn
 have hlit1:=fun W=>lit_one W
 go_enter Tryz.func18,Tryz.ntmps18
 go_wp2_with fail
 go_step3
 go_wp2_with (first|(refine wpList_loadW rfl 29 (.tmp 1) rfl 6 stk_agg stk_size (w.heap.size) 29 rfl [.int .i64 g.a,.int .i64 g.b,.int .i64 g.c,.int .i64 g.d,.slice AU nU cU,.slice AL nL cL] R1.out rfl ?_)|(go_at_call 49;refine (RBegin_any HWS.out HT.out HN.out W1 HU.out HL.out (by omega) HF.out HFU.out).mono ?_;rintro e1 wB ⟨gT,bM,cM,AW,AC,cW,cC,hi,rfl,ht,hcM,hbel⟩;have HT1:=hide ht;replace HB:=hide (HB.out.trans (hbel.mono (by omega)));replace R1:=hide (R1.out.on hbel);replace HU:=hide (HU.out.under hbel (by omega));have hszB:=hbel.size;clear ht hbel)|(go_at_call 50;refine (RClauses_any (B:=B) (lo:=W1.heap.size) (n:=n) (by rw [HT.out]) HCI.out HYI.out hn24 hcM (by omega) wB (by rw [takF_nil];exact HT1.out) HU.out (by omega) HFU.out).mono ?_;rintro e2 w3 ⟨bT,cT,rfl,hbT,hm,hg⟩;have hbMl:=HT1.out.lbM;have HM:=hide hm;replace HB:=hide (HB.out.grown hg HB.out.size (pu4 (by omega)));replace R1:=hide (R1.out.grown hg (by intro e;have:=Option.some.inj e;omega));replace HU:=hide (und_grown HU.out hg (by omega) (by omega));have hsz3:=hg.size;have q1_4:w3.cell? ⟨w.heap.size,4,none⟩=some (.slice AU nU cU):=R1.out.cell 4;clear hm hg HT1))
 go_step3
 clear HT HN HCI HYI HL HF
 go_wp2_with (first|(refine wpList_loadC rfl 26 (.tmp 13) rfl 1 lay_agg lay_size (w.heap.size) 4 29 rfl (stkC g (.slice AU nU cU) (.slice AL nL cL)) [.slice AU nU cU] R1.out rfl rfl ?_)|(go_at_call 51;refine (OReach_any HRS.out _ (und_up (HU.out.under (below_new (below_self w3) (.cells #[.int .i64 1] 3)) (by omega)) (by simp;omega)) (one_row (RowL.new w3 3 [.int .i64 1])) (plain_many HFU.out.1 HFU.out.2).1).mono ?_;rintro e5 wT ⟨AR,nR,cR,lo,hi,rfl,hlo,hr5,hbel0⟩;have hbel:Below w3.heap.size w3 wT:=(below_new (below_self w3) (.cells #[.int .i64 1] 3)).trans (hbel0.mono (by simp));have HRD:=hide (rch_rd hr5);replace HB:=hide (HB.out.trans (hbel.mono HB.out.size));replace R1:=hide (R1.out.on hbel);replace HU:=hide (HU.out.under hbel (by omega));replace HM:=hide (HM.out.on hbel);have hszT:=hbel.size;clear hr5 hbel hbel0 hlo q1_4))
 have hnR:nR=nU:=by have h1:=HRD.out.1;have h2:=HU.out.1;omega
 subst hnR
 have hul:up.length=nR:=HU.out.1
 clear hrl
 obtain ⟨O,hO⟩:∃O,(runR up ls l l.length).2=O:=⟨_,rfl⟩
 have HTD:=hide (fun (i:Int) (h:hasR (nodAt up i)=true)=>show (toldR up ls l l.length i).getD 9=ofR l O i from by rw [←hO];exact told_or HND.out h)
 have HIN:=hide (fun (i:Int)=>show ofR l O i=0∨9≤ofR l O i∧ofR l O i≤12 from ofR_in (by rw [←hO];exact runR_in _) i)
 rw [hO]
 go_loopw [4,18] (fun v4 v18 wr=>∃(i n6:Nat) (A6:Option Addr) (c6:Nat),i≤nR∧v18=.int .i64 i∧v4=.slice A6 n6 c6∧n6≤i∧OwE finEn wr wT.heap.size 47 A6 n6 c6 (findR up rs l O i)∧Below wT.heap.size wT wr) (fun _ v18 _=>nR - (intOf v18).toNat)
 case atStart=>exact ⟨0,0,none,0,by omega,rfl,rfl,by omega,OwE.nil_ _ _ _ _,Below.refl _ _⟩
 case round =>
  obtain ⟨i,n6,A6,c6,hi,rfl,rfl,hn6,ho,hbr⟩:=hrel
  have hbsz:=hbr.size
  have HBQ:=hide hbr
  have HO2:=hide ho
  replace R1:=hide (R1.out.on hbr)
  replace HU:=hide (HU.out.under hbr (by omega))
  replace HM:=hide (HM.out.on hbr)
  replace HRD:=hide ((HRD.out.below hbr).more (by omega))
  clear ho hbr
  by_cases hlt:i < nR
  ·obtain ⟨x,hx⟩:∃x,up[i]?=some x:=⟨_,List.getElem?_eq_getElem (by omega)⟩
   obtain ⟨r,hri⟩:∃r,rs[i]?=some r:=⟨_,List.getElem?_eq_getElem (by have:=HRD.out.1;omega)⟩
   have hxp:PlainN x:=HFU.out.2 x (List.mem_of_getElem? hx)
   have hxh:=hxp.2.2.1
   have hxa:nodAt up ((i:Int)+1)=x:=nodAt_get hx
   obtain ⟨hr,hhr⟩:∃hr,hasR x=hr:=⟨_,rfl⟩
   have HRB:=hide hhr
   have HTS:=hide (findR_succ up rs l O i)
   have HTO:=hide (oneR_is (l:=l) (out:=O) hx hri)
   obtain ⟨bU,oU,A0,n0,k0,C0,m0,d0,rfl,hbU,hcx⟩:=nod_cells HU.out hx
   have HCX:=hide hcx
   obtain ⟨bR,oR,rfl⟩:=rd_some HRD.out (by omega)
   have qb:=rd_cell HRD.out hri
   have hin:(i:Int) < (nR:Int):=by omega
   have hw1:IntKind.i64.wrap ((i:Int)+1)=(i:Int)+1:=IntWalk.i64_in _ (by omega)
   have HXA:=hide hxa
   have qn0:wr.cell? ⟨bU,oU+i*13,none⟩=_:=hcx 0 _ rfl
   have qn1:wr.cell? ⟨bU,oU+i*13+1,none⟩=_:=hcx 1 _ rfl
   have qn2:wr.cell? ⟨bU,oU+i*13+2,none⟩=_:=hcx 2 _ rfl
   have qn3:wr.cell? ⟨bU,oU+i*13+3,none⟩=_:=hcx 3 _ rfl
   have qn4:wr.cell? ⟨bU,oU+i*13+4,none⟩=_:=hcx 4 _ rfl
   have qn5:wr.cell? ⟨bU,oU+i*13+5,none⟩=_:=hcx 5 _ rfl
   have qn6:wr.cell? ⟨bU,oU+i*13+6,none⟩=_:=hcx 6 _ rfl
   have qn7:wr.cell? ⟨bU,oU+i*13+7,none⟩=_:=hcx 7 _ rfl
   have qn8:wr.cell? ⟨bU,oU+i*13+8,none⟩=_:=hcx 8 _ rfl
   have qn9:wr.cell? ⟨bU,oU+i*13+9,none⟩=_:=hcx 9 _ rfl
   have qn10:wr.cell? ⟨bU,oU+i*13+10,none⟩=_:=hcx 10 _ rfl
   have qn11:wr.cell? ⟨bU,oU+i*13+11,none⟩=_:=hcx 11 _ rfl
   have qn12:wr.cell? ⟨bU,oU+i*13+12,none⟩=_:=hcx 12 _ rfl
   clear hcx hx hri hbU hxp hxa hhr
   have q1_4:wr.cell? ⟨w.heap.size,4,none⟩=some (.slice (some ⟨bU,oU,none⟩) nR cU):=R1.out.cell 4
   cases r with
   | false =>
    have HTN:=hide (show oneR up rs l O i=[] from by rw [HTO.out,if_neg (by simp)])
    go_wp2_with fail
    go_roundw
    case rel=>exact ⟨i+1,n6,A6,c6,by omega,by go_num,rfl,by omega,by rw [HTS.out,HTN.out,List.append_nil];exact HO2.out,HBQ.out⟩
    case measure=>simp [intOf];omega
   | true =>
    cases hr with
    | false =>
     have HTN:=hide (show oneR up rs l O i=[] from by rw [HTO.out,if_neg (by rw [HRB.out];simp)])
     go_wp2_with (first|(go_at_call 52;refine (Redd_b HRB.out hxh.1 hxh.2 wr).mono ?_;rintro e121 wD ⟨rfl,hbel⟩;clear q1_4;replace HBQ:=hide (HBQ.out.trans (hbel.mono (by omega)));replace R1:=hide (R1.out.on hbel);replace HU:=hide (HU.out.under hbel (by omega));replace HM:=hide (HM.out.on hbel);replace HO2:=hide (HO2.out.below hbel);have hsz122:=hbel.size;have q1_4:wD.cell? ⟨w.heap.size,4,none⟩=some (.slice (some ⟨bU,oU,none⟩) nR cU):=R1.out.cell 4;clear hbel))
     go_roundw
     case rel=>exact ⟨i+1,n6,A6,c6,by omega,by go_num,rfl,by omega,by rw [HTS.out,HTN.out,List.append_nil];exact HO2.out,HBQ.out⟩
     case measure=>simp [intOf];omega
    | true =>
     have HTDi:=hide (HTD.out ((i:Int)+1) (by rw [HXA.out];exact HRB.out))
     have HTN0:=hide (show oneR up rs l O i=if ofR l O ((i:Int)+1)≠0 then [⟨ofR l O ((i:Int)+1),0,(i:Int)+1,-1⟩] else [] from by rw [HTO.out,HRB.out];simp)
     go_upto_region 8 with (first|(go_at_call 52;refine (Redd_b HRB.out hxh.1 hxh.2 wr).mono ?_;rintro e121 wD ⟨rfl,hbel⟩;clear q1_4;replace HBQ:=hide (HBQ.out.trans (hbel.mono (by omega)));replace R1:=hide (R1.out.on hbel);replace HU:=hide (HU.out.under hbel (by omega));replace HM:=hide (HM.out.on hbel);replace HO2:=hide (HO2.out.below hbel);have hsz122:=hbel.size;have q1_4:wD.cell? ⟨w.heap.size,4,none⟩=some (.slice (some ⟨bU,oU,none⟩) nR cU):=R1.out.cell 4;clear hbel))
     obtain ⟨v,hlk,hvx⟩:=HM.out.look_ok (n:=(i:Int)+1) (by unfold i64;omega)
     have HVX:=hide hvx
     clear hvx
     obtain ⟨o,ho⟩:∃o,toldR up ls l l.length ((i:Int)+1)=o:=⟨_,rfl⟩
     rw [ho] at HTDi hlk HVX
     clear ho
     cases o with
     | none =>
      have h9:=HTDi.out
      rw [Option.getD_none] at h9
      have HTN:=hide (show oneR up rs l O i=[⟨9,0,(i:Int)+1,-1⟩] from by rw [HTN0.out,←h9];rfl)
      have hlit:=fun W=>litW_fin 9 0 ((i:Int)+1) (-1) W
      clear h9
      rw [Option.isSome_none] at hlk
      go_wp2_with (first|(at_builtin;have hba:=below_new (below_self wD) (.cells #[.int .i64 9,.int .i64 0,.int .i64 ((i:Int)+1),.int .i64 (-1)] 47);refine wpList_append_OwE (E:=finEn) _ rfl (.tmp 47) (.tmp 51) 45 rfl wT.heap.size 47 (.agg #[.int .i64 0,.int .i64 0,.int .i64 0,.int .i64 0]) 32 Tryz.underlying45 finW_info rfl (by decide) A6 n6 c6 _ rfl (HO2.out.below hba) (fun b=>wD.heap.size≤b∧b < (wD.alloc (.cells (finC ⟨9,0,(i:Int)+1,-1⟩).toArray 47)).heap.size) (some ⟨wD.heap.size,0,none⟩) 1 1 [⟨9,0,(i:Int)+1,-1⟩] rfl (enc_lit1 (OFin_R ⟨9,0,(i:Int)+1,-1⟩) wD 47 (Nat.le_refl _)) (fun b hb=>⟨⟨hb.2,fun _ _ _ _=>rfl⟩,fun a ha=>(fun e=>by have h1:=hb.1;rw [e] at h1;have:=OwE.lt HO2.out a ha;omega)⟩) (n6+1) rfl (by omega) (by omega) (by simp;omega) ?_;intro A9 c9 w9 ho9 hb9;have HO9:=hide ho9;have HB9:=hide ((HBQ.out.alloc (by omega) _).trans hb9);clear ho9 hb9 hba))
      go_roundw
      case rel=>exact ⟨i+1,n6+1,A9,c9,by omega,by go_num,rfl,by omega,by rw [HTS.out,HTN.out];exact HO9.out,HB9.out⟩
      case measure=>simp [intOf];omega
     | some c =>
      obtain rfl:v=c:=HVX.out c rfl
      have h9:=HTDi.out
      rw [Option.getD_some] at h9
      rw [Option.isSome_some] at hlk
      rw [←h9] at HTN0
      by_cases hv0:v=0
      ·have HTN:=hide (show oneR up rs l O i=[] from by rw [HTN0.out,if_neg (by simp [hv0])])
       have hv1:(v==0)=true:=by simp [hv0]
       clear h9
       go_wp2_with fail
       go_roundw
       case rel=>exact ⟨i+1,n6,A6,c6,by omega,by go_num,rfl,by omega,by rw [HTS.out,HTN.out,List.append_nil];exact HO2.out,HBQ.out⟩
       case measure=>simp [intOf];omega
      ·have HTN:=hide (show oneR up rs l O i=[⟨v,0,(i:Int)+1,-1⟩] from by rw [HTN0.out,if_pos hv0])
       have hlit:=fun W=>litW_fin v 0 ((i:Int)+1) (-1) W
       have hv1:(v==0)=false:=by simp [hv0]
       clear h9
       go_wp2_with (first|(at_builtin;have hba:=below_new (below_self wD) (.cells #[.int .i64 v,.int .i64 0,.int .i64 ((i:Int)+1),.int .i64 (-1)] 47);refine wpList_append_OwE (E:=finEn) _ rfl (.tmp 47) (.tmp 51) 45 rfl wT.heap.size 47 (.agg #[.int .i64 0,.int .i64 0,.int .i64 0,.int .i64 0]) 32 Tryz.underlying45 finW_info rfl (by decide) A6 n6 c6 _ rfl (HO2.out.below hba) (fun b=>wD.heap.size≤b∧b < (wD.alloc (.cells (finC ⟨v,0,(i:Int)+1,-1⟩).toArray 47)).heap.size) (some ⟨wD.heap.size,0,none⟩) 1 1 [⟨v,0,(i:Int)+1,-1⟩] rfl (enc_lit1 (OFin_R ⟨v,0,(i:Int)+1,-1⟩) wD 47 (Nat.le_refl _)) (fun b hb=>⟨⟨hb.2,fun _ _ _ _=>rfl⟩,fun a ha=>(fun e=>by have h1:=hb.1;rw [e] at h1;have:=OwE.lt HO2.out a ha;omega)⟩) (n6+1) rfl (by omega) (by omega) (by simp;omega) ?_;intro A9 c9 w9 ho9 hb9;have HO9:=hide ho9;have HB9:=hide ((HBQ.out.alloc (by omega) _).trans hb9);clear ho9 hb9 hba))
       go_roundw
       case rel=>exact ⟨i+1,n6+1,A9,c9,by omega,by go_num,rfl,by omega,by rw [HTS.out,HTN.out];exact HO9.out,HB9.out⟩
       case measure=>simp [intOf];omega
  ·obtain rfl:nR=i:=by omega
   have hnlt:¬((nR:Int) < (nR:Int)):=by omega
   go_wp2_with fail
   go_ret
   have ho:=(HO2.out.rd rfl).plain
   exact ⟨A6,n6,c6,rfl,by first|exact ho|(rw [hul];exact ho),HB.out.trans (HBQ.out.mono (by have:=HB.out.size;omega))⟩
end Go.Proofs.YtggnbflbbfdohaaGreat

