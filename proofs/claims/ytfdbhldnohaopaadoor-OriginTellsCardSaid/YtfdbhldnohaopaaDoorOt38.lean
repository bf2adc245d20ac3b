import Derived.Test.YtfdbhldnohaopaaDoorOt35

namespace Go.Proofs.YtfdbhldnohaopaaDoor
open Go.RowKit Go.Shelf Plain

theorem clause_case (cl:Int):cl=8∨cl=13∨cl=14∨((cl==8)=false∧(cl==13)=false∧(cl==14)=false):=by
 by_cases h1:cl=8
 ·exact .inl h1
 ·by_cases h2:cl=13
  ·exact .inr (.inl h2)
  ·by_cases h3:cl=14
   ·exact .inr (.inr (.inl h3))
   ·exact .inr (.inr (.inr ⟨by simpa using h1,by simpa using h2,by simpa using h3⟩))
set_option maxRecDepth 100000 in
set_option maxHeartbeats 16000000 in
theorem ORFinds_any {g:GeoQ} {AU AL:Option Addr} {nU cU nL cL B:Nat} {up:List NodV} {ls:List (List NodV)} {rs:List Bool} (hrs:reachL up (walkW up [1]).1=rs) (w:World) (hu:RdE nodEn w (Under B) AU nU up) (h:RdE layEn w (Under B) AL nL ls) (hB:B≤w.heap.size) (hF:FewL ls) (hup:FewU up):Calls Tryd.prog 10 #[.agg (stkC g (.slice AU nU cU) (.slice AL nL cL)).toArray] w (FinsO w (findO up ls rs)):=by
 obtain ⟨W1,hW1⟩:∃W1,(w.alloc (.cells (stkC g (.slice AU nU cU) (.slice AL nL cL)).toArray 29))=W1:=⟨_,rfl⟩
 obtain ⟨r0,hb1,hs1⟩:=rowA1 w _ _ hW1
 have hW1':(w.alloc (.cells #[.int .i64 g.a,.int .i64 g.b,.int .i64 g.c,.int .i64 g.d,.slice AU nU cU,.slice AL nL cL] 29))=W1:=hW1
 have R1:=hide r0
 have HB:=hide hb1
 have hsz0:=hb1.size
 have HU:=hide (hu.under hb1 hB)
 have HL:=hide (h.under hb1 hB)
 have HF:=hide hF
 have HFU:=hide hup
 have HRS:=hide hrs
 have hrl:rs.length=up.length:=by rw [←hrs,reachL_len]
 have q1_4:W1.cell? ⟨w.heap.size,4,none⟩=some (.slice AU nU cU):=R1.out.cell 4
 have q1_0:W1.cell? ⟨w.heap.size,0,none⟩=some (.int .i64 g.a):=R1.out.cell 0
 have q1_1:W1.cell? ⟨w.heap.size,1,none⟩=some (.int .i64 g.b):=R1.out.cell 1
 have q1_2:W1.cell? ⟨w.heap.size,2,none⟩=some (.int .i64 g.c):=R1.out.cell 2
 have q1_3:W1.cell? ⟨w.heap.size,3,none⟩=some (.int .i64 g.d):=R1.out.cell 3
 have q1_5:W1.cell? ⟨w.heap.size,5,none⟩=some (.slice AL nL cL):=R1.out.cell 5
 have hs1':w.heap.size+1≤W1.heap.size:=by omega
 clear r0 hb1 hW1 hu h hF hup hrs hs1
 unfold stkC
 go_enter Tryd.func10,Tryd.ntmps10
 go_wp2_with (first|(refine wpList_loadC rfl 26 (.tmp 9) rfl 1 lay_agg lay_size (w.heap.size) 4 29 rfl (stkC g (.slice AU nU cU) (.slice AL nL cL)) [.slice AU nU cU] R1.out rfl rfl ?_)|(go_at_call 26;refine (RReach_any _ (und_up (HU.out.under (below_new (below_self W1) (.cells #[.int .i64 1] 3)) (by omega)) (by simp;omega)) (one_row (RowL.new W1 3 [.int .i64 1])) (plain_many HFU.out.1 HFU.out.2).1 (by omega)).mono ?_;rintro e1 wT ⟨AR,nR,cR,rfl,-,hrd,hbel0,-⟩;have hbel:Below W1.heap.size W1 wT:=(below_new (below_self W1) (.cells #[.int .i64 1] 3)).trans (hbel0.mono (by simp));rw [HRS.out] at hrd;have HRD:=hide hrd;clear q1_4 q1_0 q1_1 q1_2 q1_3 q1_5;replace HB:=hide (HB.out.trans (hbel.mono HB.out.size));replace R1:=hide (R1.out.on hbel);replace HU:=hide (HU.out.under hbel (by omega));replace HL:=hide (HL.out.under hbel (by omega));have hsz1:=hbel.size;have q1_4:wT.cell? ⟨w.heap.size,4,none⟩=some (.slice AU nU cU):=R1.out.cell 4;have q1_0:wT.cell? ⟨w.heap.size,0,none⟩=some (.int .i64 g.a):=R1.out.cell 0;have q1_1:wT.cell? ⟨w.heap.size,1,none⟩=some (.int .i64 g.b):=R1.out.cell 1;have q1_2:wT.cell? ⟨w.heap.size,2,none⟩=some (.int .i64 g.c):=R1.out.cell 2;have q1_3:wT.cell? ⟨w.heap.size,3,none⟩=some (.int .i64 g.d):=R1.out.cell 3;have q1_5:wT.cell? ⟨w.heap.size,5,none⟩=some (.slice AL nL cL):=R1.out.cell 5;clear hrd hbel hbel0))
 have hWT:W1.heap.size≤wT.heap.size:=by omega
 have hnR:nR=nU:=by have h1:=HRD.out.1;have h2:=HU.out.1;omega
 subst hnR
 have hn24:nR≤24:=by have h1:=HFU.out.1;have h2:=HU.out.1;omega
 have hul:up.length=nR:=HU.out.1
 have HE0:=hide (OwE.empty finEn wT 44)
 have hbe:=below_new (below_self wT) (.cells #[] 44)
 generalize wT.alloc (.cells #[] 44)=wE at *
 replace R1:=hide (R1.out.on hbe)
 replace HU:=hide (und_at HU.out hbe (by omega))
 replace HL:=hide (und_at HL.out hbe (by omega))
 replace HRD:=hide (HRD.out.below hbe)
 replace HB:=hide (HB.out.trans (hbe.mono HB.out.size))
 have hbesz:=hbe.size
 clear hbe hW1' q1_4 q1_0 q1_1 q1_2 q1_3 q1_5
 go_loopw [4,5] (fun v4 v5 wr=>∃(k:Nat) (cl:Int) (n3:Nat) (A3:Option Addr) (c3:Nat),k≤7∧cl=8+(k:Int)∧v5=.int .i64 cl∧v4=.slice A3 n3 c3∧n3≤24*k∧OwE finEn wr wT.heap.size 44 A3 n3 c3 (refO up ls rs k)∧Below wT.heap.size wE wr) (fun _ v5 _=>15 - (intOf v5).toNat)
 case atStart=>exact ⟨0,8,0,_,0,by omega,rfl,rfl,rfl,by omega,HE0.out,Below.refl _ _⟩
 case round =>
  rename World=>wo
  obtain ⟨k,cl,n3,A3,c3,hk,hcl,rfl,rfl,hn3,ho,hbr⟩:=hrel
  have hca:cl≤8+(k:Int):=by omega
  have hcb:8+(k:Int)≤cl:=by omega
  have HCK:=hide hcl
  clear hcl
  have hbsz:=hbr.size
  have HBR:=hide hbr
  have HO:=hide ho
  replace R1:=hide (show RowL wo w.heap.size _ _ from (hbr.block _ (by omega)).trans R1.out)
  replace HU:=hide (und_at HU.out hbr (by omega))
  replace HL:=hide (und_at HL.out hbr (by omega))
  replace HRD:=hide (HRD.out.below hbr)
  clear ho hbr
  by_cases hlt:k < 7
  ·have HOF:=hide (show refO up ls rs (k+1)=refO up ls rs k++rowO up ls rs cl nR from by rw [refO_succ,HCK.out,hul])
   have hcle:cl≤14:=by omega
   have hwc:IntKind.i64.wrap (cl+1)=cl+1:=IntWalk.i64_in _ (by omega)
   go_wp2_with fail
   go_loopw [4,6] (fun v4 v6 wr=>∃(i n6:Nat) (A6:Option Addr) (c6:Nat),i≤nR∧v6=.int .i64 i∧v4=.slice A6 n6 c6∧n6≤n3+i∧OwE finEn wr wT.heap.size 44 A6 n6 c6 (refO up ls rs k++rowO up ls rs cl i)∧Below wT.heap.size wo wr) (fun _ v6 _=>nR - (intOf v6).toNat)
   case atStart=>exact ⟨0,n3,A3,c3,by omega,rfl,rfl,by omega,by rw [show rowO up ls rs cl 0=[] from rfl,List.append_nil];exact HO.out,Below.refl _ _⟩
   case round =>
    obtain ⟨i,n6,A6,c6,hi,rfl,rfl,hn6,ho,hbr⟩:=hrel
    have hbsz2:=hbr.size
    have HBQ:=hide hbr
    have HO2:=hide ho
    replace R1:=hide (show RowL wr w.heap.size _ _ from (hbr.block _ (by omega)).trans R1.out)
    replace HU:=hide (und_at HU.out hbr (by omega))
    replace HL:=hide (und_at HL.out hbr (by omega))
    replace HRD:=hide (HRD.out.below hbr)
    clear ho hbr
    by_cases hlt2:i < nR
    ·obtain ⟨x,hx⟩:∃x,up[i]?=some x:=⟨_,List.getElem?_eq_getElem (by omega)⟩
     obtain ⟨r,hri⟩:∃r,rs[i]?=some r:=⟨_,List.getElem?_eq_getElem (by omega)⟩
     obtain ⟨v,hv⟩:∃v,violO ls cl x=v:=⟨_,rfl⟩
     have HTO:=hide (oneO_is hx hri hv)
     have HTS:=hide (rowO_succ up ls rs cl i)
     have HV:=hide hv
     have hh:=(HFU.out.2 x (List.mem_of_getElem? hx)).2.2.1
     obtain ⟨bU,oU,A0,n0,k0,C0,m0,d0,rfl,hbU,hcx⟩:=nod_cells HU.out hx
     have HCX:=hide hcx
     obtain ⟨bR,oR,rfl⟩:=rd_some HRD.out (by omega)
     have hin:(i:Int) < (nR:Int):=by omega
     have hw1:IntKind.i64.wrap ((i:Int)+1)=(i:Int)+1:=IntWalk.i64_in _ (by omega)
     have q1_4:wr.cell? ⟨w.heap.size,4,none⟩=some (.slice (some ⟨bU,oU,none⟩) nR cU):=R1.out.cell 4
     have HRI:=hide hri
     clear hcx hx hv hri
     go_upto_region 10 with (first|(refine wpList_loadX rfl 37 (.tmp 28) rfl 13 nod_agg nod_size bU (oU+i*13) rfl (nodC x (.slice A0 n0 k0) (.slice C0 m0 d0)) HCX.out rfl ?_)|(refine wpList_storeW rfl 37 (.tmp 7) (.tmp 29) rfl 13 nod_size (wr.heap.size) 37 rfl (nodC nod0 (.slice none 0 0) (.slice none 0 0)) (nodC x (.slice A0 n0 k0) (.slice C0 m0 d0)) rfl (RowL.new wr 37 (nodC nod0 (.slice none 0 0) (.slice none 0 0))) rfl rfl (nodC_one _ _ _ _ _ _ _) ?_;intro wS121 hr121 hg121 hs121;have hzb:=below_stored' hg121;replace HBQ:=hide (HBQ.out.trans (hzb.mono (by omega)));replace R1:=hide (R1.out.on hzb);replace HU:=hide (HU.out.under hzb (by omega));replace HL:=hide (HL.out.under hzb (by omega));replace HRD:=hide (HRD.out.below (hzb.mono (by omega)));replace HO2:=hide (HO2.out.below hzb);have hsz122:=hzb.size;have R7:=hide hr121;have hlt121:=hr121.lt;have q7_0:wS121.cell? ⟨wr.heap.size,0,none⟩=some (.int .i64 x.k):=R7.out.cell 0;have q7_1:wS121.cell? ⟨wr.heap.size,1,none⟩=some (.int .i64 x.p):=R7.out.cell 1;have q7_2:wS121.cell? ⟨wr.heap.size,2,none⟩=some (.int .i64 x.n):=R7.out.cell 2;have q7_3:wS121.cell? ⟨wr.heap.size,3,none⟩=some (.int .i64 x.g):=R7.out.cell 3;have q7_4:wS121.cell? ⟨wr.heap.size,4,none⟩=some (.slice A0 n0 k0):=R7.out.cell 4;have q7_5:wS121.cell? ⟨wr.heap.size,5,none⟩=some (.slice C0 m0 d0):=R7.out.cell 5;have q7_6:wS121.cell? ⟨wr.heap.size,6,none⟩=some (.int .i64 x.att.h):=R7.out.cell 6;have q7_7:wS121.cell? ⟨wr.heap.size,7,none⟩=some (.int .i64 x.att.o):=R7.out.cell 7;have q7_8:wS121.cell? ⟨wr.heap.size,8,none⟩=some (.string ⟨x.att.r.toArray⟩):=R7.out.cell 8;have q7_9:wS121.cell? ⟨wr.heap.size,9,none⟩=some (.int .i64 x.att.l):=R7.out.cell 9;have q7_10:wS121.cell? ⟨wr.heap.size,10,none⟩=some (.int .i64 x.att.i):=R7.out.cell 10;have q7_11:wS121.cell? ⟨wr.heap.size,11,none⟩=some (.int .i64 x.att.g):=R7.out.cell 11;have q7_12:wS121.cell? ⟨wr.heap.size,12,none⟩=some (.int .i64 x.att.s):=R7.out.cell 12;clear hzb hr121;clear hg121 hs121))
     (try simp only [Act.put])
     go_cut [8] from 30 to 54 (fun v8 wx=>v8=.bool v∧Below wS121.heap.size wS121 wx)
     case first =>
      clear q1_4
      have q1_4:wS121.cell? ⟨w.heap.size,4,none⟩=some (.slice (some ⟨bU,oU,none⟩) nR cU):=R1.out.cell 4
      have q7_0:wS121.cell? ⟨wr.heap.size,0,none⟩=some (.int .i64 x.k):=R7.out.cell 0
      have q7_1:wS121.cell? ⟨wr.heap.size,1,none⟩=some (.int .i64 x.p):=R7.out.cell 1
      have q7_2:wS121.cell? ⟨wr.heap.size,2,none⟩=some (.int .i64 x.n):=R7.out.cell 2
      have q7_3:wS121.cell? ⟨wr.heap.size,3,none⟩=some (.int .i64 x.g):=R7.out.cell 3
      have q7_4:wS121.cell? ⟨wr.heap.size,4,none⟩=some (.slice A0 n0 k0):=R7.out.cell 4
      have q7_5:wS121.cell? ⟨wr.heap.size,5,none⟩=some (.slice C0 m0 d0):=R7.out.cell 5
      have q7_6:wS121.cell? ⟨wr.heap.size,6,none⟩=some (.int .i64 x.att.h):=R7.out.cell 6
      have q7_7:wS121.cell? ⟨wr.heap.size,7,none⟩=some (.int .i64 x.att.o):=R7.out.cell 7
      have q7_8:wS121.cell? ⟨wr.heap.size,8,none⟩=some (.string ⟨x.att.r.toArray⟩):=R7.out.cell 8
      have q7_9:wS121.cell? ⟨wr.heap.size,9,none⟩=some (.int .i64 x.att.l):=R7.out.cell 9
      have q7_10:wS121.cell? ⟨wr.heap.size,10,none⟩=some (.int .i64 x.att.i):=R7.out.cell 10
      have q7_11:wS121.cell? ⟨wr.heap.size,11,none⟩=some (.int .i64 x.att.g):=R7.out.cell 11
      have q7_12:wS121.cell? ⟨wr.heap.size,12,none⟩=some (.int .i64 x.att.s):=R7.out.cell 12
      have q1_0:wS121.cell? ⟨w.heap.size,0,none⟩=some (.int .i64 g.a):=R1.out.cell 0
      have q1_1:wS121.cell? ⟨w.heap.size,1,none⟩=some (.int .i64 g.b):=R1.out.cell 1
      have q1_2:wS121.cell? ⟨w.heap.size,2,none⟩=some (.int .i64 g.c):=R1.out.cell 2
      have q1_3:wS121.cell? ⟨w.heap.size,3,none⟩=some (.int .i64 g.d):=R1.out.cell 3
      have q1_5:wS121.cell? ⟨w.heap.size,5,none⟩=some (.slice AL nL cL):=R1.out.cell 5
      rcases clause_case cl with rfl|rfl|rfl|⟨hc8,hc13,hc14⟩
      ·have HVc:=hide (show oddO x=v from by rw [←HV.out];rfl)
       cases v
       ·go_wp2_with fail
        go_at_call 12
        refine (ROdd_any HVc.out hh.1 hh.2 wS121).mono ?_
        rintro e9 wO ⟨rfl,hbel⟩
        go_wp2_with fail
        go_meet
        case rel=>exact ⟨rfl,hbel⟩
       ·go_wp2_with fail
        go_at_call 12
        refine (ROdd_any HVc.out hh.1 hh.2 wS121).mono ?_
        rintro e9 wO ⟨rfl,hbel⟩
        go_wp2_with fail
        go_meet
        case rel=>exact ⟨rfl,hbel⟩
      ·have HVc:=hide (show staleO ls x=v from by rw [←HV.out];rfl)
       cases v
       ·go_wp2_with fail
        go_at_call 14
        refine (RStale_any HVc.out hh.1 hh.2 wS121 HU.out HL.out (by omega) HF.out HFU.out).mono ?_
        rintro e9 wO ⟨rfl,hbel⟩
        go_wp2_with fail
        go_meet
        case rel=>exact ⟨rfl,hbel⟩
       ·go_wp2_with fail
        go_at_call 14
        refine (RStale_any HVc.out hh.1 hh.2 wS121 HU.out HL.out (by omega) HF.out HFU.out).mono ?_
        rintro e9 wO ⟨rfl,hbel⟩
        go_wp2_with fail
        go_meet
        case rel=>exact ⟨rfl,hbel⟩
      ·have HVc:=hide (show lacksO ls x=v from by rw [←HV.out];rfl)
       cases v
       ·go_wp2_with fail
        go_at_call 16
        refine (RLacks_any HVc.out hh.1 hh.2 wS121 HU.out HL.out (by omega) HF.out HFU.out).mono ?_
        rintro e9 wO ⟨rfl,hbel⟩
        go_wp2_with fail
        go_meet
        case rel=>exact ⟨rfl,hbel⟩
       ·go_wp2_with fail
        go_at_call 16
        refine (RLacks_any HVc.out hh.1 hh.2 wS121 HU.out HL.out (by omega) HF.out HFU.out).mono ?_
        rintro e9 wO ⟨rfl,hbel⟩
        go_wp2_with fail
        go_meet
        case rel=>exact ⟨rfl,hbel⟩
      ·have hv0:v=false:=by rw [←HV.out];unfold violO;rw [if_neg (by simpa using hc8),if_neg (by simpa using hc13),if_neg (by simpa using hc14)]
       subst hv0
       go_wp2_with fail
       go_wp2_with fail
       go_meet
       case rel=>exact ⟨rfl,Below.refl _ _⟩
     case rest =>
     rename World=>wS
     obtain ⟨rfl,hbx⟩:=hcut
     have hxsz:=hbx.size
     replace R1:=hide (R1.out.on hbx)
     replace HU:=hide (HU.out.under hbx (by omega))
     replace HL:=hide (HL.out.under hbx (by omega))
     replace HRD:=hide (HRD.out.below (hbx.mono (by omega)))
     replace HO2:=hide (HO2.out.below hbx)
     replace HBQ:=hide (HBQ.out.trans (hbx.mono (by omega)))
     have qb:=rd_cell HRD.out HRI.out
     clear hbx q1_4 R7
     cases r with
     | false =>
      go_wp2_with fail
      go_roundw
      case rel=>exact ⟨i+1,n6,A6,c6,by omega,by go_num,rfl,by omega,by rw [HTS.out,HTO.out,if_neg (by simp),List.append_nil];exact HO2.out,HBQ.out⟩
      case measure=>simp [intOf];omega
     | true =>
      cases v with
      | false =>
       go_wp2_with fail
       go_roundw
       case rel=>exact ⟨i+1,n6,A6,c6,by omega,by go_num,rfl,by omega,by rw [HTS.out,HTO.out,if_neg (by simp),List.append_nil];exact HO2.out,HBQ.out⟩
       case measure=>simp [intOf];omega
      | true =>
       have hlit:=litW_fin cl 0 ((i:Int)+1) (-1) wS
       go_wp2_with (first|(at_builtin;have hba:=below_new (below_self wS) (.cells #[.int .i64 cl,.int .i64 0,.int .i64 ((i:Int)+1),.int .i64 (-1)] 44);refine wpList_append_OwE (E:=finEn) _ rfl (.tmp 61) (.tmp 66) 42 rfl wT.heap.size 44 (.agg #[.int .i64 0,.int .i64 0,.int .i64 0,.int .i64 0]) 32 Tryd.underlying42 finW_info rfl (by decide) A6 n6 c6 _ rfl (HO2.out.below hba) (fun b=>wS.heap.size≤b∧b < (wS.alloc (.cells (finC ⟨cl,0,(i:Int)+1,-1⟩).toArray 44)).heap.size) (some ⟨wS.heap.size,0,none⟩) 1 1 [⟨cl,0,(i:Int)+1,-1⟩] rfl (enc_lit1 (OFin_R ⟨cl,0,(i:Int)+1,-1⟩) wS 44 (Nat.le_refl _)) (fun b hb=>⟨⟨hb.2,fun _ _ _ _=>rfl⟩,fun a ha=>(fun e=>by have h1:=hb.1;rw [e] at h1;have:=OwE.lt HO2.out a ha;omega)⟩) (n6+1) rfl (by omega) (by omega) (by simp;omega) ?_;intro A9 c9 w9 ho9 hb9;have HO9:=hide ho9;have HB9:=hide ((HBQ.out.alloc (by omega) _).trans hb9);clear ho9 hb9 hba))
       go_roundw
       case rel=>exact ⟨i+1,n6+1,A9,c9,by omega,by go_num,rfl,by omega,by rw [HTS.out,HTO.out,if_pos (by simp),←List.append_assoc];exact HO9.out,HB9.out⟩
       case measure=>simp [intOf];omega
    ·obtain rfl:nR=i:=by omega
     have hnlt2:¬((nR:Int) < (nR:Int)):=by omega
     have ho:=HO2.out
     rw [←HOF.out] at ho
     go_wp2_with fail
     go_roundw
     case rel=>exact ⟨k+1,cl+1,n6,A6,c6,by omega,by omega,rfl,rfl,by omega,ho,HBR.out.trans (HBQ.out.mono (by omega))⟩
     case measure=>simp [intOf];omega
  ·obtain rfl:k=7:=by omega
   have hcl2:¬(cl≤14):=by omega
   go_wp2_with fail
   go_ret
   have ho:=(HO.out.rd rfl).plain
   rw [refO_find] at ho
   exact ⟨A3,n3,c3,rfl,ho,HB.out.trans (HBR.out.mono (by omega))⟩
end Go.Proofs.YtfdbhldnohaopaaDoor

