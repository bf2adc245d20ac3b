import Derived.Test.YtnhegahpfacdgaaGreatRt35
import Derived.Test.YtnhegahpfacdgaaGreatRt19
import Derived.Test.YtnhegahpfacdgaaGreatRt11
import Derived.Test.YtnhegahpfacdgaaGreatRt28
import Derived.Test.YtnhegahpfacdgaaGreatRt10
import Derived.Test.YtnhegahpfacdgaaGreatRt8

namespace Go.Proofs.YtnhegahpfacdgaaGreat
open Go.RowKit Go.Shelf Plain Go.Maps

set_option maxRecDepth 100000 in
set_option maxHeartbeats 16000000 in
theorem RefFinds21_any {g:GeoQ} {AU AL:Option Addr} {nU cU nL cL B:Nat} {up:List NodV} {ls:List (List NodV)} {l:List WayV} {rs:List Bool} (hl:(walkW up [1]).1=l) (hrs:reachL up l=rs) (w:World) (hu:RdE nodEn w (Under B) AU nU up) (h:RdE layEn w (Under B) AL nL ls) (hB:B≤w.heap.size) (hF:FewL ls) (hup:FewU up):Calls Tryz.prog 8 #[.agg (stkC g (.slice AU nU cU) (.slice AL nL cL)).toArray] w (FinsO w (findR up rs l (runR up ls l l.length).2 up.length)):=by
 obtain ⟨W1,hW1⟩:∃W1,(w.alloc (.cells (stkC g (.slice AU nU cU) (.slice AL nL cL)).toArray 29))=W1:=⟨_,rfl⟩
 obtain ⟨r0,hb1,hs1⟩:=rowA1 w _ _ hW1
 have hW1':(w.alloc (.cells #[.int .i64 g.a,.int .i64 g.b,.int .i64 g.c,.int .i64 g.d,.slice AU nU cU,.slice AL nL cL] 29))=W1:=hW1
 have R1:=hide r0
 have HB:=hide hb1
 have hsz0:=hb1.size
 have HU:=hide (hu.under hb1 hB)
 have HL:=hide (h.under hb1 hB)
 have HF:=hide hF
 have HFU:=hide hup
 have HWS:=hide hl
 obtain ⟨TV,hT⟩:∃TV,treeV up ls l=TV:=⟨_,rfl⟩
 obtain ⟨n,hn⟩:∃n,l.length=n:=⟨_,rfl⟩
 have HT:=hide hT
 have HN:=hide hn
 have hokw:=walk_ok up [1]
 have hlw:=hokw.le
 rw [hl] at hokw hlw
 have HND:=hide hokw.2
 have hu24:=hup.1
 have hn24:n≤24:=by omega
 have HYI:=hide (show ∀y∈l,i64 y.ino from fun y hy=>by have h1:=isDir_in (hokw.1 y hy);unfold i64;omega)
 have HRS:=hide (show reachL up (walkW up [1]).1=rs from by rw [hl];exact hrs)
 have hrl:rs.length=up.length:=by rw [←hrs,reachL_len]
 have hul:up.length=nU:=hu.1
 have hs1':w.heap.size+1≤W1.heap.size:=by omega
 obtain ⟨O,hO⟩:∃O,(runR up ls l l.length).2=O:=⟨_,rfl⟩
 have HOL:=hide (show O.length=n from by rw [←hO,runR_len _ (Nat.le_refl _)];exact hn)
 have HIN:=hide (fun (i:Int)=>show ofR l O i=0∨9≤ofR l O i∧ofR l O i≤12 from ofR_in (by rw [←hO];exact runR_in _) i)
 have HOO:=hide hO
 clear r0 hb1 hW1 hu h hF hup hl hrs hokw hT hn hs1 hlw
 rw [hO]
 clear hO
 unfold stkC
 go_enter Tryz.func8,Tryz.ntmps8
 go_upto_region 1 with fail
 have HE0:=hide (OwE.empty finEn W1 36)
 have hbe:=below_new (below_self W1) (.cells #[] 36)
 have hzE:W1.heap.size+1≤(W1.alloc (.cells #[] 36)).heap.size:=by simp
 replace R1:=hide (R1.out.on hbe)
 replace HU:=hide (HU.out.under hbe (by omega))
 replace HL:=hide (HL.out.under hbe (by omega))
 replace HB:=hide (HB.out.trans (hbe.mono HB.out.size))
 clear hbe hW1'
 go_upto_region 2 with fail
 generalize W1.alloc (.cells #[] 36)=wE at *
 go_wp2_with (first|(refine wpList_loadW rfl 29 (.tmp 1) rfl 6 stk_agg stk_size (w.heap.size) 29 rfl [.int .i64 g.a,.int .i64 g.b,.int .i64 g.c,.int .i64 g.d,.slice AU nU cU,.slice AL nL cL] R1.out rfl ?_)|(go_at_call 24;refine (RVTree_p HWS.out HT.out HN.out wE HU.out HL.out (by omega) HF.out HFU.out).mono ?_;rintro e1 wA ⟨A3,c3,A4,c4,rfl,h3,-,hbel⟩;have hzT:=hbel.size;have H3:=hide (h3.mono (D':=Under wA.heap.size) (fun _ _=>rfl) (fun b hb=>hb.2));replace R1:=hide (R1.out.on hbel);replace HB:=hide (HB.out.trans (hbel.mono HB.out.size));replace HU:=hide (HU.out.under hbel (by omega));replace HL:=hide (HL.out.under hbel (by omega));replace HE0:=hide (HE0.out.below hbel);clear h3 hbel)|(go_at_call 25;refine (RefClauses_any HWS.out HT.out HN.out wA HU.out HL.out (by omega) HF.out HFU.out).mono ?_;rintro e2 wC ⟨A5,c5,rfl,h5,hbel⟩;have hzC:=hbel.size;rw [HOO.out] at h5;have H5:=hide h5;replace H3:=hide (H3.out.under hbel (Nat.le_refl _));replace R1:=hide (R1.out.on hbel);replace HB:=hide (HB.out.trans (hbel.mono HB.out.size));replace HU:=hide (HU.out.under hbel (by omega));replace HL:=hide (HL.out.under hbel (by omega));replace HE0:=hide (HE0.out.below hbel);clear h5 hbel)|(refine wpList_loadC rfl 26 (.tmp 19) rfl 1 lay_agg lay_size (w.heap.size) 4 29 rfl (stkC g (.slice AU nU cU) (.slice AL nL cL)) [.slice AU nU cU] R1.out rfl rfl ?_)|(go_at_call 26;refine (RReach_any _ (und_up (HU.out.under (below_new (below_self wC) (.cells #[.int .i64 1] 3)) (by omega)) (by simp;omega)) (one_row (RowL.new wC 3 [.int .i64 1])) (plain_many HFU.out.1 HFU.out.2).1 (by omega)).mono ?_;rintro e3 wT ⟨AR,nR,cR,rfl,-,hrd,hbel0,-⟩;have hbel:Below wC.heap.size wC wT:=(below_new (below_self wC) (.cells #[.int .i64 1] 3)).trans (hbel0.mono (by simp));rw [HRS.out] at hrd;have HRD:=hide hrd;have hzR:=hbel.size;replace H3:=hide (H3.out.under hbel (by omega));replace H5:=hide (H5.out.under hbel (Nat.le_refl _));replace R1:=hide (R1.out.on hbel);replace HB:=hide (HB.out.trans (hbel.mono HB.out.size));replace HU:=hide (HU.out.under hbel (by omega));replace HL:=hide (HL.out.under hbel (by omega));replace HE0:=hide (HE0.out.below hbel);clear hrd hbel hbel0))
 have hnR:nR=nU:=by have h1:=HRD.out.1;omega
 subst hnR
 go_loopw [3,8] (fun v3 v8 wr=>∃(i n6:Nat) (A6:Option Addr) (c6:Nat),i≤nR∧v8=.int .i64 ((i:Int)+1)∧v3=.slice A6 n6 c6∧n6≤i∧OwL finEn wr W1.heap.size wT.heap.size 36 A6 n6 c6 (findR up rs l O i)∧Below wT.heap.size wT wr) (fun _ v8 _=>nR+1 - (intOf v8).toNat)
 case atStart=>exact ⟨0,0,_,0,by omega,rfl,rfl,by omega,.inr ⟨_,rfl,rfl,rfl,rfl,HE0.out⟩,Below.refl _ _⟩
 case round =>
  obtain ⟨i,n6,A6,c6,hi,rfl,rfl,hn6,ho,hbr⟩:=hrel
  have hbsz:=hbr.size
  have HBQ:=hide hbr
  have HO2:=hide ho
  have R1r:=hide (R1.out.on hbr)
  have HUr:=hide (HU.out.under hbr (by omega))
  have H3r:=hide (H3.out.under hbr (by omega))
  have H5r:=hide (H5.out.under hbr (by omega))
  have HRDr:=hide ((HRD.out.below hbr).more (by omega))
  clear ho hbr
  have hw0:IntKind.i64.wrap ((i:Int)+1+1)=(i:Int)+1+1:=IntWalk.i64_in _ (by omega)
  by_cases hlt:i < nR
  ·obtain ⟨x,hx⟩:∃x,up[i]?=some x:=⟨_,List.getElem?_eq_getElem (by omega)⟩
   obtain ⟨r,hri⟩:∃r,rs[i]?=some r:=⟨_,List.getElem?_eq_getElem (by omega)⟩
   have hxa:nodAt up ((i:Int)+1)=x:=nodAt_get hx
   obtain ⟨hr,hhr⟩:∃hr,hasR x=hr:=⟨_,rfl⟩
   have HRB:=hide hhr
   have HXA:=hide hxa
   have HTS:=hide (findR_succ up rs l O i)
   have HTO:=hide (oneR_is (l:=l) (out:=O) hx hri)
   obtain ⟨bR,oR,hAR⟩:=rd_some HRDr.out (by omega)
   subst hAR
   have qb:=rd_cell HRDr.out hri
   have qs0:wr.cell? ⟨w.heap.size,0,none⟩=some (.int .i64 g.a):=R1r.out.cell 0
   have qs1:wr.cell? ⟨w.heap.size,1,none⟩=some (.int .i64 g.b):=R1r.out.cell 1
   have qs2:wr.cell? ⟨w.heap.size,2,none⟩=some (.int .i64 g.c):=R1r.out.cell 2
   have qs3:wr.cell? ⟨w.heap.size,3,none⟩=some (.int .i64 g.d):=R1r.out.cell 3
   have qs4:wr.cell? ⟨w.heap.size,4,none⟩=some (.slice AU nR cU):=R1r.out.cell 4
   have qs5:wr.cell? ⟨w.heap.size,5,none⟩=some (.slice AL nL cL):=R1r.out.cell 5
   have hin:(i:Int)+1≤(nR:Int):=by omega
   have hw1:IntKind.i64.wrap ((i:Int)+1 - 1)=(i:Int):=by rw [show (i:Int)+1 - 1=(i:Int) from by omega];exact IntWalk.i64_in _ (by omega)
   have hi2:(i:Int) < (nR:Int):=by omega
   clear hx hri hxa hhr
   cases r with
   | false =>
    have HTN:=hide (show oneR up rs l O i=[] from by rw [HTO.out,if_neg (by simp)])
    go_wp2_with fail
    go_roundw
    case rel=>exact ⟨i+1,n6,A6,c6,by omega,by go_num,rfl,by omega,by rw [HTS.out,HTN.out,List.append_nil];exact HO2.out,HBQ.out⟩
    case measure=>simp [intOf];omega
   | true =>
    cases hr with
    | false =>
     have HTN:=hide (show oneR up rs l O i=[] from by rw [HTO.out,if_neg (by rw [HRB.out];simp)])
     go_wp2_with (first|(go_at_call 27;refine (RRedd21_b HXA.out HRB.out wr HUr.out (by omega) HFU.out).mono ?_;rintro e4 wD ⟨rfl,hbel⟩;have hzD:=hbel.size;have HBD:=hide (HBQ.out.trans (hbel.mono (by omega)));have HOD:=hide (HO2.out.below hbel);have H3D:=hide (H3r.out.under hbel (by omega));have H5D:=hide (H5r.out.under hbel (by omega));clear hbel))
     go_roundw
     case rel=>exact ⟨i+1,n6,A6,c6,by omega,by go_num,rfl,by omega,by rw [HTS.out,HTN.out,List.append_nil];exact HOD.out,HBD.out⟩
     case measure=>simp [intOf];omega
    | true =>
     have HTN0:=hide (show oneR up rs l O i=if ofR l O ((i:Int)+1)≠0 then [⟨ofR l O ((i:Int)+1),0,(i:Int)+1,-1⟩] else [] from by rw [HTO.out,HRB.out];simp)
     go_wp2_with (first|(go_at_call 27;refine (RRedd21_b HXA.out HRB.out wr HUr.out (by omega) HFU.out).mono ?_;rintro e4 wD ⟨rfl,hbel⟩;have hzD:=hbel.size;have HBD:=hide (HBQ.out.trans (hbel.mono (by omega)));have HOD:=hide (HO2.out.below hbel);have H3D:=hide (H3r.out.under hbel (by omega));have H5D:=hide (H5r.out.under hbel (by omega));clear hbel))
     go_loop [9,10] (fun v9 v10=>∃k:Nat,k≤n∧v9=.int .i64 (ofR (l.take k) (O.take k) ((i:Int)+1))∧v10=.int .i64 k) (fun _ v10=>n - (intOf v10).toNat)
     case atStart=>exact ⟨0,by omega,by rw [ofR_zero],rfl⟩
     case round =>
      obtain ⟨k,hk,rfl,rfl⟩:=hrel
      by_cases hltk:k < n
      ·obtain ⟨y,hy⟩:∃y,l[k]?=some y:=⟨_,List.getElem?_eq_getElem (by have:=HN.out;omega)⟩
       obtain ⟨c,hc⟩:∃c,O[k]?=some c:=⟨_,List.getElem?_eq_getElem (by have:=HOL.out;omega)⟩
       have HST:=hide (ofR_step (i:=(i:Int)+1) HND.out hy hc)
       have hyi:=HYI.out y (List.mem_of_getElem? hy)
       obtain ⟨bW,oW,hAW,hbW,hcW⟩:=way_get H3D.out hy
       have qy:wD.cell? ⟨bW,oW+k*3,none⟩=some (.int .i64 y.ino):=hcW 0 _ rfl
       obtain ⟨bC,oC,hAC,hbC,hcc⟩:=H5D.out.2 (by omega)
       obtain ⟨cs,hR,hcs⟩:=hcc k c hc
       obtain rfl:cs=[.int .i64 c]:=hR
       have qc:wD.cell? ⟨bC,oC+k,none⟩=some (.int .i64 c):=by have h1:=hcs 0 _ rfl;simpa [show Enc.int.k=1 from rfl] using h1
       have hkn:(k:Int) < (n:Int):=by omega
       subst hAW hAC
       clear hy hc hcc hcs hcW hbW hbC
       by_cases heq:y.ino=(i:Int)+1
       ·have HST2:=hide (show ofR (l.take (k+1)) (O.take (k+1)) ((i:Int)+1)=c from by rw [HST.out,if_pos heq])
        have hed:(y.ino==(i:Int)+1)=true:=by simpa using heq
        go_wp2_with fail
        go_round
        case rel=>exact ⟨k+1,by omega,by rw [HST2.out],by go_num⟩
        case measure=>simp [intOf];omega
       ·have HST2:=hide (show ofR (l.take (k+1)) (O.take (k+1)) ((i:Int)+1)=ofR (l.take k) (O.take k) ((i:Int)+1) from by rw [HST.out,if_neg heq])
        have hed:(y.ino==(i:Int)+1)=false:=by simpa using heq
        go_wp2_with fail
        go_round
        case rel=>exact ⟨k+1,by omega,by rw [HST2.out],by go_num⟩
        case measure=>simp [intOf];omega
      ·obtain rfl:k=n:=by omega
       have hkn:¬((k:Int) < (k:Int)):=by omega
       rw [ofR_full ((i:Int)+1) HN.out HOL.out]
       have hin9:=HIN.out ((i:Int)+1)
       obtain ⟨v,hv⟩:∃v,ofR l O ((i:Int)+1)=v:=⟨_,rfl⟩
       rw [hv] at HTN0 hin9 ⊢
       clear hv
       by_cases hv0:v=0
       ·have HTN:=hide (show oneR up rs l O i=[] from by rw [HTN0.out,if_neg (by simp [hv0])])
        have hv1:(v==0)=true:=by simp [hv0]
        have hv2:(v != 0)=false:=by simp [hv0]
        go_wp2_with fail
        go_roundw
        case rel=>exact ⟨i+1,n6,A6,c6,by omega,by go_num,rfl,by omega,by rw [HTS.out,HTN.out,List.append_nil];exact HOD.out,HBD.out⟩
        case measure=>simp [intOf];omega
       ·have HTN:=hide (show oneR up rs l O i=[⟨v,0,(i:Int)+1,-1⟩] from by rw [HTN0.out,if_pos hv0])
        have hlit:=fun W=>litW_fin v 0 ((i:Int)+1) (-1) W
        have hv1:(v==0)=false:=by simp [hv0]
        have hv2:(v != 0)=true:=by simp [hv0]
        go_wp2_with (first|(at_builtin;have hba:=below_new (below_self wD) (.cells #[.int .i64 v,.int .i64 0,.int .i64 ((i:Int)+1),.int .i64 (-1)] 36);refine wpList_append_OwL (E:=finEn) _ rfl (.tmp 60) (.tmp 64) 34 rfl W1.heap.size wT.heap.size 36 (.agg #[.int .i64 0,.int .i64 0,.int .i64 0,.int .i64 0]) 32 Tryz.underlying34 finW_info rfl (by decide) A6 n6 c6 _ rfl (HOD.out.below hba) (fun b=>wD.heap.size≤b∧b < (wD.alloc (.cells (finC ⟨v,0,(i:Int)+1,-1⟩).toArray 36)).heap.size) (some ⟨wD.heap.size,0,none⟩) 1 1 [⟨v,0,(i:Int)+1,-1⟩] rfl (enc_lit1 (OFin_R ⟨v,0,(i:Int)+1,-1⟩) wD 36 (Nat.le_refl _)) (fun b hb=>⟨⟨hb.2,fun _ _ _ _=>rfl⟩,fun a ha=>(fun e=>by have h1:=hb.1;rw [e] at h1;have:=HOD.out.ltB a ha;omega)⟩) (by omega) (n6+1) rfl (by omega) (by omega) (by simp;omega) (by simp;omega) ?_;intro A9 c9 w9 ho9 hb9 _;have HO9:=hide ho9;have HB9:=hide ((HBD.out.alloc (by omega) _).trans hb9);clear ho9 hb9 hba))
        go_roundw
        case rel=>exact ⟨i+1,n6+1,A9,c9,by omega,by go_num,rfl,by omega,by rw [HTS.out,HTN.out];exact .inl HO9.out,HB9.out⟩
        case measure=>simp [intOf];omega
  ·obtain rfl:nR=i:=by omega
   have hnlt:¬((nR:Int)+1≤(nR:Int)):=by omega
   have HR:=hide (HO2.out.read rfl)
   have HBZ:=hide (HB.out.trans (HBQ.out.mono (by have:=HB.out.size;omega)))
   go_wp2_with fail
   go_ret
   exact ⟨A6,n6,c6,rfl,HR.out,HBZ.out⟩
end Go.Proofs.YtnhegahpfacdgaaGreat

namespace Go.Proofs.YtnhegahpfacdgaaGreat
open Go.RowKit Go.Shelf Plain

theorem RefFinds21_p {g:GeoQ} {AU AL:Option Addr} {nU cU nL cL B:Nat} {up:List NodV} {ls:List (List NodV)} {R:List FinV} {n:Nat} (hR:allR up ls=R) (hn:R.length=n) (w:World) (hu:RdE nodEn w (Under B) AU nU up) (h:RdE layEn w (Under B) AL nL ls) (hB:B≤w.heap.size) (hF:FewL ls) (hup:FewU up):Calls Tryz.prog 8 #[.agg (stkC g (.slice AU nU cU) (.slice AL nL cL)).toArray] w (fun e w'=>∃A c,e=.returned (.slice A n c)∧RdE finEn w' (Under w'.heap.size) A n R∧Below w.heap.size w w'):=by
 refine (RefFinds21_any rfl rfl w hu h hB hF hup).mono fun e w' hh=>?_
 obtain ⟨A,m,c,h1,h2,h3⟩:=hh
 have h4:findR up (reachL up (walkW up [1]).1) (walkW up [1]).1 (runR up ls (walkW up [1]).1 (walkW up [1]).1.length).2 up.length=R:=hR
 rw [h4] at h2
 obtain rfl:n=m:=by rw [←hn];exact h2.1
 exact ⟨A,c,h1,h2,h3⟩
set_option maxRecDepth 100000 in
set_option maxHeartbeats 16000000 in
theorem law_RedirectTells {g:GeoQ} {AU AL AO:Option Addr} {nU cU nL cL nO cO:Nat} {up:List NodV} {ls:List (List NodV)} {own:List (List UInt8)} {s:List UInt8} (w:World) (hu:RdE nodEn w (Under w.heap.size) AU nU up) (h:RdE layEn w (Under w.heap.size) AL nL ls) (hfu:FineN up) (hfl:∀ns∈ls,FineN ns) (ho:Rd st w w.heap.size AO nO own) (hnc:nO≤cO):Calls Tryz.prog 3 #[.agg (stkC g (.slice AU nU cU) (.slice AL nL cL)).toArray,.slice AO nO cO,.string ⟨s.toArray⟩] w (LawOk w):=by
 obtain ⟨W1,hW1⟩:∃W1,(w.alloc (.cells (stkC g (.slice AU nU cU) (.slice AL nL cL)).toArray 29))=W1:=⟨_,rfl⟩
 obtain ⟨r0,hb1,hs1⟩:=rowA1 w _ _ hW1
 have hW1':(w.alloc (.cells #[.int .i64 g.a,.int .i64 g.b,.int .i64 g.c,.int .i64 g.d,.slice AU nU cU,.slice AL nL cL] 29))=W1:=hW1
 have R3:=hide r0
 have HB:=hide hb1
 have hsz0:=hb1.size
 have HU:=hide (hu.under hb1 (Nat.le_refl _))
 have HL:=hide (h.under hb1 (Nat.le_refl _))
 have HO:=hide (ho.below hb1)
 have HFN:=hide hfu
 have HFL:=hide hfl
 have hs1':w.heap.size+1≤W1.heap.size:=by omega
 obtain ⟨k,hk⟩:∃k,s.length=k:=⟨_,rfl⟩
 have hsz:(⟨s.toArray⟩:ByteArray).size=k:=by rw [←hk];simp [ByteArray.size]
 unfold stkC
 clear r0 hb1 hW1 hu h ho hfu hfl hs1
 go_enter Tryz.func3,Tryz.ntmps3
 go_wp2_with (first|(refine wpList_loadW rfl 29 (.tmp 3) rfl 6 stk_agg stk_size (w.heap.size) 29 rfl (stkC g (.slice AU nU cU) (.slice AL nL cL)) R3.out rfl ?_))
 clear hW1'
 refine (PStackM_any (by omega) W1 (und_up HU.out (by omega)) (und_up HL.out (by omega)) HFN.out HFL.out).mono ?_
 rintro e w2 ⟨q,rfl,hb2,hq⟩
 have HQ:=hide hq
 have HB2:=hide (HB.out.trans (hb2.mono HB.out.size))
 have R32:=hide (R3.out.on hb2)
 have HU2:=hide (HU.out.under hb2 (by omega))
 have HL2:=hide (HL.out.under hb2 (by omega))
 have HO2:=hide (HO.out.below (hb2.mono (by omega)))
 have hz2:=hb2.size
 clear hq hb2 R3 HB HU HL HO
 cases q with
 | false =>
  go_wp2_with fail
  refine (awake21_any _).mono ?_
  rintro e98 wz ⟨rfl,hbz⟩
  have HBZ:=hide (HB2.out.trans (hbz.mono (by have:=(HB2.out).size;omega)))
  clear hbz
  go_wp2_with fail
  go_ret
  exact LawOk.of HBZ.out
 | true =>
  obtain ⟨hF,hB10⟩:=HQ.out (by first|rfl|trivial)
  have hup:FewU up:=⟨by have h1:=hB10.1;omega,hB10.2⟩
  have HF:=hide hF
  have HFU:=hide hup
  clear hF hB10 hup HQ
  by_cases hn:(10:Int) < (nO:Int)
  ·go_wp2_with fail
   refine (awake21_any _).mono ?_
   rintro e98 wz ⟨rfl,hbz⟩
   have HBZ:=hide (HB2.out.trans (hbz.mono (by have:=(HB2.out).size;omega)))
   clear hbz
   go_wp2_with fail
   go_ret
   exact LawOk.of HBZ.out
  by_cases hn2:(60:Int) < (k:Int)
  ·go_wp2_with fail
   refine (awake21_any _).mono ?_
   rintro e98 wz ⟨rfl,hbz⟩
   have HBZ:=hide (HB2.out.trans (hbz.mono (by have:=(HB2.out).size;omega)))
   clear hbz
   go_wp2_with fail
   go_ret
   exact LawOk.of HBZ.out
  have hn10:nO≤10:=by omega
  have hk60:s.length≤60:=by omega
  obtain ⟨l,hl⟩:∃l,(walkW up [1]).1=l:=⟨_,rfl⟩
  obtain ⟨TV,hT⟩:∃TV,treeV up ls l=TV:=⟨_,rfl⟩
  obtain ⟨n,hn'⟩:∃n,l.length=n:=⟨_,rfl⟩
  obtain ⟨R,hR⟩:∃R,allR up ls=R:=⟨_,rfl⟩
  obtain ⟨m,hm⟩:∃m,R.length=m:=⟨_,rfl⟩
  obtain ⟨b,hb⟩:∃b,loopR own s=b:=⟨_,rfl⟩
  have hm24:m≤24:=by
   rw [←hm,←hR]
   have h1:=HFU.out.1
   exact Nat.le_trans (findR_len _ _ _ _ _) h1
  have hn24:n≤24:=by
   have h1:=(walk_ok up [1]).le
   rw [hl] at h1
   have h2:=HFU.out.1
   omega
  have HWS:=hide hl
  have HT:=hide hT
  have HN:=hide hn'
  have HR:=hide hR
  have HRN:=hide hm
  have HLO:=hide hb
  clear hl hT hn' hR hm hb
  go_wp2_with fail
  refine wp_region_planN (fun w'=>Below w2.heap.size w2 w') [(0,true),(2,true),(1,false),(3,false),(4,false),(5,true),(6,true),(8,true),(7,false),(9,false),(10,false),(11,true),(12,true),(13,true),(14,true),(16,true),(17,true),(15,false),(18,false),(19,true),(20,true),(21,true),(22,false),(23,true),(24,true)] (by kernel_rfl) (by kernel_rfl) (by kernel_rfl) (by kernel_rfl) rfl (fun _ _ _ _ _ h=>h) (below_drew (below_self w2)) (fun hHeld=>?_)
  simp only [planOps,List.filterMap_cons,List.filterMap_nil,List.getElem?_toArray,List.getElem?_cons_succ,List.getElem?_cons_zero,Option.map_some]
  refine wpPlan_take (v:=?_) (by kernel_rfl) (fun wS hSw=>?_) ?_
  rotate_left
  ·refine execOp_load (x:=.tmp 3) (k:=6) (g:=w.heap.size) (off:=0) (cs:=[.int .i64 g.a,.int .i64 g.b,.int .i64 g.c,.int .i64 g.d,.slice AU nU cU,.slice AL nL cL]) ?_ stk_agg stk_size ?_ (fun j v hv=>by rw [Nat.zero_add];exact ((R32.out.on hSw).cell j).trans hv) rfl <;> rfl
  (try simp only [Act.put,pu1,pu2,pu3])
  refine wpPlan_take (v:=?_) (by kernel_rfl) (fun wS hSw=>?_) ?_
  rotate_left
  ·refine execOp_load (x:=.tmp 3) (k:=6) (g:=w.heap.size) (off:=0) (cs:=[.int .i64 g.a,.int .i64 g.b,.int .i64 g.c,.int .i64 g.d,.slice AU nU cU,.slice AL nL cL]) ?_ stk_agg stk_size ?_ (fun j v hv=>by rw [Nat.zero_add];exact ((R32.out.on hSw).cell j).trans hv) rfl <;> rfl
  (try simp only [Act.put,pu1,pu2,pu3])
  refine wpPlan_call (by kernel_rfl) (fun K hK=>?_)
  have hOld:=hide hHeld
  clear hHeld
  go_simp
  go_at_call 7
  refine (RFinds21_p (g:=g) HR.out HRN.out _ (HU2.out.under hOld.out (by omega)) (HL2.out.under hOld.out (by omega)) (by have:=hOld.out.size;omega) HF.out HFU.out).mono ?_
  rintro e w' ⟨A5,c5,rfl,h5,hbel⟩
  have H5:=hide h5
  clear h5
  refine hK.out _ _ (hOld.out.trans (hbel.mono hOld.out.size)) (fun hHeld=>?_)
  clear hK K
  (try simp only [Act.put,pu1,pu2,pu3])
  refine wpPlan_call (by kernel_rfl) (fun K hK=>?_)
  have hOld:=hide hHeld
  clear hHeld
  go_simp
  go_at_call 8
  refine (RefFinds21_p (g:=g) HR.out HRN.out _ (HU2.out.under hOld.out (by omega)) (HL2.out.under hOld.out (by omega)) (by have:=hOld.out.size;omega) HF.out HFU.out).mono ?_
  rintro e w' ⟨A6,c6,rfl,h6,hbel⟩
  have H6:=hide h6
  have H5':=hide (und_up (H5.out.under hbel (Nat.le_refl _)) hbel.size)
  clear h6 H5
  refine hK.out _ _ (hOld.out.trans (hbel.mono hOld.out.size)) (fun hHeld=>?_)
  clear hK K
  (try simp only [Act.put,pu1,pu2,pu3])
  refine wpPlan_call (by kernel_rfl) (fun K hK=>?_)
  have hOld:=hide hHeld
  clear hHeld
  go_simp
  go_at_call 6
  refine (EqualFin_same _ H5'.out H6.out (by omega)).mono ?_
  rintro e w' ⟨rfl,hbel⟩
  clear H5' H6
  refine hK.out _ _ (hOld.out.trans (hbel.mono hOld.out.size)) (fun hHeld=>?_)
  clear hK K
  (try simp only [Act.put,pu1,pu2,pu3])
  refine wpPlan_take (v:=?_) (by kernel_rfl) (fun wS hSw=>?_) ?_
  rotate_left
  ·(try dsimp only at hSw);go_simp;(try with_reducible rfl)
  (try simp only [Act.put,pu1,pu2,pu3])
  refine wpPlan_take (v:=?_) (by kernel_rfl) (fun wS hSw=>?_) ?_
  rotate_left
  ·refine execOp_load (x:=.tmp 3) (k:=6) (g:=w.heap.size) (off:=0) (cs:=[.int .i64 g.a,.int .i64 g.b,.int .i64 g.c,.int .i64 g.d,.slice AU nU cU,.slice AL nL cL]) ?_ stk_agg stk_size ?_ (fun j v hv=>by rw [Nat.zero_add];exact ((R32.out.on hSw).cell j).trans hv) rfl <;> rfl
  (try simp only [Act.put,pu1,pu2,pu3])
  refine wpPlan_take (v:=?_) (by kernel_rfl) (fun wS hSw=>?_) ?_
  rotate_left
  ·refine execOp_load (x:=.tmp 3) (k:=6) (g:=w.heap.size) (off:=0) (cs:=[.int .i64 g.a,.int .i64 g.b,.int .i64 g.c,.int .i64 g.d,.slice AU nU cU,.slice AL nL cL]) ?_ stk_agg stk_size ?_ (fun j v hv=>by rw [Nat.zero_add];exact ((R32.out.on hSw).cell j).trans hv) rfl <;> rfl
  (try simp only [Act.put,pu1,pu2,pu3])
  refine wpPlan_call (by kernel_rfl) (fun K hK=>?_)
  have hOld:=hide hHeld
  clear hHeld
  go_simp
  go_at_call 10
  refine (Claims21_any (g:=g) HWS.out HT.out HN.out _ (HU2.out.under hOld.out (by omega)) (HL2.out.under hOld.out (by omega)) (by have:=hOld.out.size;omega) HF.out HFU.out).mono ?_
  rintro e w' ⟨A7,c7,rfl,h7,hbel⟩
  have H7:=hide h7
  clear h7
  refine hK.out _ _ (hOld.out.trans (hbel.mono hOld.out.size)) (fun hHeld=>?_)
  clear hK K
  (try simp only [Act.put,pu1,pu2,pu3])
  refine wpPlan_call (by kernel_rfl) (fun K hK=>?_)
  have hOld:=hide hHeld
  clear hHeld
  go_simp
  go_at_call 11
  refine (RefClaims_any (g:=g) HWS.out HT.out HN.out _ (HU2.out.under hOld.out (by omega)) (HL2.out.under hOld.out (by omega)) (by have:=hOld.out.size;omega) HF.out HFU.out).mono ?_
  rintro e w' ⟨A8,c8,rfl,h8,hbel⟩
  have H8:=hide h8
  have H7':=hide (H7.out.under hbel (Nat.le_refl _))
  clear h8 H7
  refine hK.out _ _ (hOld.out.trans (hbel.mono hOld.out.size)) (fun hHeld=>?_)
  clear hK K
  (try simp only [Act.put,pu1,pu2,pu3])
  refine wpPlan_call (by kernel_rfl) (fun K hK=>?_)
  have hOld:=hide hHeld
  clear hHeld
  go_simp
  go_at_call 9
  refine (EqPlc_same _ H7'.out H8.out (by omega)).mono ?_
  rintro e w' ⟨rfl,hbel⟩
  clear H7' H8
  refine hK.out _ _ (hOld.out.trans (hbel.mono hOld.out.size)) (fun hHeld=>?_)
  clear hK K
  (try simp only [Act.put,pu1,pu2,pu3])
  iterate 6
   refine wpPlan_take (v:=?_) (by kernel_rfl) (fun wS hSw=>?_) ?_
   rotate_left
   ·(try dsimp only at hSw);go_simp;(try with_reducible rfl)
   (try simp only [Act.put,pu1,pu2,pu3])
  refine wpPlan_call (by kernel_rfl) (fun K hK=>?_)
  have hOld:=hide hHeld
  clear hHeld
  go_simp
  go_at_call 12
  refine (RLoops_b HLO.out _ (HO2.out.below (hOld.out.mono (by omega))) (by have:=hOld.out.size;omega) (by omega) hnc (by omega)).mono ?_
  rintro e w' ⟨rfl,hbel⟩
  refine hK.out _ _ (hOld.out.trans (hbel.mono hOld.out.size)) (fun hHeld=>?_)
  clear hK K
  (try simp only [Act.put,pu1,pu2,pu3])
  refine wpPlan_call (by kernel_rfl) (fun K hK=>?_)
  have hOld:=hide hHeld
  clear hHeld
  go_simp
  go_at_call 13
  refine (RefLoops_b HLO.out _ (HO2.out.below (hOld.out.mono (by omega))) (by have:=hOld.out.size;omega) (by omega) hnc (by omega)).mono ?_
  rintro e w' ⟨rfl,hbel⟩
  refine hK.out _ _ (hOld.out.trans (hbel.mono hOld.out.size)) (fun hHeld=>?_)
  clear hK K
  (try simp only [Act.put,pu1,pu2,pu3])
  refine wpPlan_take (v:=?_) (by kernel_rfl) (fun wS hSw=>?_) ?_
  rotate_left
  ·(try dsimp only at hSw);go_simp;(try simp only [beq_self_eq_true]);(try with_reducible rfl)
  (try simp only [Act.put,pu1,pu2,pu3])
  iterate 2
   refine wpPlan_take (v:=?_) (by kernel_rfl) (fun wS hSw=>?_) ?_
   rotate_left
   ·(try dsimp only at hSw);go_simp;(try with_reducible rfl)
   (try simp only [Act.put,pu1,pu2,pu3])
  refine wpPlan_call (by kernel_rfl) (fun K hK=>?_)
  have hOld:=hide hHeld
  clear hHeld
  go_simp
  go_at_call 5
  refine (awake21_any _).mono ?_
  rintro e w' ⟨rfl,hbel⟩
  refine hK.out _ _ (hOld.out.trans (hbel.mono hOld.out.size)) (fun hHeld=>?_)
  clear hK K
  (try simp only [Act.put,pu1,pu2,pu3])
  iterate 2
   refine wpPlan_take (v:=?_) (by kernel_rfl) (fun wS hSw=>?_) ?_
   rotate_left
   ·(try dsimp only at hSw);go_simp;(try with_reducible rfl)
   (try simp only [Act.put,pu1,pu2,pu3])
  refine wpPlan_end ?_
  have HBX:=hide (HB2.out.trans (hHeld.mono (by have:=HB2.out.size;omega)))
  clear hHeld
  go_wp2_with fail
  go_ret
  exact LawOk.of HBX.out
end Go.Proofs.YtnhegahpfacdgaaGreat

namespace Go.Proofs.YtnhegahpfacdgaaGreat
open Go.RowKit Go.Shelf Plain Go.WideShapes Go.ChangeShapes

section
variable {H : Type} {enc : TypeId × Value → H} {w : World} {spare : Nat → Bool} {held : Bool}
theorem six_ {l:List Value} (h:l.length=6):∃a b c d e f,l=[a,b,c,d,e,f]:=by
 match l,h with
 | [a,b,c,d,e,f],_=>exact ⟨a,b,c,d,e,f,rfl⟩
set_option maxRecDepth 100000 in
theorem trod_lay {fuel:Nat} {cs:List Value} {y:DataW H×List MemPlace} (hl:cs.length=1) (h:DataW.trod enc Tryz.prog w 0 spare held fuel 26 cs=some y):∃x:List NodV,layEn.R w (Under w.heap.size) cs x∧∀d∈x,d.ents.length≤maxLen:=by
 obtain ⟨c0,rfl⟩:=one_cell hl
 obtain ⟨xs,n,-,-,-,hlen,hp⟩:=DataW.trod_struct Tryz.underlying26 h
 match xs,hlen,hp with
 | [x0],_,hp =>
  obtain ⟨A,n,c,ns,e1,hn,-,r,hfine⟩:=open_rdeF (e:=65) (cs:=[c0]) nodEn (fun x=>x.ents.length≤maxLen) Tryz.underlying24 (by kernel_rfl) (by decide) (fun _ cs _ hl hy=>trod_node hl hy) (hp 0 _ rfl)
  cases e1
  exact ⟨ns,⟨A,n,c,rfl,hn,r⟩,hfine⟩
set_option maxRecDepth 100000 in
theorem open_stack {r:Reach} {b0:Nat} {v:Value} {d:DataW H} {p:List MemPlace} (hv:Value.okWide Tryz.prog w r b0 29 v) (h:DataW.Trod enc Tryz.prog w 0 spare held 29 v d p) :
  ∃(g:GeoQ) (AU AL:Option Addr) (nU cU nL cL:Nat) (up:List NodV) (ls:List (List NodV)),v=.agg (stkC g (.slice AU nU cU) (.slice AL nL cL)).toArray∧nU≤cU∧nL≤cL∧RdE nodEn w (Under w.heap.size) AU nU up∧RdE layEn w (Under w.heap.size) AL nL ls∧(∀x∈up,x.ents.length≤maxLen)∧∀ns∈ls,∀x∈ns,x.ents.length≤maxLen:=by
 obtain ⟨cs,rfl,hsz⟩:=okWide_struct Tryz.underlying29 hv
 have hC:Tryz.prog.cellsOf 29=6:=by kernel_rfl
 obtain ⟨l⟩:=cs
 obtain ⟨c0,c1,c2,c3,c4,c5,rfl⟩:=six_ (l:=l) (hsz.trans hC)
 obtain ⟨fuel,hf⟩:=h
 obtain ⟨xs,n,-,-,-,hlen,hp⟩:=DataW.trod_struct Tryz.underlying29 hf
 match xs,hlen,hp with
 | [x0,x1,x2],_,hp =>
  have p0:=hp 0 _ rfl
  have p1:=hp 1 _ rfl
  obtain ⟨ys,m,-,-,-,hyl,hq⟩:=DataW.trod_struct Tryz.underlying23 (cs:=[c0,c1,c2,c3]) p0
  match ys,hyl,hq with
  | [y0,y1,y2,y3],_,hq =>
   obtain ⟨a0,rfl⟩:=cell_i64 (c:=c0) (hq 0 _ rfl)
   obtain ⟨a1,rfl⟩:=cell_i64 (c:=c1) (hq 1 _ rfl)
   obtain ⟨a2,rfl⟩:=cell_i64 (c:=c2) (hq 2 _ rfl)
   obtain ⟨a3,rfl⟩:=cell_i64 (c:=c3) (hq 3 _ rfl)
   obtain ⟨up,⟨AU,nU,cU,eU,hU,rU⟩,fU⟩:=trod_lay (cs:=[c4]) rfl p1
   obtain ⟨AL,nL,cL,ls,eL,hL,-,rL,fL⟩:=open_rdeF (e:=26) (cs:=[c5]) layEn (fun ns=>∀x∈ns,x.ents.length≤maxLen) Tryz.underlying27 (by kernel_rfl) (by decide) (fun _ cs _ hl hy=>trod_lay hl hy) (hp 2 _ rfl)
   cases eU
   cases eL
   exact ⟨⟨a0,a1,a2,a3⟩,AU,AL,nU,cU,nL,cL,up,ls,rfl,hU,hL,rU,rL,fU,fL⟩
end
end Go.Proofs.YtnhegahpfacdgaaGreat

namespace Go.Proofs.YtnhegahpfacdgaaGreat
open Go.RowKit Plain

theorem Rd.cameS {w : World} {A : Option Addr} {len cap : Nat} {zs : List ByteArray}
  (h:(A=none∧len=0∧cap=0∧zs=[])∨∃x,A=some x∧len≤cap∧cap≤maxLen∧zs.length=cap∧(∀i,i < zs.length→w.cell? (x.add i)=some (.string (zs.getD i ByteArray.empty)))∧∀s∈zs,s.size≤maxLen) :
  (∃l,Rd st w w.heap.size A len l∧∀x∈l,x.length≤maxLen)∧len≤cap:=by
 rcases h with ⟨rfl,rfl,rfl,rfl⟩|⟨x,rfl,hl,_,hz,hcell,hsz⟩
 ·exact ⟨⟨[],Rd.none_ _ _ _ _,by simp⟩,Nat.le_refl _⟩
 ·refine ⟨⟨(zs.take len).map (·.data.toList),⟨by simp;omega,fun hn=>?_⟩,fun y hy=>?_⟩,hl⟩
  ·obtain ⟨b,off,spot⟩:=x
   have hspot:spot=none:=by simpa [Addr.add] using World.cell?_spot (hcell 0 (by omega))
   subst hspot
   have hadd:∀i,(⟨b,off,none⟩:Addr).add i=⟨b,off+i,none⟩:=by
    intro i
    unfold Addr.add
    split
    ·rename_i h0;subst h0;rfl
    ·rfl
   refine ⟨b,off,rfl,?_,fun i y hy=>?_⟩
   ·have:=block_lt_of_cell (hcell 0 (by omega))
    rwa [hadd] at this
   ·simp only [List.getElem?_map,Option.map_eq_some_iff] at hy
    obtain ⟨z,hz1,rfl⟩:=hy
    rw [List.getElem?_take] at hz1
    split at hz1
    ·have hi:=(List.getElem?_eq_some_iff.1 hz1).1
     rw [←hadd,hcell i hi]
     simp [List.getD,hz1,st]
    ·cases hz1
  ·obtain ⟨z,hz1,rfl⟩:=List.mem_map.1 hy
   have:=hsz z (List.mem_of_mem_take hz1)
   rw [Array.length_toList]
   exact this
end Go.Proofs.YtnhegahpfacdgaaGreat

