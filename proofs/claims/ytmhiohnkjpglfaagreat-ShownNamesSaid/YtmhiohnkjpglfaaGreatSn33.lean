import Derived.Test.YtmhiohnkjpglfaaGreatSn31
import Derived.Test.YtmhiohnkjpglfaaGreatSn17
import Derived.Test.YtmhiohnkjpglfaaGreatSn32
import Derived.Test.YtmhiohnkjpglfaaGreatSn19
import Derived.Test.YtmhiohnkjpglfaaGreatSn23
import Derived.Test.YtmhiohnkjpglfaaGreatSn30
import Derived.Test.YtmhiohnkjpglfaaGreatSn18

namespace Go.Proofs.YtmhiohnkjpglfaaGreat
open Go.RowKit Go.Shelf Plain

def tangB (ns:List NodV):Bool:=!(twiceS ns (walkW ns [1])).isEmpty
set_option maxRecDepth 100000 in
set_option maxHeartbeats 1600000 in
theorem Tang_any {A:Option Addr} {n c:Nat} {ns:List NodV} (w:World) (h:RdE nodEn w (Under w.heap.size) A n ns) (hM:Many ns):Calls Tryz.prog 54 #[.agg #[.slice A n c]] w (BoolB w (tangB ns)):=by
 obtain ⟨W1,hW1⟩:∃W1,(w.alloc (.cells ([.slice A n c]:List Value).toArray 26))=W1:=⟨_,rfl⟩;obtain ⟨r0,hb1,hs1⟩:=rowA1 w _ _ hW1;have hW1':(w.alloc (.cells #[.slice A n c] 26))=W1:=hW1;have R1:=hide r0;have HB:=hide hb1;have hsz0:=hb1.size;have H1:=hide (h.under hb1 (Nat.le_refl _));have HM:=hide hM
 have hs1':w.heap.size < W1.heap.size:=by omega
 clear r0 hb1 hW1 h hM hs1
 go_enter Tryz.func54,Tryz.ntmps54
 go_wp2_with (first|(refine qo rfl 26 (.tmp 1) rfl 1 lay_agg lay_size (w.heap.size) 26 rfl [.slice A n c] R1.out rfl ?_)|(go_at_call 25;refine (Twice_any _ (und_up (H1.out.under (qq (qj W1) (.cells #[.int .i64 1] 3)) (by omega)) (by simp;omega)) (int_oneS W1) HM.out (by omega)).mono ?_;rintro e1 wD ⟨A7,n7,c7,rfl,-,htw,hbel0⟩;have HBD:=hide (HB.out.trans (((qq (qj W1) (.cells #[.int .i64 1] 3)).trans (hbel0.mono (by simp))).mono (by omega)));have hn7:=htw.1;clear htw hbel0))
 go_ret
 refine BoolB.eq ?_ HBD.out;unfold tangB
 cases hl:twiceS ns (walkW ns [1]) with
 | nil=>rw [hl] at hn7;have:n7=0:=hn7.symm;subst this;rfl
 | cons a r=>rw [hl,List.length_cons] at hn7;simp;omega
set_option maxRecDepth 100000 in
set_option maxHeartbeats 1600000 in
theorem TgIdx_any {A:Option Addr} {n c:Nat} {l:List (List NodV)} (w:World) (h:RdE layEn w (Under w.heap.size) A n l) (hn:n≤100000) (hsm:∀ns∈l,Many ns) :
  Calls Tryz.prog 102 #[.slice A n c,.func (.func 54) #[] #[]] w (fun e w'=>∃r:Int,e=.returned (.int .i64 r)∧Below w.heap.size w w'∧((r = -1∧∀ns∈l,tangB ns=false)∨(0≤r∧∃ns∈l,tangB ns=true))):=by
 have H:=hide h;have hln:=h.1;have HSM:=hide hsm;clear h hsm
 go_enter Tryz.func102,Tryz.ntmps102
 go_wp2
 go_loopw [8] (fun iv wr=>∃j:Nat,j≤n∧iv=.int .i64 j∧Below w.heap.size w wr∧∀i x,i < j→l[i]?=some x→tangB x=false) (fun iv _=>n - (intOf iv).toNat)
 case atStart=>exact ⟨0,by omega,rfl,qj _,fun i x hi=>by omega⟩
 case round =>
  obtain ⟨j,hj,rfl,hbr,hall⟩:=hrel;have HBR:=hide hbr;have HALL:=hide hall;have hbsz:=hbr.size;clear hbr hall
  by_cases hlt:j < n
  ·obtain ⟨ns,hx⟩:∃ns,l[j]?=some ns:=⟨_,List.getElem?_eq_getElem (by omega)⟩
   obtain ⟨b,o,rfl,hbB,A2,n2,c2,hc,hc2,hN2⟩:=RdE.get_list (F:=nodEn) (H.out.on HBR.out) hx;have HN2:=hide hN2
   have q:wr.cell? ⟨b,o+j,none⟩=some (.slice A2 n2 c2):=hc
   have HX:=hide hx;have HFI:=hide (HSM.out ns (List.mem_of_getElem? hx))
   have hjn:(j:Int) < (n:Int):=by omega
   clear hx hN2 hc
   go_wp2_with fail
   refine (Tang_any wr HN2.out HFI.out).mono ?_;obtain ⟨p,hp⟩:∃p,tangB ns=p:=⟨_,rfl⟩;rw [hp]
   rintro e w3 ⟨rfl,hb3⟩
   have HP:=hide hp;have HB3:=hide (HBR.out.trans (hb3.mono hbsz));clear hp hb3 q
   cases p with
   | true =>
    go_wp2_with fail
    go_ret
    exact ⟨(j:Int),rfl,HB3.out,.inr ⟨by omega,ns,List.mem_of_getElem? HX.out,HP.out⟩⟩
   | false =>
    go_wp2_with fail
    go_roundw
    case rel=>exact ⟨j+1,by omega,by go_num,HB3.out,fun i y hi hy=>by
     by_cases e:i=j
     ·subst e
      have:=HX.out.symm.trans hy
      cases this
      exact HP.out
     ·exact HALL.out i y (by omega) hy⟩
    case measure=>simp [intOf];omega
  ·obtain rfl:j=n:=by omega
   go_wp2_with fail
   go_ret
   exact ⟨-1,rfl,HBR.out,.inl ⟨rfl,fun x hx=>by
    obtain ⟨i,hi,rfl⟩:=List.mem_iff_getElem.1 hx
    exact HALL.out i _ (by omega) (List.getElem?_eq_getElem hi)⟩⟩
set_option maxRecDepth 100000 in
theorem TgHas_any {A:Option Addr} {n c:Nat} {l:List (List NodV)} (w:World) (h:RdE layEn w (Under w.heap.size) A n l) (hn:n≤100000) (hsm:∀ns∈l,Many ns) :
  Calls Tryz.prog 51 #[.slice A n c,.func (.func 54) #[] #[]] w (BoolB w (l.any tangB)):=by
 have H:=hide h;clear h
 go_enter Tryz.func51,Tryz.ntmps51
 go_wp2_with (go_at_call 102;refine (TgIdx_any w H.out hn hsm).mono ?_;rintro e w3 ⟨r,rfl,hb3,hp⟩;have HP:=hide hp;have HB3:=hide hb3;clear hp hb3)
 go_ret
 refine BoolB.eq ?_ HB3.out
 rcases HP.out with ⟨h1,h2⟩|⟨h1,ns,h2,h3⟩
 ·subst h1
  have:l.any tangB=false:=by rw [List.any_eq_false];exact fun x hx=>by rw [h2 x hx];simp
  rw [this]
  rfl
 ·have:l.any tangB=true:=List.any_eq_true.2 ⟨ns,h2,h3⟩
  rw [this]
  simpa using h1
end Go.Proofs.YtmhiohnkjpglfaaGreat

namespace Go.Proofs.YtmhiohnkjpglfaaGreat
open Go.RowKit Go.Shelf Plain

def allS (up:List NodV) (ls:List (List NodV)):List ShnV:=if ls.any tangB=true then [] else (tourS up ls 1800).2
theorem tang_tree {ls:List (List NodV)} (h:ls.any tangB=false):∀ns∈ls,TreeL ns:=fun ns hns=>by
 rw [List.any_eq_false] at h;have h1:=h ns hns;unfold tangB at h1;unfold TreeL
 cases hw:(walkW ns [1]).2 with
 | nil=>rfl
 | cons a r=>exact absurd (show (!(twiceS ns (walkW ns [1])).isEmpty)=true by simp [twiceS,hw]) h1
theorem good_i64 {up:List NodV} {ls:List (List NodV)} (hup:FewU up) {v:ViewV} (h:GoodV up ls v):i64 v.1:=by
 by_cases h0:v.1=0
 ·rw [h0];unfold i64;omega
 ·have h1:=in_isDir (h.2.2 h0)
  unfold isDir nodAt at h1;have h2:=hup.1;unfold i64
  split at h1
  ·omega
  ·simp [nod0] at h1
theorem tour_more {up : List NodV} {ls : List (List NodV)} (hT : ∀ ns ∈ ls, TreeL ns) (hF : FewL ls) (hup : FewU up) : ∀ k, (∀ s ∈ (tourS up ls k).1, (pathC s.2).length ≤ 13 * k) ∧ (tourS up ls k).2.length ≤ 100000 * k
 | 0=>by
  refine ⟨fun s hs=>?_,by simp [tourS]⟩;simp only [tourS,List.mem_singleton] at hs;rw [hs];simp [pathC]
 | k+1=>by
  obtain ⟨i1,i2⟩:=tour_more hT hF hup k
  cases hs:(tourS up ls k).1[k]? with
  | none =>
   have hk:(tourS up ls k).1.length≤k:=by simpa using hs
   rw [tour_end hk 1];exact ⟨fun s hs=>by have:=i1 s hs;omega,by omega⟩
  | some s =>
   have hg:=(tour_pot hT hF hup k).1 s (List.mem_of_getElem? hs)
   have hv:s.1.2.length≤1000:=by have h1:=hg.2.1;have h2:=hF.1;omega
   rw [tour_some hs];refine ⟨fun t ht=>?_,?_⟩
   ·rcases List.mem_append.1 ht with ht|ht
    ·have:=i1 t ht
     omega
    ·unfold nextS at ht
     obtain ⟨x,hx,rfl⟩:=List.mem_map.1 ht;have hx1:=(List.mem_filter.1 (List.mem_filter.1 hx).1).1;have h3:=names_right hF hup hx1;have h4:=i1 s (List.mem_of_getElem? hs)
     show (pathC (s.2++[x])).length≤13*(k+1)
     rw [path_snoc,List.length_append,List.length_cons];omega
   ·rw [List.length_append]
    have h5:(toldS up ls s).length≤100000:=by
     unfold toldS;rw [List.length_map];exact Nat.le_trans (List.length_filter_le _ _) (names_fewS hF hup hv)
    omega
def AllRet (w:World) (l:List ShnV) (e:Ending) (w':World):Prop:=∃A n c,e=.returned (.slice A n c)∧n≤c∧RdE shnEn w' (Under w'.heap.size) A n l∧Below w.heap.size w w'
set_option maxRecDepth 100000 in
set_option maxHeartbeats 8000000 in
theorem All_any {g:GeoQ} {AU AL:Option Addr} {nU cU nL cL B:Nat} {up:List NodV} {ls:List (List NodV)} (w:World) (hu:RdE nodEn w (Under B) AU nU up) (h:RdE layEn w (Under B) AL nL ls) (hB:B≤w.heap.size) (hF:FewL ls) (hup:FewU up):Calls Tryz.prog 12 #[.agg (stkC g (.slice AU nU cU) (.slice AL nL cL)).toArray] w (AllRet w (allS up ls)):=by
 obtain ⟨W1,hW1⟩:∃W1,(w.alloc (.cells (stkC g (.slice AU nU cU) (.slice AL nL cL)).toArray 29))=W1:=⟨_,rfl⟩;obtain ⟨r0,hb1,hs1⟩:=rowA1 w _ _ hW1;have hW1':(w.alloc (.cells #[.int .i64 g.a,.int .i64 g.b,.int .i64 g.c,.int .i64 g.d,.slice AU nU cU,.slice AL nL cL] 29))=W1:=hW1;have R1:=hide r0;have HB:=hide hb1;have hsz0:=hb1.size;have HU:=hide (hu.under hb1 hB);have HL:=hide (h.under hb1 hB);have HF:=hide hF;have HFU:=hide hup
 have hs1':w.heap.size+1≤W1.heap.size:=by omega
 have q1_5:W1.cell? ⟨w.heap.size,5,none⟩=some (.slice AL nL cL):=R1.out.cell 5
 have hMl:∀ns∈ls,Many ns:=fun ns hns=>(plain_many (HF.out.2 ns hns).1 (HF.out.2 ns hns).2).1;have HML:=hide hMl
 have hnL:nL≤3:=by have h1:=HF.out.1;have h2:=HL.out.1;omega
 have HU0:=hide hu;have HL0:=hide h;unfold stkC;clear r0 hb1 hW1 hu h hF hup hs1 hMl
 go_enter Tryz.func12,Tryz.ntmps12
 go_wp2_with fail
 refine wp_scope_once 0 (fun a' w'=>∃(k:Nat) (AS:Option Addr) (nS cS:Nat) (AX:Option Addr) (nX cX:Nat) (F:Nat→Prop) (gT bM cM base:Nat) (u0 u2 u5 u6 u7 u8 u9 u10 u11 u12 u13 u14 u15 u16 u17 u18 u19 u20 u21 u22 u23 u24 u25 u26 u27 u28 u29 u30 u31:Value),a'={tmps:=#[u0,.pointer (some ⟨w.heap.size,0,none⟩),u2,.pointer (some ⟨gT,0,none⟩),.int .i64 (k:Int),u5,u6,u7,u8,u9,u10,u11,u12,u13,u14,u15,u16,u17,u18,u19,u20,u21,u22,u23,u24,u25,u26,u27,u28,u29,u30,u31],defers:=[]}∧ls.any tangB=false∧w.heap.size≤base∧Below w.heap.size w w'∧base≤w'.heap.size∧TourI w' base gT bM cM AS nS cS AX nX cX F g (.slice AU nU cU) (.slice AL nL cL) up (tourS up ls k).1 (tourS up ls k).2∧k < (tourS up ls k).1.length) (fun a' _=>1800 - (intOf (a'.tmps.getD 4 undef)).toNat) rfl ?_ ?_
 case _ =>
  rintro a' wr ⟨k,AS,nS,cS,AX,nX,cX,F,gT,bM,cM,base,u0,u2,u5,u6,u7,u8,u9,u10,u11,u12,u13,u14,u15,u16,u17,u18,u19,u20,u21,u22,u23,u24,u25,u26,u27,u28,u29,u30,u31,rfl,htg,hbb,hbr,hbz,ht,hk⟩
  have hT:=tang_tree htg;have hpot:=tour_pot hT HF.out HFU.out k;have hmore:=tour_more hT HF.out HFU.out k;obtain ⟨s,hs⟩:∃s,(tourS up ls k).1[k]?=some s:=⟨_,List.getElem?_eq_getElem hk⟩;have hg:=hpot.1 s (List.mem_of_getElem? hs);have hpl:=hmore.1 s (List.mem_of_getElem? hs);have hp3:=hpot.2.2;have hm2:=hmore.2;obtain ⟨raws,ho,hss⟩:=ht.sto;have hrl:raws.length=nS:=ho.len;have hsl:=hss.1;have hxl:(tourS up ls k).2.length=nX:=ht.tol.len;obtain ⟨r,hr⟩:∃r,raws[k]?=some r:=⟨_,List.getElem?_eq_getElem (by omega)⟩;obtain ⟨e1,e2,e3,hpr⟩:=hss.2 k r s hr hs;obtain ⟨gS,hAS,-,-⟩:=ho.some_ (by omega);subst hAS;obtain ⟨b,o,hA,-,hc⟩:=ho.rd.2 (by omega);obtain ⟨cs,hR,hcs⟩:=hc k r hr
  cases hA
  obtain rfl:cs=rawC r:=hR;obtain ⟨⟨u,vl⟩,ps⟩:=s;obtain ⟨u',⟨AV,nV,cV⟩,tx⟩:=r;simp only at e1 e2 e3 hpr hpl;subst e1 e2 e3;have HCR:=hide (fun j v (hv:(rawC (u',(AV,vl.length,cV),pathC ps))[j]?=some v)=>show wr.cell? ⟨gS,k*3+j,none⟩=some v from by have h1:=hcs j v hv;rw [show rawEn.k=3 from rfl,Nat.zero_add] at h1;exact h1);have HTR:=hide ht;have HBR:=hide hbr;have HPR:=hide (show RdE prEn wr F AV vl.length vl from hpr);have HTS:=hide (tour_some hs);have hui:=hide (good_i64 HFU.out hg)
  have hnV:vl.length≤1000:=by have h1:vl.length≤ls.length:=hg.2.1;have h2:=HF.out.1;omega
  have HTG:=hide htg;have HT:=hide hT
  have q7:wr.cell? ⟨gT,7,none⟩=some (.slice (some ⟨gS,0,none⟩) nS cS):=ht.row.cell 7
  have hkS:(k:Int) < (nS:Int):=by omega
  have HUr:=hide (HU0.out.under hbr hB);have HLr:=hide (HL0.out.under hbr hB)
  have hk18:k < 1800:=by omega
  have hnS:nS≤1800:=by omega
  have hnX:nX≤180000000:=by omega
  have hplen:(pathC ps).length≤24000:=by omega
  clear htg hT hpot hmore hs hg hpl hp3 hm2 ho hss hrl hsl hxl hr hpr hc hcs ht hbr
  go_wp2_with (refine wpList_loadX rfl 98 (.tmp 16) rfl 3 stp_agg stp_size gS (k*3) rfl (rawC (u',(AV,vl.length,cV),pathC ps)) HCR.out rfl ?_)
  refine (Visit_any (ps:=ps) (u:=u') (vl:=vl) (cV:=cV) wr HTR.out HUr.out HLr.out (by omega) hbz HF.out HFU.out HPR.out hnV hui.out (by omega) (by omega) (by omega)).mono ?_
  rintro e2 w2 ⟨rfl,AS2,nS2,cS2,AX2,nX2,cX2,F2,ht2,hb2,hf2⟩
  have ht3:TourI w2 base gT bM cM AS2 nS2 cS2 AX2 nX2 cX2 F2 g (.slice AU nU cU) (.slice AL nL cL) up (tourS up ls (k+1)).1 (tourS up ls (k+1)).2:=by rw [HTS.out];exact ht2
  have hl2:(tourS up ls (k+1)).1.length=nS2:=by
   obtain ⟨raws,ho,hss⟩:=ht3.sto;rw [←hss.1,ho.len]
  have q7':w2.cell? ⟨gT,7,none⟩=some (.slice AS2 nS2 cS2):=ht3.row.cell 7
  have q8':w2.cell? ⟨gT,8,none⟩=some (.slice AX2 nX2 cX2):=ht3.row.cell 8
  have HT3:=hide ht3;have hz2:=hb2.size;have HB3:=hide (HBR.out.trans (hb2.mono hbb));clear ht2 ht3 hb2 hf2 q7
  by_cases hlt:k+1 < nS2
  ·have hlt2:((k:Int)+1) < (nS2:Int):=by omega
   go_wp2_with fail
   go_step3
   refine ⟨rfl,⟨k+1,AS2,nS2,cS2,AX2,nX2,cX2,F2,gT,bM,cM,base,_,_,_,_,_,_,_,_,_,_,_,_,_,_,_,_,_,_,_,_,_,_,_,_,_,_,_,_,_,rfl,HTG.out,hbb,HB3.out,by omega,HT3.out,by omega⟩,?_⟩;simp [intOf];omega
  ·have hlt2:¬(((k:Int)+1) < (nS2:Int)):=by omega
   go_wp2_with fail
   (try simp only [Exit.jump])
   go_ret
   have hal:allS up ls=(tourS up ls (k+1)).2:=by
    unfold allS;rw [if_neg (by rw [HTG.out];simp)];have h1:=tour_end (up:=up) (ls:=ls) (k:=k+1) (by omega) (1800 - (k+1));rw [show k+1+(1800 - (k+1))=1800 from by omega] at h1;rw [h1]
   refine ⟨AX2,nX2,cX2,rfl,HT3.out.tol.cap_,?_,HB3.out⟩;rw [hal];exact HT3.out.tol.rd
 case _ =>
  intro hpass;have HPASS:=hide hpass;obtain ⟨tb,htb⟩:∃tb,ls.any tangB=tb:=⟨_,rfl⟩;have htg:=TgHas_any (c:=cL) W1 (und_up HL.out (by omega)) (by omega) HML.out;rw [htb] at htg;have HTG:=hide htg;have HTB:=hide htb;clear hpass htg htb
  go_wp2_with fail
  refine HTG.out.mono ?_
  rintro e1 w2 ⟨rfl,qg⟩
  have HB2:=hide (HB.out.trans (qg.mono (by omega)));have R2:=hide (R1.out.on qg);have HU2:=hide (HU.out.under qg (by omega));have HL2:=hide (HL.out.under qg (by omega));have hz2:=qg.size;clear qg HTG
  cases tb with
  | true =>
   go_wp2_with fail
   (try simp only [Exit.jump])
   go_ret
   refine ⟨none,0,0,rfl,Nat.le_refl _,?_,HB2.out⟩;unfold allS;rw [if_pos HTB.out];exact RdE.none_ _ _ _ _
  | false =>
   go_wp2_with (refine qo rfl 29 (.tmp 1) rfl 6 stk_agg stk_size (w.heap.size) 29 rfl (stkC g (.slice AU nU cU) (.slice AL nL cL)) R2.out rfl ?_)
   refine (Begin_any w2 HU2.out HL2.out (by omega) HF.out HFU.out).mono ?_
   rintro e2 w3 ⟨gT,bM,cM,AS,nS,cS,F,rfl,ht,qg⟩
   have HT3:=hide ht;have HB3:=hide (HB2.out.trans (qg.mono (by omega)));have hz3:=qg.size;clear ht qg
   go_wp2_with fail
   go_step3
   rename_i hK
   refine hK _ _ (HPASS.out _ _ ⟨0,AS,nS,cS,none,0,0,F,gT,bM,cM,w2.heap.size,_,_,_,_,_,_,_,_,_,_,_,_,_,_,_,_,_,_,_,_,_,_,_,_,_,_,_,_,_,rfl,HTB.out,by omega,HB3.out,by omega,HT3.out,by simp [tourS]⟩)
end Go.Proofs.YtmhiohnkjpglfaaGreat

namespace Go.Proofs.YtmhiohnkjpglfaaGreat
open Go.RowKit Go.Shelf Plain

theorem eq_plcB {a b c d:Int} {r:Bool} (h:decide (a=c∧b=d)=r) (W:World):(binOp .eql 31 (.agg #[.int .i64 a,.int .i64 b]) (.agg #[.int .i64 c,.int .i64 d])).run Tryz.prog W=.ok (.bool r) W:=by
 subst h
 by_cases h1:a=c
 rotate_left
 ·simp [go_sem,h1]
 by_cases h2:b=d
 rotate_left
 ·simp [go_sem,h1,h2]
 simp [go_sem,h1,h2]
theorem shn_get {w:World} {D:Nat→Prop} {A:Option Addr} {n j:Nat} {l:List ShnV} {x:ShnV} (h:RdE shnEn w D A n l) (hx:l[j]?=some x):∃b o,A=some ⟨b,o,none⟩∧D b∧∀k v,(shnC x)[k]?=some v→w.cell? ⟨b,o+j*4+k,none⟩=some v:=by
 obtain ⟨b,o,e,hb,hc⟩:=h.2 (by have h1:=(List.getElem?_eq_some_iff.1 hx).1;have h2:=h.1;omega);obtain ⟨cs,hR,hcs⟩:=hc j x hx;obtain rfl:cs=shnC x:=hR;exact ⟨b,o,e,hb,fun k v hv=>by have h1:=hcs k v hv;rw [show shnEn.k=4 from rfl,←Nat.add_assoc] at h1;exact h1⟩
set_option maxRecDepth 100000 in
set_option maxHeartbeats 8000000 in
theorem Paths_any {A:Option Addr} {n c:Nat} {l:List ShnV} (w:World) (h:RdE shnEn w (Under w.heap.size) A n l) (hn:n≤1000000000):Calls Tryz.prog 17 #[.slice A n c] w (fun e w'=>∃A' c',e=.returned (.slice A' n c')∧Ow st w' w.heap.size 9 A' n c' (l.map (fun x=>x.1))∧Below w.heap.size w w'):=by
 have H:=hide h;have hln:l.length=n:=h.1;clear h
 go_enter Tryz.func17,Tryz.ntmps17
 go_wp2_with fail
 go_loopw [8,3] (fun v8 v3 wr=>∃(j:Nat) (A':Option Addr) (c':Nat),j≤n∧v8=.int .i64 j∧v3=.slice A' j c'∧Ow st wr w.heap.size 9 A' j c' ((l.take j).map (fun x=>x.1))∧Below w.heap.size w wr) (fun v8 _ _=>n - (intOf v8).toNat)
 case atStart=>exact ⟨0,none,0,by omega,rfl,rfl,Ow.nil_ _ _ _ _,qj _⟩
 case round =>
  obtain ⟨j,A',c',hj,rfl,rfl,ho,hbr⟩:=hrel;have HO:=hide ho;have HBR:=hide hbr;have hbs:=hbr.size
  by_cases hlt:j < n
  ·obtain ⟨x,hx⟩:∃x,l[j]?=some x:=⟨_,List.getElem?_eq_getElem (by omega)⟩
   obtain ⟨b,o,rfl,-,hc⟩:=shn_get (H.out.on hbr) hx;have HCX:=hide hc
   have hjn:(j:Int) < (n:Int):=by omega
   have HT:=hide (show (l.take (j+1)).map (fun x=>x.1)=(l.take j).map (fun x=>x.1)++[x.1] from by rw [List.take_add_one,hx,Option.toList_some,List.map_append];rfl);clear ho hbr hc hx
   go_wp2_with (first|(refine wpList_loadX rfl 37 (.tmp 10) rfl 4 shn_agg shn_size b (o+j*4) rfl (shnC x) HCX.out rfl ?_)|(refine ql rfl 37 (.tmp 5) (.tmp 11) rfl 4 shn_size (wr.heap.size) 37 rfl [.string ⟨#[]⟩,.int .i64 0,.int .i64 0,.int .i64 0] (shnC x) rfl (RowL.new wr 37 [.string ⟨#[]⟩,.int .i64 0,.int .i64 0,.int .i64 0]) rfl rfl (shnC_one _) ?_;intro wS121 hr121 hg121 hs121;have hzb:=below_stored' hg121;replace HBR:=hide (HBR.out.trans (hzb.mono (by omega)));replace HO:=hide (HO.out.below hzb);have hsz122:=hzb.size;have R5:=hide hr121;have hlt121:=hr121.lt;have q5_0:wS121.cell? ⟨wr.heap.size,0,none⟩=some (.string ⟨x.1.toArray⟩):=R5.out.cell 0;clear hzb hr121;clear hg121 hs121)|(at_builtin;refine wpList_append_Rd _ rfl (.tmp 12) (.tmp 15) 41 rfl w.heap.size 9 _ 16 Tryz.underlying41 info_st rfl st_one _ j _ _ rfl (HO.out.alloc _) _ _ 1 1 _ rfl (Rd.one _ _ (show Value.string ⟨x.1.toArray⟩=st x.1 from rfl)) (j+1) rfl (by omega) (by omega) (by have:=HBR.out.size;simp;omega) ?_;intro A9 c9 w9 hown9 hbel9;have HO9:=hide hown9;have HB9:=hide ((HBR.out.alloc HBR.out.size _).trans hbel9);clear hown9 hbel9))
   go_roundw
   case rel=>exact ⟨j+1,A9,c9,by omega,by go_num,rfl,by rw [HT.out];exact HO9.out,HB9.out⟩
   case measure=>simp [intOf];omega
  ·obtain rfl:j=n:=by omega
   have hjn:¬((j:Int) < (j:Int)):=by omega
   clear ho hbr
   go_wp2_with fail
   go_ret
   refine ⟨A',c',rfl,?_,HBR.out⟩;have h1:=HO.out;rw [List.take_of_length_le (by omega)] at h1;exact h1
def cntS (l:List ShnV) (p:Int×Int):Nat:=(l.filter (fun x=>decide (x.2.1≠1)&&decide (x.2.2.1=p.1∧x.2.2.2=p.2))).length
theorem cnt_succ {l:List ShnV} {p:Int×Int} {j:Nat} {x:ShnV} (h:l[j]?=some x):cntS (l.take (j+1)) p=cntS (l.take j) p+(if x.2.1=1 then 0 else if x.2.2.1=p.1∧x.2.2.2=p.2 then 1 else 0):=by
 unfold cntS;rw [List.take_add_one,h,Option.toList_some,List.filter_append,List.length_append]
 congr 1
 by_cases h1:x.2.1=1
 ·simp [h1]
 ·by_cases h2:x.2.2.1=p.1∧x.2.2.2=p.2
  ·simp [h1,h2]
  ·simp only [List.filter_cons,List.filter_nil,h1,h2,if_false]
   simp
theorem cnt_le (l:List ShnV) (p:Int×Int):cntS l p≤l.length:=List.length_filter_le _ _
theorem all_len {up:List NodV} {ls:List (List NodV)} (hF:FewL ls) (hup:FewU up):(allS up ls).length≤180000000:=by
 unfold allS
 split
 ·simp
 ·rename_i h
  exact (tour_more (tang_tree (by simpa using h)) hF hup 1800).2
set_option maxRecDepth 100000 in
set_option maxHeartbeats 8000000 in
theorem Count_any {g:GeoQ} {AU AL:Option Addr} {nU cU nL cL B:Nat} {up:List NodV} {ls:List (List NodV)} {p:Int×Int} (w:World) (hu:RdE nodEn w (Under B) AU nU up) (h:RdE layEn w (Under B) AL nL ls) (hB:B≤w.heap.size) (hF:FewL ls) (hup:FewU up):Calls Tryz.prog 14 #[.agg (stkC g (.slice AU nU cU) (.slice AL nL cL)).toArray,.agg (prC p).toArray] w (fun e w'=>e=.returned (.int .i64 (cntS (allS up ls) p))∧Below w.heap.size w w'):=by
 obtain ⟨W1,hW1⟩:∃W1,((w.alloc (.cells (stkC g (.slice AU nU cU) (.slice AL nL cL)).toArray 29)).alloc (.cells ([.int .i64 p.1,.int .i64 p.2]:List Value).toArray 31))=W1:=⟨_,rfl⟩;obtain ⟨r0,r1,hb1,hs1⟩:=rowA2 w _ _ _ _ hW1;have hW1':((w.alloc (.cells #[.int .i64 g.a,.int .i64 g.b,.int .i64 g.c,.int .i64 g.d,.slice AU nU cU,.slice AL nL cL] 29)).alloc (.cells #[.int .i64 p.1,.int .i64 p.2] 31))=W1:=hW1;have R2:=hide r0;have R3:=hide r1;have HB:=hide hb1;have hsz0:=hb1.size;have HU:=hide (hu.under hb1 hB);have HL:=hide (h.under hb1 hB);have HF:=hide hF;have HFU:=hide hup;have hal:=all_len HF.out HFU.out;obtain ⟨l,hl⟩:∃l,allS up ls=l:=⟨_,rfl⟩;have HLL:=hide hl;rw [hl] at hal;rw [hl]
 have hs1':w.heap.size+1≤W1.heap.size:=by omega
 have hs2':w.heap.size+1 < W1.heap.size:=by omega
 unfold stkC prC;clear r0 r1 hb1 hW1 hu h hF hup hs1 hl
 go_enter Tryz.func14,Tryz.ntmps14
 go_wp2_with (first|(refine qo rfl 29 (.tmp 2) rfl 6 stk_agg stk_size (w.heap.size) 29 rfl (stkC g (.slice AU nU cU) (.slice AL nL cL)) R2.out rfl ?_))
 refine (All_any W1 HU.out HL.out (by omega) HF.out HFU.out).mono ?_
 rintro e1 w2 ⟨A9,n9,c9,rfl,-,hrd,qg⟩
 rw [HLL.out] at hrd;have hln:l.length=n9:=hrd.1;have H:=hide hrd;have HB2:=hide (HB.out.trans (qg.mono (by omega)));have R32:=hide (R3.out.on qg);have hz2:=qg.size;clear hrd qg HU HL
 go_wp2_with fail
 go_loopw [11,5] (fun v11 v5 wr=>∃j:Nat,j≤n9∧v11=.int .i64 j∧v5=.int .i64 (cntS (l.take j) p)∧Below w2.heap.size w2 wr) (fun v11 _ _=>n9 - (intOf v11).toNat)
 case atStart=>exact ⟨0,by omega,rfl,rfl,qj _⟩
 case round =>
  obtain ⟨j,hj,rfl,rfl,hbr⟩:=hrel;have HBR:=hide hbr;have hbs:=hbr.size;have R3r:=hide (R32.out.on hbr)
  by_cases hlt:j < n9
  ·obtain ⟨x,hx⟩:∃x,l[j]?=some x:=⟨_,List.getElem?_eq_getElem (by omega)⟩
   obtain ⟨b,o,rfl,-,hc⟩:=shn_get (H.out.on hbr) hx;have HCX:=hide hc
   have hjn:(j:Int) < (n9:Int):=by omega
   have hct:=cnt_succ (p:=p) hx;have hcl:cntS (l.take j) p≤180000000:=Nat.le_trans (cnt_le _ _) (by rw [List.length_take];omega);clear hbr hc hx
   have q3_0:wr.cell? ⟨w.heap.size+1,0,none⟩=some (.int .i64 p.1):=R3r.out.cell 0
   have q3_1:wr.cell? ⟨w.heap.size+1,1,none⟩=some (.int .i64 p.2):=R3r.out.cell 1
   by_cases hk:x.2.1=1
   ·rw [if_pos hk,Nat.add_zero] at hct
    have HCT:=hide hct
    have hkn:(!decide (x.2.1=1))=false:=by simp [hk]
    clear hct
    go_wp2_with (first|(refine wpList_loadX rfl 37 (.tmp 13) rfl 4 shn_agg shn_size b (o+j*4) rfl (shnC x) HCX.out rfl ?_)|(refine ql rfl 37 (.tmp 7) (.tmp 14) rfl 4 shn_size (wr.heap.size) 37 rfl [.string ⟨#[]⟩,.int .i64 0,.int .i64 0,.int .i64 0] (shnC x) rfl (RowL.new wr 37 [.string ⟨#[]⟩,.int .i64 0,.int .i64 0,.int .i64 0]) rfl rfl (shnC_one _) ?_;intro wS141 hr141 hg141 hs141;have hzb:=below_stored' hg141;clear q3_0 q3_1;replace HBR:=hide (HBR.out.trans (hzb.mono (by omega)));replace R3r:=hide (R3r.out.on hzb);have hsz142:=hzb.size;have q3_0:wS141.cell? ⟨w.heap.size+1,0,none⟩=some (.int .i64 p.1):=R3r.out.cell 0;have q3_1:wS141.cell? ⟨w.heap.size+1,1,none⟩=some (.int .i64 p.2):=R3r.out.cell 1;have R7:=hide hr141;have hlt141:=hr141.lt;have q7_1:wS141.cell? ⟨wr.heap.size,1,none⟩=some (.int .i64 x.2.1):=R7.out.cell 1;have q7_2:wS141.cell? ⟨wr.heap.size,2,none⟩=some (.int .i64 x.2.2.1):=R7.out.cell 2;have q7_3:wS141.cell? ⟨wr.heap.size,3,none⟩=some (.int .i64 x.2.2.2):=R7.out.cell 3;clear hzb hr141;clear hg141 hs141))
    refine ⟨⟨j+1,by omega,by go_num,by rw [HCT.out];rfl,HBR.out⟩,?_⟩;simp [intOf];omega
   ·rw [if_neg hk] at hct
    obtain ⟨r,hr⟩:∃r,decide (x.2.2.1=p.1∧x.2.2.2=p.2)=r:=⟨_,rfl⟩;have heq:=fun W=>eq_plcB hr W
    have hkn:(!decide (x.2.1=1))=true:=by simp [hk]
    have HCT:=hide hct;have HR:=hide hr;clear hct hr
    cases r with
    | true =>
     go_wp2_with (first|(refine wpList_loadX rfl 37 (.tmp 13) rfl 4 shn_agg shn_size b (o+j*4) rfl (shnC x) HCX.out rfl ?_)|(refine ql rfl 37 (.tmp 7) (.tmp 14) rfl 4 shn_size (wr.heap.size) 37 rfl [.string ⟨#[]⟩,.int .i64 0,.int .i64 0,.int .i64 0] (shnC x) rfl (RowL.new wr 37 [.string ⟨#[]⟩,.int .i64 0,.int .i64 0,.int .i64 0]) rfl rfl (shnC_one _) ?_;intro wS141 hr141 hg141 hs141;have hzb:=below_stored' hg141;clear q3_0 q3_1;replace HBR:=hide (HBR.out.trans (hzb.mono (by omega)));replace R3r:=hide (R3r.out.on hzb);have hsz142:=hzb.size;have q3_0:wS141.cell? ⟨w.heap.size+1,0,none⟩=some (.int .i64 p.1):=R3r.out.cell 0;have q3_1:wS141.cell? ⟨w.heap.size+1,1,none⟩=some (.int .i64 p.2):=R3r.out.cell 1;have R7:=hide hr141;have hlt141:=hr141.lt;have q7_1:wS141.cell? ⟨wr.heap.size,1,none⟩=some (.int .i64 x.2.1):=R7.out.cell 1;have q7_2:wS141.cell? ⟨wr.heap.size,2,none⟩=some (.int .i64 x.2.2.1):=R7.out.cell 2;have q7_3:wS141.cell? ⟨wr.heap.size,3,none⟩=some (.int .i64 x.2.2.2):=R7.out.cell 3;clear hzb hr141;clear hg141 hs141))
     refine ⟨⟨j+1,by omega,by go_num,by rw [HCT.out,if_pos (of_decide_eq_true HR.out)];rfl,HBR.out⟩,?_⟩;simp [intOf];omega
    | false =>
     go_wp2_with (first|(refine wpList_loadX rfl 37 (.tmp 13) rfl 4 shn_agg shn_size b (o+j*4) rfl (shnC x) HCX.out rfl ?_)|(refine ql rfl 37 (.tmp 7) (.tmp 14) rfl 4 shn_size (wr.heap.size) 37 rfl [.string ⟨#[]⟩,.int .i64 0,.int .i64 0,.int .i64 0] (shnC x) rfl (RowL.new wr 37 [.string ⟨#[]⟩,.int .i64 0,.int .i64 0,.int .i64 0]) rfl rfl (shnC_one _) ?_;intro wS141 hr141 hg141 hs141;have hzb:=below_stored' hg141;clear q3_0 q3_1;replace HBR:=hide (HBR.out.trans (hzb.mono (by omega)));replace R3r:=hide (R3r.out.on hzb);have hsz142:=hzb.size;have q3_0:wS141.cell? ⟨w.heap.size+1,0,none⟩=some (.int .i64 p.1):=R3r.out.cell 0;have q3_1:wS141.cell? ⟨w.heap.size+1,1,none⟩=some (.int .i64 p.2):=R3r.out.cell 1;have R7:=hide hr141;have hlt141:=hr141.lt;have q7_1:wS141.cell? ⟨wr.heap.size,1,none⟩=some (.int .i64 x.2.1):=R7.out.cell 1;have q7_2:wS141.cell? ⟨wr.heap.size,2,none⟩=some (.int .i64 x.2.2.1):=R7.out.cell 2;have q7_3:wS141.cell? ⟨wr.heap.size,3,none⟩=some (.int .i64 x.2.2.2):=R7.out.cell 3;clear hzb hr141;clear hg141 hs141))
     refine ⟨⟨j+1,by omega,by go_num,by rw [HCT.out,if_neg (of_decide_eq_false HR.out),Nat.add_zero],HBR.out⟩,?_⟩;simp [intOf];omega
  ·obtain rfl:j=n9:=by omega
   have hjn:¬((j:Int) < (j:Int)):=by omega
   clear hbr
   go_wp2_with fail
   go_ret
   have h2:l.take j=l:=List.take_of_length_le (by omega);rw [h2];exact ⟨rfl,HB2.out.trans (HBR.out.mono (by omega))⟩
end Go.Proofs.YtmhiohnkjpglfaaGreat

namespace Go.Proofs.YtmhiohnkjpglfaaGreat
open Go.RowKit Go.Shelf Plain

theorem aw_tang:lsB.any tangB=false:=by decide +kernel
theorem aw_tour:tourS upI lsB 1=([((1,[(1,1)]),[])],[([47,97],2,(1,2))]):=by kernel_rfl
theorem aw_all:allS upI lsB=[([47,97],2,(1,2))]:=by
 unfold allS;rw [if_neg (by rw [aw_tang];simp)];have h:=tour_end (up:=upI) (ls:=lsB) (k:=1) (by rw [aw_tour];simp) 1799;rw [show 1+1799=1800 from rfl] at h;rw [h,aw_tour]
theorem aw_cnt:cntS [([47,97],2,(1,2))] (1,2)=1:=by kernel_rfl
def ShnP (w:World) (n:Nat) (l:List ShnV) (e:Ending) (w':World):Prop:=∃A c,e=.returned (.slice A n c)∧RdE shnEn w' (Under w'.heap.size) A n l∧Below w.heap.size w w'
theorem All_p {g:GeoQ} {AU AL:Option Addr} {nU cU nL cL B:Nat} {up:List NodV} {ls:List (List NodV)} {R:List ShnV} {n:Nat} (hR:allS up ls=R) (hn:R.length=n) (w:World) (hu:RdE nodEn w (Under B) AU nU up) (h:RdE layEn w (Under B) AL nL ls) (hB:B≤w.heap.size) (hF:FewL ls) (hup:FewU up):Calls Tryz.prog 12 #[.agg (stkC g (.slice AU nU cU) (.slice AL nL cL)).toArray] w (ShnP w n R):=by
 refine (All_any w hu h hB hF hup).mono ?_
 rintro e w' ⟨A,m,c,rfl,-,h2,h3⟩
 rw [hR] at h2
 obtain rfl:n=m:=by rw [←hn];exact h2.1
 exact ⟨A,c,rfl,h2,h3⟩
theorem Count_e {g:GeoQ} {AU AL:Option Addr} {nU cU nL cL B:Nat} {up:List NodV} {ls:List (List NodV)} {p:Int×Int} {m:Nat} (hm:cntS (allS up ls) p=m) (w:World) (hu:RdE nodEn w (Under B) AU nU up) (h:RdE layEn w (Under B) AL nL ls) (hB:B≤w.heap.size) (hF:FewL ls) (hup:FewU up):Calls Tryz.prog 14 #[.agg (stkC g (.slice AU nU cU) (.slice AL nL cL)).toArray,.agg #[.int .i64 p.1,.int .i64 p.2]] w (fun e w'=>e=.returned (.int .i64 m)∧Below w.heap.size w w'):=by
 rw [←hm];exact Count_any w hu h hB hF hup
set_option maxRecDepth 100000 in
set_option maxHeartbeats 4000000 in
theorem awake19_any (w:World):Calls Tryz.prog 10 #[] w (LawOk w):=by
 have HB:=hide (qj w);have hlit:=fun W=>lit_shn [47,97] 2 1 2 W
 go_enter Tryz.func10,Tryz.ntmps10
 go_wp2_with (first|(go_at_call 53;refine (Idle_any w).mono ?_;rintro e1 wI ⟨AU,nU,cU,AL,nL,cL,rfl,hu,hl,qg⟩;replace HB:=hide (HB.out.trans (qg.mono HB.out.size));have hsz2:=qg.size;have HU:=hide hu;clear hu;have HL:=hide hl;clear hl;clear qg)|(refine ql rfl 29 (.tmp 1) (.tmp 3) rfl 6 stk_size (wI.heap.size) 29 rfl (stkC ⟨0,0,0,0⟩ (.slice none 0 0) (.slice none 0 0)) (stkC gB (.slice AU nU cU) (.slice AL nL cL)) rfl (RowL.new wI 29 (stkC ⟨0,0,0,0⟩ (.slice none 0 0) (.slice none 0 0))) rfl rfl (stkC_one _ _ _ _ _ _ _) ?_;intro wS3 hr3 hg3 hs3;have hzb:=below_stored' hg3;replace HB:=hide (HB.out.trans (hzb.mono HB.out.size));replace HU:=hide (HU.out.under hzb (by omega));replace HL:=hide (HL.out.under hzb (by omega));have hsz4:=hzb.size;have RS:=hide hr3;have hlt3:=hr3.lt;have q1_0:wS3.cell? ⟨wI.heap.size,0,none⟩=some (.int .i64 1):=RS.out.cell 0;have q1_1:wS3.cell? ⟨wI.heap.size,1,none⟩=some (.int .i64 5):=RS.out.cell 1;have q1_2:wS3.cell? ⟨wI.heap.size,2,none⟩=some (.int .i64 6):=RS.out.cell 2;have q1_3:wS3.cell? ⟨wI.heap.size,3,none⟩=some (.int .i64 5):=RS.out.cell 3;have q1_4:wS3.cell? ⟨wI.heap.size,4,none⟩=some (.slice AU nU cU):=RS.out.cell 4;have q1_5:wS3.cell? ⟨wI.heap.size,5,none⟩=some (.slice AL nL cL):=RS.out.cell 5;clear hzb hr3;clear hg3 hs3)|(refine qo rfl 29 (.tmp 1) rfl 6 stk_agg stk_size (wI.heap.size) 29 rfl (stkC gB (.slice AU nU cU) (.slice AL nL cL)) RS.out rfl ?_)|(go_at_call 12;refine (All_p (g:=gB) (n:=1) aw_all rfl wS3 HU.out HL.out (by omega) ba_few aw_few).mono ?_;rintro e5 wR ⟨A5,c5,rfl,h5,qg⟩;clear q1_0 q1_1 q1_2 q1_3 q1_4 q1_5;replace HB:=hide (HB.out.trans (qg.mono HB.out.size));replace HU:=hide (HU.out.under qg (by omega));replace HL:=hide (HL.out.under qg (by omega));replace RS:=hide (RS.out.on qg);have hsz6:=qg.size;have q1_0:wR.cell? ⟨wI.heap.size,0,none⟩=some (.int .i64 1):=RS.out.cell 0;have q1_1:wR.cell? ⟨wI.heap.size,1,none⟩=some (.int .i64 5):=RS.out.cell 1;have q1_2:wR.cell? ⟨wI.heap.size,2,none⟩=some (.int .i64 6):=RS.out.cell 2;have q1_3:wR.cell? ⟨wI.heap.size,3,none⟩=some (.int .i64 5):=RS.out.cell 3;have q1_4:wR.cell? ⟨wI.heap.size,4,none⟩=some (.slice AU nU cU):=RS.out.cell 4;have q1_5:wR.cell? ⟨wI.heap.size,5,none⟩=some (.slice AL nL cL):=RS.out.cell 5;have H5:=hide h5;clear h5;clear qg)|(go_at_call 11;refine (EqShn_same (L:=[([47,97],2,(1,2))]) _ (H5.out.under (qq (qj wR) _) (by omega)) (enc_lit1 (E:=shnEn) (x:=([47,97],2,(1,2))) (cs:=shnC ([47,97],2,(1,2))) (fun _ _=>rfl) wR 37 (lo:=0) (Nat.zero_le _)) (by omega)).mono ?_;rintro e99 wE ⟨rfl,hbel0⟩;have qg:Below wR.heap.size wR wE:=(qq (qj wR) (.cells #[.string ⟨#[47,97]⟩,.int .i64 2,.int .i64 1,.int .i64 2] 37)).trans (hbel0.mono (by simp));clear q1_0 q1_1 q1_2 q1_3 q1_4 q1_5;replace HB:=hide (HB.out.trans (qg.mono HB.out.size));replace HU:=hide (HU.out.under qg (by omega));replace HL:=hide (HL.out.under qg (by omega));replace RS:=hide (RS.out.on qg);replace H5:=hide (H5.out.under qg (by omega));have hsz7:=qg.size;have q1_0:wE.cell? ⟨wI.heap.size,0,none⟩=some (.int .i64 1):=RS.out.cell 0;have q1_1:wE.cell? ⟨wI.heap.size,1,none⟩=some (.int .i64 5):=RS.out.cell 1;have q1_2:wE.cell? ⟨wI.heap.size,2,none⟩=some (.int .i64 6):=RS.out.cell 2;have q1_3:wE.cell? ⟨wI.heap.size,3,none⟩=some (.int .i64 5):=RS.out.cell 3;have q1_4:wE.cell? ⟨wI.heap.size,4,none⟩=some (.slice AU nU cU):=RS.out.cell 4;have q1_5:wE.cell? ⟨wI.heap.size,5,none⟩=some (.slice AL nL cL):=RS.out.cell 5;clear qg hbel0)|(go_at_call 14;refine (Count_e (g:=gB) (p:=(1,2)) (m:=1) (by rw [aw_all];exact aw_cnt) wE HU.out HL.out (by omega) ba_few aw_few).mono ?_;rintro e8 wC ⟨rfl,qg⟩;clear q1_0 q1_1 q1_2 q1_3 q1_4 q1_5;replace HB:=hide (HB.out.trans (qg.mono HB.out.size));replace HU:=hide (HU.out.under qg (by omega));replace HL:=hide (HL.out.under qg (by omega));replace RS:=hide (RS.out.on qg);replace H5:=hide (H5.out.under qg (by omega));have hsz9:=qg.size;have q1_0:wC.cell? ⟨wI.heap.size,0,none⟩=some (.int .i64 1):=RS.out.cell 0;have q1_1:wC.cell? ⟨wI.heap.size,1,none⟩=some (.int .i64 5):=RS.out.cell 1;have q1_2:wC.cell? ⟨wI.heap.size,2,none⟩=some (.int .i64 6):=RS.out.cell 2;have q1_3:wC.cell? ⟨wI.heap.size,3,none⟩=some (.int .i64 5):=RS.out.cell 3;have q1_4:wC.cell? ⟨wI.heap.size,4,none⟩=some (.slice AU nU cU):=RS.out.cell 4;have q1_5:wC.cell? ⟨wI.heap.size,5,none⟩=some (.slice AL nL cL):=RS.out.cell 5;clear qg)|(go_at_call 17;refine (Paths_any wC (und_up H5.out (by omega)) (by omega)).mono ?_;rintro e10 wN ⟨A7,c7,rfl,h7,qg⟩;clear q1_0 q1_1 q1_2 q1_3 q1_4 q1_5;replace HB:=hide (HB.out.trans (qg.mono HB.out.size));replace HU:=hide (HU.out.under qg (by omega));replace HL:=hide (HL.out.under qg (by omega));replace RS:=hide (RS.out.on qg);replace H5:=hide (H5.out.under qg (by omega));have hsz11:=qg.size;have q1_0:wN.cell? ⟨wI.heap.size,0,none⟩=some (.int .i64 1):=RS.out.cell 0;have q1_1:wN.cell? ⟨wI.heap.size,1,none⟩=some (.int .i64 5):=RS.out.cell 1;have q1_2:wN.cell? ⟨wI.heap.size,2,none⟩=some (.int .i64 6):=RS.out.cell 2;have q1_3:wN.cell? ⟨wI.heap.size,3,none⟩=some (.int .i64 5):=RS.out.cell 3;have q1_4:wN.cell? ⟨wI.heap.size,4,none⟩=some (.slice AU nU cU):=RS.out.cell 4;have q1_5:wN.cell? ⟨wI.heap.size,5,none⟩=some (.slice AL nL cL):=RS.out.cell 5;have HN:=hide h7;clear h7;clear qg)|(go_at_call 16;refine (EqS_b (show (([[47,97]]:List (List UInt8))==[[47,97]])=true from by decide) _ (HN.out.rd.on (qq (qj wN) _)) (Rd.one wN 9 (f:=st) (u:=.string ⟨#[47,97]⟩) (x:=[47,97]) rfl) (by omega)).mono ?_;rintro e98 wE2 ⟨rfl,qg⟩;replace HB:=hide (HB.out.trans (((qq (qj wN) _).trans (qg.mono (by simp))).mono HB.out.size));clear qg))
 go_ret
 exact LawOk.of HB.out
end Go.Proofs.YtmhiohnkjpglfaaGreat

namespace Go.Proofs.YtmhiohnkjpglfaaGreat
open Go.RowKit Plain

def toldN (up:List NodV) (ls:List (List NodV)) (s:StopV):List (List (List UInt8)):=(keptS up ls s.1).map (fun x=>s.2++[x])
def tourN (up : List NodV) (ls : List (List NodV)) : Nat → List (List (List UInt8))
 | 0=>[]
 | k+1=>match (tourS up ls k).1[k]? with
  | none=>tourN up ls k
  | some s=>tourN up ls k++toldN up ls s
theorem tourN_some {up:List NodV} {ls:List (List NodV)} {k:Nat} {s:StopV} (h:(tourS up ls k).1[k]?=some s):tourN up ls (k+1)=tourN up ls k++toldN up ls s:=by
 show (match (tourS up ls k).1[k]? with|none=>tourN up ls k|some s=>tourN up ls k++toldN up ls s)=_
 rw [h]
theorem tourN_none {up:List NodV} {ls:List (List NodV)} {k:Nat} (h:(tourS up ls k).1[k]?=none):tourN up ls (k+1)=tourN up ls k∧tourS up ls (k+1)=tourS up ls k:=by
 constructor
 ·show (match (tourS up ls k).1[k]? with|none=>tourN up ls k|some s=>tourN up ls k++toldN up ls s)=_
  rw [h]
 ·show (match (tourS up ls k).1[k]? with|none=>tourS up ls k|some s=>((tourS up ls k).1++nextS up ls s,(tourS up ls k).2++toldS up ls s))=_
  rw [h]
theorem told_names (up : List NodV) (ls : List (List NodV)) : ∀ k, (tourS up ls k).2.map (fun x => x.1) = (tourN up ls k).map pathC
 | 0=>rfl
 | k+1=>by
  have ih:=told_names up ls k
  cases hs:(tourS up ls k).1[k]? with
  | none=>rw [(tourN_none hs).1,(tourN_none hs).2,ih]
  | some s =>
   rw [tour_some hs,tourN_some hs,List.map_append,List.map_append,ih]
   congr 1
   unfold toldS toldN;rw [List.map_map,List.map_map]
   rfl
theorem snoc_inj {α:Type} {a b:List α} {x y:α} (h:a++[x]=b++[y]):a=b∧x=y:=by
 have h1:=List.append_inj' h rfl;exact ⟨h1.1,by simpa using h1.2⟩
theorem nodup_map_snoc {α:Type} (p:List α) {l:List α} (h:l.Nodup):(l.map (fun x=>p++[x])).Nodup:=by
 unfold List.Nodup at *
 rw [List.pairwise_map];exact h.imp (fun hab e=>hab (snoc_inj e).2)
structure OnceT (up : List NodV) (ls : List (List NodV)) (k : Nat) : Prop where
 told:(tourN up ls k).Nodup
 stops:((tourS up ls k).1.map (fun s=>s.2)).Nodup
 from_:∀n∈tourN up ls k,∃j s x,j < k∧(tourS up ls k).1[j]?=some s∧n=s.2++[x]
 root:∀s∈(tourS up ls k).1,s.2=[]∨s.2∈tourN up ls k
theorem once_tour (up : List NodV) (ls : List (List NodV)) : ∀ k, OnceT up ls k
 | 0=>⟨by simp [tourN],by simp [tourS],by simp [tourN],fun s hs=>by simp only [tourS,List.mem_singleton] at hs;rw [hs];exact .inl rfl⟩
 | k+1=>by
  have ih:=once_tour up ls k
  cases hs:(tourS up ls k).1[k]? with
  | none =>
   obtain ⟨e1,e2⟩:=tourN_none hs;refine ⟨by rw [e1];exact ih.told,by rw [e2];exact ih.stops,fun n hn=>?_,fun s h=>?_⟩
   ·rw [e1] at hn
    obtain ⟨j,s,x,h1,h2,h3⟩:=ih.from_ n hn;exact ⟨j,s,x,by omega,by rw [e2];exact h2,h3⟩
   ·rw [e2] at h
    rw [e1];exact ih.root s h
  | some s =>
   have e1:=tourN_some hs
   have e2:=tour_some hs
   have hk:=keep_nodup up ls s.1
   -- none of the names of old paths begins as those of this stop, one more
   have hold:∀n∈tourN up ls k,∀x,n≠s.2++[x]:=fun n hn x e=>by
    obtain ⟨j,t,y,h1,h2,h3⟩:=ih.from_ n hn;have h4:=(snoc_inj (h3.symm.trans e)).1
    have h5:((tourS up ls k).1.map (fun s=>s.2))[j]?=some t.2:=by rw [List.getElem?_map,h2];rfl
    have h6:((tourS up ls k).1.map (fun s=>s.2))[k]?=some s.2:=by rw [List.getElem?_map,hs];rfl
    have h7:=(List.getElem?_eq_some_iff.1 h5);have h8:=(List.getElem?_eq_some_iff.1 h6);obtain ⟨a1,a2⟩:=h7;obtain ⟨b1,b2⟩:=h8;have h9:=(List.pairwise_iff_getElem.1 ih.stops) j k a1 b1 h1;rw [a2,b2] at h9;exact h9 h4
   have hnewN:(toldN up ls s).Nodup:=nodup_map_snoc s.2 hk
   have hnewS:((nextS up ls s).map (fun s=>s.2)).Nodup:=by
    unfold nextS;rw [List.map_map];exact nodup_map_snoc s.2 (hk.filter _)
   refine ⟨?_,?_,fun n hn=>?_,fun t ht=>?_⟩
   ·rw [e1,List.nodup_append]
    refine ⟨ih.told,hnewN,fun a ha b hb e=>?_⟩;obtain ⟨x,-,rfl⟩:=List.mem_map.1 hb;exact hold a ha x e
   ·rw [e2]
    show (((tourS up ls k).1++nextS up ls s).map (fun s=>s.2)).Nodup
    rw [List.map_append,List.nodup_append];refine ⟨ih.stops,hnewS,fun a ha b hb e=>?_⟩;obtain ⟨t,ht,rfl⟩:=List.mem_map.1 ha;obtain ⟨t2,ht2,rfl⟩:=List.mem_map.1 hb;unfold nextS at ht2;obtain ⟨x,-,rfl⟩:=List.mem_map.1 ht2
    rcases ih.root t ht with h|h
    ·have h3:t.2=s.2++[x]:=e
     rw [h] at h3;simp at h3
    ·exact hold _ h x e
   ·rw [e1] at hn
    rw [e2]
    rcases List.mem_append.1 hn with h|h
    ·obtain ⟨j,t,x,h1,h2,h3⟩:=ih.from_ n h
     exact ⟨j,t,x,by omega,by show ((tourS up ls k).1++nextS up ls s)[j]?=_;rw [List.getElem?_append_left (List.getElem?_eq_some_iff.1 h2).1];exact h2,h3⟩
    ·obtain ⟨x,-,rfl⟩:=List.mem_map.1 h
     exact ⟨k,s,x,by omega,by show ((tourS up ls k).1++nextS up ls s)[k]?=_;rw [List.getElem?_append_left (List.getElem?_eq_some_iff.1 hs).1];exact hs,rfl⟩
   ·rw [e2] at ht
    rw [e1]
    rcases List.mem_append.1 ht with h|h
    ·exact (ih.root t h).imp id (fun h=>List.mem_append_left _ h)
    ·unfold nextS at h
     obtain ⟨x,hx,rfl⟩:=List.mem_map.1 h;exact .inr (List.mem_append_right _ (List.mem_map.2 ⟨x,(List.mem_filter.1 hx).1,rfl⟩))
end Go.Proofs.YtmhiohnkjpglfaaGreat

