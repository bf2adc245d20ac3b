import Derived.Test.YtmhiohnkjpglfaaGreatWs31
import Derived.Test.YtmhiohnkjpglfaaGreatWs17
import Derived.Test.YtmhiohnkjpglfaaGreatWs32
import Derived.Test.YtmhiohnkjpglfaaGreatWs20
import Derived.Test.YtmhiohnkjpglfaaGreatWs29
import Derived.Test.YtmhiohnkjpglfaaGreatWs30

namespace Go.Proofs.YtmhiohnkjpglfaaGreat
open Go.RowKit Go.Shelf Plain

def tangB (ns:List NodV):Bool:=!(twiceS ns (walkW ns [1])).isEmpty
set_option maxRecDepth 100000 in
set_option maxHeartbeats 1600000 in
theorem Tang_any {A:Option Addr} {n c:Nat} {ns:List NodV} (w:World) (h:RdE nodEn w (Under w.heap.size) A n ns) (hM:Many ns):Calls Tryz.prog 54 #[.agg #[.slice A n c]] w (BoolB w (tangB ns)):=by
 obtain ⟨W1,hW1⟩:∃W1,(w.alloc (.cells ([.slice A n c]:List Value).toArray 26))=W1:=⟨_,rfl⟩
 obtain ⟨r0,hb1,hs1⟩:=rowA1 w _ _ hW1
 have hW1':(w.alloc (.cells #[.slice A n c] 26))=W1:=hW1
 have R1:=hide r0
 have HB:=hide hb1
 have hsz0:=hb1.size
 have H1:=hide (h.under hb1 (Nat.le_refl _))
 have HM:=hide hM
 have hs1':w.heap.size < W1.heap.size:=by omega
 clear r0 hb1 hW1 h hM hs1
 go_enter Tryz.func54,Tryz.ntmps54
 go_wp2_with (first|(refine wpList_loadW rfl 26 (.tmp 1) rfl 1 lay_agg lay_size (w.heap.size) 26 rfl [.slice A n c] R1.out rfl ?_)|(go_at_call 25;refine (Twice_any _ (und_up (H1.out.under (below_new (below_self W1) (.cells #[.int .i64 1] 3)) (by omega)) (by simp;omega)) (int_oneS W1) HM.out (by omega)).mono ?_;rintro e1 wD ⟨A7,n7,c7,rfl,-,htw,hbel0⟩;have HBD:=hide (HB.out.trans (((below_new (below_self W1) (.cells #[.int .i64 1] 3)).trans (hbel0.mono (by simp))).mono (by omega)));have hn7:=htw.1;clear htw hbel0))
 go_ret
 refine BoolB.eq ?_ HBD.out
 unfold tangB
 cases hl:twiceS ns (walkW ns [1]) with
 | nil=>rw [hl] at hn7;have:n7=0:=hn7.symm;subst this;rfl
 | cons a r=>rw [hl,List.length_cons] at hn7;simp;omega
set_option maxRecDepth 100000 in
set_option maxHeartbeats 1600000 in
theorem TgIdx_any {A:Option Addr} {n c:Nat} {l:List (List NodV)} (w:World) (h:RdE layEn w (Under w.heap.size) A n l) (hn:n≤100000) (hsm:∀ns∈l,Many ns) :
  Calls Tryz.prog 102 #[.slice A n c,.func (.func 54) #[] #[]] w (fun e w'=>∃r:Int,e=.returned (.int .i64 r)∧Below w.heap.size w w'∧((r = -1∧∀ns∈l,tangB ns=false)∨(0≤r∧∃ns∈l,tangB ns=true))):=by
 have H:=hide h
 have hln:=h.1
 have HSM:=hide hsm
 clear h hsm
 go_enter Tryz.func102,Tryz.ntmps102
 go_wp2
 go_loopw [8] (fun iv wr=>∃j:Nat,j≤n∧iv=.int .i64 j∧Below w.heap.size w wr∧∀i x,i < j→l[i]?=some x→tangB x=false) (fun iv _=>n - (intOf iv).toNat)
 case atStart=>exact ⟨0,by omega,rfl,below_self _,fun i x hi=>by omega⟩
 case round =>
  obtain ⟨j,hj,rfl,hbr,hall⟩:=hrel
  have HBR:=hide hbr
  have HALL:=hide hall
  have hbsz:=hbr.size
  clear hbr hall
  by_cases hlt:j < n
  ·obtain ⟨ns,hx⟩:∃ns,l[j]?=some ns:=⟨_,List.getElem?_eq_getElem (by omega)⟩
   obtain ⟨b,o,rfl,hbB,A2,n2,c2,hc,hc2,hN2⟩:=RdE.get_list (F:=nodEn) (H.out.on HBR.out) hx
   have HN2:=hide hN2
   have q:wr.cell? ⟨b,o+j,none⟩=some (.slice A2 n2 c2):=hc
   have HX:=hide hx
   have HFI:=hide (HSM.out ns (List.mem_of_getElem? hx))
   have hjn:(j:Int) < (n:Int):=by omega
   clear hx hN2 hc
   go_wp2_with fail
   refine (Tang_any wr HN2.out HFI.out).mono ?_
   obtain ⟨p,hp⟩:∃p,tangB ns=p:=⟨_,rfl⟩
   rw [hp]
   rintro e w3 ⟨rfl,hb3⟩
   have HP:=hide hp
   have HB3:=hide (HBR.out.trans (hb3.mono hbsz))
   clear hp hb3 q
   cases p with
   | true =>
    go_wp2_with fail
    go_ret
    exact ⟨(j:Int),rfl,HB3.out,.inr ⟨by omega,ns,List.mem_of_getElem? HX.out,HP.out⟩⟩
   | false =>
    go_wp2_with fail
    go_roundw
    case rel=>exact ⟨j+1,by omega,by go_num,HB3.out,fun i y hi hy=>by
     by_cases e:i=j
     ·subst e
      have:=HX.out.symm.trans hy
      cases this
      exact HP.out
     ·exact HALL.out i y (by omega) hy⟩
    case measure=>simp [intOf];omega
  ·obtain rfl:j=n:=by omega
   go_wp2_with fail
   go_ret
   exact ⟨-1,rfl,HBR.out,.inl ⟨rfl,fun x hx=>by
    obtain ⟨i,hi,rfl⟩:=List.mem_iff_getElem.1 hx
    exact HALL.out i _ (by omega) (List.getElem?_eq_getElem hi)⟩⟩
set_option maxRecDepth 100000 in
theorem TgHas_any {A:Option Addr} {n c:Nat} {l:List (List NodV)} (w:World) (h:RdE layEn w (Under w.heap.size) A n l) (hn:n≤100000) (hsm:∀ns∈l,Many ns) :
  Calls Tryz.prog 51 #[.slice A n c,.func (.func 54) #[] #[]] w (BoolB w (l.any tangB)):=by
 have H:=hide h
 clear h
 go_enter Tryz.func51,Tryz.ntmps51
 go_wp2_with (go_at_call 102;refine (TgIdx_any w H.out hn hsm).mono ?_;rintro e w3 ⟨r,rfl,hb3,hp⟩;have HP:=hide hp;have HB3:=hide hb3;clear hp hb3)
 go_ret
 refine BoolB.eq ?_ HB3.out
 rcases HP.out with ⟨h1,h2⟩|⟨h1,ns,h2,h3⟩
 ·subst h1
  have:l.any tangB=false:=by rw [List.any_eq_false];exact fun x hx=>by rw [h2 x hx];simp
  rw [this]
  rfl
 ·have:l.any tangB=true:=List.any_eq_true.2 ⟨ns,h2,h3⟩
  rw [this]
  simpa using h1
end Go.Proofs.YtmhiohnkjpglfaaGreat

namespace Go.Proofs.YtmhiohnkjpglfaaGreat
open Go.RowKit Go.Shelf Plain

def allS (up:List NodV) (ls:List (List NodV)):List ShnV:=if ls.any tangB=true then [] else (tourS up ls 1800).2
theorem tang_tree {ls:List (List NodV)} (h:ls.any tangB=false):∀ns∈ls,TreeL ns:=fun ns hns=>by
 rw [List.any_eq_false] at h
 have h1:=h ns hns
 unfold tangB at h1
 unfold TreeL
 cases hw:(walkW ns [1]).2 with
 | nil=>rfl
 | cons a r=>exact absurd (show (!(twiceS ns (walkW ns [1])).isEmpty)=true by simp [twiceS,hw]) h1
theorem good_i64 {up:List NodV} {ls:List (List NodV)} (hup:FewU up) {v:ViewV} (h:GoodV up ls v):i64 v.1:=by
 by_cases h0:v.1=0
 ·rw [h0];unfold i64;omega
 ·have h1:=in_isDir (h.2.2 h0)
  unfold isDir nodAt at h1
  have h2:=hup.1
  unfold i64
  split at h1
  ·omega
  ·simp [nod0] at h1
theorem tour_more {up : List NodV} {ls : List (List NodV)} (hT : ∀ ns ∈ ls, TreeL ns) (hF : FewL ls) (hup : FewU up) : ∀ k, (∀ s ∈ (tourS up ls k).1, (pathC s.2).length ≤ 13 * k) ∧ (tourS up ls k).2.length ≤ 100000 * k
 | 0=>by
  refine ⟨fun s hs=>?_,by simp [tourS]⟩
  simp only [tourS,List.mem_singleton] at hs
  rw [hs]
  simp [pathC]
 | k+1=>by
  obtain ⟨i1,i2⟩:=tour_more hT hF hup k
  cases hs:(tourS up ls k).1[k]? with
  | none =>
   have hk:(tourS up ls k).1.length≤k:=by simpa using hs
   rw [tour_end hk 1]
   exact ⟨fun s hs=>by have:=i1 s hs;omega,by omega⟩
  | some s =>
   have hg:=(tour_pot hT hF hup k).1 s (List.mem_of_getElem? hs)
   have hv:s.1.2.length≤1000:=by have h1:=hg.2.1;have h2:=hF.1;omega
   rw [tour_some hs]
   refine ⟨fun t ht=>?_,?_⟩
   ·rcases List.mem_append.1 ht with ht|ht
    ·have:=i1 t ht
     omega
    ·unfold nextS at ht
     obtain ⟨x,hx,rfl⟩:=List.mem_map.1 ht
     have hx1:=(List.mem_filter.1 (List.mem_filter.1 hx).1).1
     have h3:=names_right hF hup hx1
     have h4:=i1 s (List.mem_of_getElem? hs)
     show (pathC (s.2++[x])).length≤13*(k+1)
     rw [path_snoc,List.length_append,List.length_cons]
     omega
   ·rw [List.length_append]
    have h5:(toldS up ls s).length≤100000:=by
     unfold toldS
     rw [List.length_map]
     exact Nat.le_trans (List.length_filter_le _ _) (names_fewS hF hup hv)
    omega
def AllRet (w:World) (l:List ShnV) (e:Ending) (w':World):Prop:=∃A n c,e=.returned (.slice A n c)∧n≤c∧RdE shnEn w' (Under w'.heap.size) A n l∧Below w.heap.size w w'
set_option maxRecDepth 100000 in
set_option maxHeartbeats 8000000 in
theorem All_any {g:GeoQ} {AU AL:Option Addr} {nU cU nL cL B:Nat} {up:List NodV} {ls:List (List NodV)} (w:World) (hu:RdE nodEn w (Under B) AU nU up) (h:RdE layEn w (Under B) AL nL ls) (hB:B≤w.heap.size) (hF:FewL ls) (hup:FewU up):Calls Tryz.prog 12 #[.agg (stkC g (.slice AU nU cU) (.slice AL nL cL)).toArray] w (AllRet w (allS up ls)):=by
 obtain ⟨W1,hW1⟩:∃W1,(w.alloc (.cells (stkC g (.slice AU nU cU) (.slice AL nL cL)).toArray 29))=W1:=⟨_,rfl⟩
 obtain ⟨r0,hb1,hs1⟩:=rowA1 w _ _ hW1
 have hW1':(w.alloc (.cells #[.int .i64 g.a,.int .i64 g.b,.int .i64 g.c,.int .i64 g.d,.slice AU nU cU,.slice AL nL cL] 29))=W1:=hW1
 have R1:=hide r0
 have HB:=hide hb1
 have hsz0:=hb1.size
 have HU:=hide (hu.under hb1 hB)
 have HL:=hide (h.under hb1 hB)
 have HF:=hide hF
 have HFU:=hide hup
 have hs1':w.heap.size+1≤W1.heap.size:=by omega
 have q1_5:W1.cell? ⟨w.heap.size,5,none⟩=some (.slice AL nL cL):=R1.out.cell 5
 have hMl:∀ns∈ls,Many ns:=fun ns hns=>(plain_many (HF.out.2 ns hns).1 (HF.out.2 ns hns).2).1
 have HML:=hide hMl
 have hnL:nL≤3:=by have h1:=HF.out.1;have h2:=HL.out.1;omega
 have HU0:=hide hu
 have HL0:=hide h
 unfold stkC
 clear r0 hb1 hW1 hu h hF hup hs1 hMl
 go_enter Tryz.func12,Tryz.ntmps12
 go_wp2_with fail
 refine wp_scope_once 0 (fun a' w'=>∃(k:Nat) (AS:Option Addr) (nS cS:Nat) (AX:Option Addr) (nX cX:Nat) (F:Nat→Prop) (gT bM cM base:Nat) (u0 u2 u5 u6 u7 u8 u9 u10 u11 u12 u13 u14 u15 u16 u17 u18 u19 u20 u21 u22 u23 u24 u25 u26 u27 u28 u29 u30 u31:Value),a'={tmps:=#[u0,.pointer (some ⟨w.heap.size,0,none⟩),u2,.pointer (some ⟨gT,0,none⟩),.int .i64 (k:Int),u5,u6,u7,u8,u9,u10,u11,u12,u13,u14,u15,u16,u17,u18,u19,u20,u21,u22,u23,u24,u25,u26,u27,u28,u29,u30,u31],defers:=[]}∧ls.any tangB=false∧w.heap.size≤base∧Below w.heap.size w w'∧base≤w'.heap.size∧TourI w' base gT bM cM AS nS cS AX nX cX F g (.slice AU nU cU) (.slice AL nL cL) up (tourS up ls k).1 (tourS up ls k).2∧k < (tourS up ls k).1.length) (fun a' _=>1800 - (intOf (a'.tmps.getD 4 undef)).toNat) rfl ?_ ?_
 case _ =>
  rintro a' wr ⟨k,AS,nS,cS,AX,nX,cX,F,gT,bM,cM,base,u0,u2,u5,u6,u7,u8,u9,u10,u11,u12,u13,u14,u15,u16,u17,u18,u19,u20,u21,u22,u23,u24,u25,u26,u27,u28,u29,u30,u31,rfl,htg,hbb,hbr,hbz,ht,hk⟩
  have hT:=tang_tree htg
  have hpot:=tour_pot hT HF.out HFU.out k
  have hmore:=tour_more hT HF.out HFU.out k
  obtain ⟨s,hs⟩:∃s,(tourS up ls k).1[k]?=some s:=⟨_,List.getElem?_eq_getElem hk⟩
  have hg:=hpot.1 s (List.mem_of_getElem? hs)
  have hpl:=hmore.1 s (List.mem_of_getElem? hs)
  have hp3:=hpot.2.2
  have hm2:=hmore.2
  obtain ⟨raws,ho,hss⟩:=ht.sto
  have hrl:raws.length=nS:=ho.len
  have hsl:=hss.1
  have hxl:(tourS up ls k).2.length=nX:=ht.tol.len
  obtain ⟨r,hr⟩:∃r,raws[k]?=some r:=⟨_,List.getElem?_eq_getElem (by omega)⟩
  obtain ⟨e1,e2,e3,hpr⟩:=hss.2 k r s hr hs
  obtain ⟨gS,hAS,-,-⟩:=ho.some_ (by omega)
  subst hAS
  obtain ⟨b,o,hA,-,hc⟩:=ho.rd.2 (by omega)
  obtain ⟨cs,hR,hcs⟩:=hc k r hr
  cases hA
  obtain rfl:cs=rawC r:=hR
  obtain ⟨⟨u,vl⟩,ps⟩:=s
  obtain ⟨u',⟨AV,nV,cV⟩,tx⟩:=r
  simp only at e1 e2 e3 hpr hpl
  subst e1 e2 e3
  have HCR:=hide (fun j v (hv:(rawC (u',(AV,vl.length,cV),pathC ps))[j]?=some v)=>show wr.cell? ⟨gS,k*3+j,none⟩=some v from by have h1:=hcs j v hv;rw [show rawEn.k=3 from rfl,Nat.zero_add] at h1;exact h1)
  have HTR:=hide ht
  have HBR:=hide hbr
  have HPR:=hide (show RdE prEn wr F AV vl.length vl from hpr)
  have HTS:=hide (tour_some hs)
  have hui:=hide (good_i64 HFU.out hg)
  have hnV:vl.length≤1000:=by have h1:vl.length≤ls.length:=hg.2.1;have h2:=HF.out.1;omega
  have HTG:=hide htg
  have HT:=hide hT
  have q7:wr.cell? ⟨gT,7,none⟩=some (.slice (some ⟨gS,0,none⟩) nS cS):=ht.row.cell 7
  have hkS:(k:Int) < (nS:Int):=by omega
  have HUr:=hide (HU0.out.under hbr hB)
  have HLr:=hide (HL0.out.under hbr hB)
  have hk18:k < 1800:=by omega
  have hnS:nS≤1800:=by omega
  have hnX:nX≤180000000:=by omega
  have hplen:(pathC ps).length≤24000:=by omega
  clear htg hT hpot hmore hs hg hpl hp3 hm2 ho hss hrl hsl hxl hr hpr hc hcs ht hbr
  go_wp2_with (refine wpList_loadX rfl 98 (.tmp 16) rfl 3 stp_agg stp_size gS (k*3) rfl (rawC (u',(AV,vl.length,cV),pathC ps)) HCR.out rfl ?_)
  refine (Visit_any (ps:=ps) (u:=u') (vl:=vl) (cV:=cV) wr HTR.out HUr.out HLr.out (by omega) hbz HF.out HFU.out HPR.out hnV hui.out (by omega) (by omega) (by omega)).mono ?_
  rintro e2 w2 ⟨rfl,AS2,nS2,cS2,AX2,nX2,cX2,F2,ht2,hb2,hf2⟩
  have ht3:TourI w2 base gT bM cM AS2 nS2 cS2 AX2 nX2 cX2 F2 g (.slice AU nU cU) (.slice AL nL cL) up (tourS up ls (k+1)).1 (tourS up ls (k+1)).2:=by rw [HTS.out];exact ht2
  have hl2:(tourS up ls (k+1)).1.length=nS2:=by
   obtain ⟨raws,ho,hss⟩:=ht3.sto
   rw [←hss.1,ho.len]
  have q7':w2.cell? ⟨gT,7,none⟩=some (.slice AS2 nS2 cS2):=ht3.row.cell 7
  have q8':w2.cell? ⟨gT,8,none⟩=some (.slice AX2 nX2 cX2):=ht3.row.cell 8
  have HT3:=hide ht3
  have hz2:=hb2.size
  have HB3:=hide (HBR.out.trans (hb2.mono hbb))
  clear ht2 ht3 hb2 hf2 q7
  by_cases hlt:k+1 < nS2
  ·have hlt2:((k:Int)+1) < (nS2:Int):=by omega
   go_wp2_with fail
   go_step3
   refine ⟨rfl,⟨k+1,AS2,nS2,cS2,AX2,nX2,cX2,F2,gT,bM,cM,base,_,_,_,_,_,_,_,_,_,_,_,_,_,_,_,_,_,_,_,_,_,_,_,_,_,_,_,_,_,rfl,HTG.out,hbb,HB3.out,by omega,HT3.out,by omega⟩,?_⟩
   simp [intOf]
   omega
  ·have hlt2:¬(((k:Int)+1) < (nS2:Int)):=by omega
   go_wp2_with fail
   (try simp only [Exit.jump])
   go_ret
   have hal:allS up ls=(tourS up ls (k+1)).2:=by
    unfold allS
    rw [if_neg (by rw [HTG.out];simp)]
    have h1:=tour_end (up:=up) (ls:=ls) (k:=k+1) (by omega) (1800 - (k+1))
    rw [show k+1+(1800 - (k+1))=1800 from by omega] at h1
    rw [h1]
   refine ⟨AX2,nX2,cX2,rfl,HT3.out.tol.cap_,?_,HB3.out⟩
   rw [hal]
   exact HT3.out.tol.rd
 case _ =>
  intro hpass
  have HPASS:=hide hpass
  obtain ⟨tb,htb⟩:∃tb,ls.any tangB=tb:=⟨_,rfl⟩
  have htg:=TgHas_any (c:=cL) W1 (und_up HL.out (by omega)) (by omega) HML.out
  rw [htb] at htg
  have HTG:=hide htg
  have HTB:=hide htb
  clear hpass htg htb
  go_wp2_with fail
  refine HTG.out.mono ?_
  rintro e1 w2 ⟨rfl,hbel⟩
  have HB2:=hide (HB.out.trans (hbel.mono (by omega)))
  have R2:=hide (R1.out.on hbel)
  have HU2:=hide (HU.out.under hbel (by omega))
  have HL2:=hide (HL.out.under hbel (by omega))
  have hz2:=hbel.size
  clear hbel HTG
  cases tb with
  | true =>
   go_wp2_with fail
   (try simp only [Exit.jump])
   go_ret
   refine ⟨none,0,0,rfl,Nat.le_refl _,?_,HB2.out⟩
   unfold allS
   rw [if_pos HTB.out]
   exact RdE.none_ _ _ _ _
  | false =>
   go_wp2_with (refine wpList_loadW rfl 29 (.tmp 1) rfl 6 stk_agg stk_size (w.heap.size) 29 rfl (stkC g (.slice AU nU cU) (.slice AL nL cL)) R2.out rfl ?_)
   refine (Begin_any w2 HU2.out HL2.out (by omega) HF.out HFU.out).mono ?_
   rintro e2 w3 ⟨gT,bM,cM,AS,nS,cS,F,rfl,ht,hbel⟩
   have HT3:=hide ht
   have HB3:=hide (HB2.out.trans (hbel.mono (by omega)))
   have hz3:=hbel.size
   clear ht hbel
   go_wp2_with fail
   go_step3
   rename_i hK
   refine hK _ _ (HPASS.out _ _ ⟨0,AS,nS,cS,none,0,0,F,gT,bM,cM,w2.heap.size,_,_,_,_,_,_,_,_,_,_,_,_,_,_,_,_,_,_,_,_,_,_,_,_,_,_,_,_,_,rfl,HTB.out,by omega,HB3.out,by omega,HT3.out,by simp [tourS]⟩)
end Go.Proofs.YtmhiohnkjpglfaaGreat

namespace Go.Proofs.YtmhiohnkjpglfaaGreat
open Go.RowKit Plain

def viewsT (up:List NodV) (ls:List (List NodV)):List ViewV:=treeV up ls (walkW up [1]).1
theorem view_at {up:List NodV} {ls:List (List NodV)} {k:Nat} {v:ViewV} (h:(viewsT up ls)[k]?=some v):∃y,(walkW up [1]).1[k]?=some y∧v=wayView up ls (treeV up ls ((walkW up [1]).1.take k)) y∧v.1=y.ino:=by
 have hk:=(List.getElem?_eq_some_iff.1 h).1
 unfold viewsT at hk h
 rw [tree_len] at hk
 obtain ⟨y,hy⟩:∃y,(walkW up [1]).1[k]?=some y:=⟨_,List.getElem?_eq_getElem hk⟩
 have h1:=tree_get up ls hy
 rw [h] at h1
 have h2:v=wayView up ls (treeV up ls ((walkW up [1]).1.take k)) y:=by simpa using h1
 exact ⟨y,hy,h2,by rw [h2];exact (tree_ino rfl hy).1⟩
theorem view_one {up:List NodV} {ls:List (List NodV)} {v v':ViewV} (h:v∈viewsT up ls) (h':v'∈viewsT up ls) (e:v.1=v'.1):v=v':=by
 obtain ⟨k,hk⟩:=List.getElem?_of_mem h
 obtain ⟨k',hk'⟩:=List.getElem?_of_mem h'
 obtain ⟨y,hy,-,e1⟩:=view_at hk
 obtain ⟨y',hy',-,e2⟩:=view_at hk'
 have:=nodup_get (walk_ok up [1]).2 hy hy' (by rw [←e1,←e2,e])
 subst this
 rw [hk] at hk'
 simpa using hk'
theorem next_view {up:List NodV} {ls:List (List NodV)} {v:ViewV} {x:List UInt8} {e:EntV} (hv:v∈viewsT up ls) (h:entU up v.1 x=some e):(e.ino,partV up ls v.2 e.ino x)∈viewsT up ls:=by
 obtain ⟨k,hk⟩:=List.getElem?_of_mem hv
 obtain ⟨y,hy,hvy,e1⟩:=view_at hk
 have hin:inW up v.1:=⟨y,List.mem_of_getElem? hy,e1.symm⟩
 obtain ⟨he,hn⟩:=entU_kids hin h
 rw [e1] at he
 have hw:(walkW (upT up) [1]).1=(walkW up [1]).1:=by unfold upT;rw [prune_walk]
 have hy2:=hy
 rw [←hw] at hy2
 have hd:=in_dir ⟨y,List.mem_of_getElem? hy2,rfl⟩
 have h1:=upT_tree up
 unfold TreeL at h1
 rw [root_run hd] at h1 hy2
 obtain ⟨j,hkj,hj⟩:=run_kids (upT up).length 0 ([⟨1,-1,[]⟩],[]) (by simp) ((OkW.nil_ (upT up)).snoc (x:=⟨1,-1,[]⟩) hd rfl) (by omega) h1 k y e (Nat.zero_le _) hy2 he
 rw [←root_run hd,hw] at hj
 have h3:=tree_get up ls hj
 have h4:wayView up ls (treeV up ls ((walkW up [1]).1.take j)) ⟨e.ino,(k:Int),e.name⟩=(e.ino,partV up ls v.2 e.ino x):=by
  unfold wayView
  rw [if_neg (by show ¬((k:Int) < 0);omega)]
  have h5:(treeV up ls ((walkW up [1]).1.take j))[k]?=some v:=by
   have hyj:((walkW up [1]).1.take j)[k]?=some y:=by rw [List.getElem?_take,if_pos hkj];exact hy
   have h6:=tree_get up ls hyj
   rw [List.take_take,Nat.min_eq_left (Nat.le_of_lt hkj),←hvy] at h6
   exact h6
  show (e.ino,partV up ls (((treeV up ls ((walkW up [1]).1.take j))[(k:Int).toNat]?).getD (0,[])).2 e.ino e.name)=_
  rw [Int.toNat_natCast,h5,hn]
  rfl
 rw [h4] at h3
 exact List.mem_of_getElem? h3
theorem root_view {up:List NodV} {ls:List (List NodV)} (h:(rootV up ls).1≠0):rootV up ls∈viewsT up ls:=by
 have hk:(nodAt up 1).k=1:=by
  unfold rootV at h
  by_cases e:(nodAt up 1).k=1
  ·exact e
  ·rw [if_neg e] at h
   exact absurd rfl h
 have hd:isDir up 1=true:=by unfold isDir;rw [hk];rfl
 have h0:(walkW up [1]).1[0]?=some ⟨1,-1,[]⟩:=by
  rw [root_run hd]
  exact pre_get (run_pre (ns:=up) up.length 0 ([⟨1,-1,[]⟩],[])) (by simp)
 have h1:=tree_get up ls h0
 unfold wayView at h1
 rw [if_pos (by decide)] at h1
 exact List.mem_of_getElem? h1
theorem tour_tree (up : List NodV) (ls : List (List NodV)) : ∀ k, ∀ s ∈ (tourS up ls k).1, s.1.1 = 0 ∨ s.1 ∈ viewsT up ls
 | 0=>fun s hs=>by
  simp only [tourS,List.mem_singleton] at hs
  rw [hs]
  by_cases h:(rootV up ls).1=0
  ·exact .inl h
  ·exact .inr (root_view h)
 | k+1=>by
  have ih:=tour_tree up ls k
  cases hs:(tourS up ls k).1[k]? with
  | none =>
   have hk:(tourS up ls k).1.length≤k:=by simpa using hs
   rw [tour_end hk 1]
   exact ih
  | some s =>
   rw [tour_some hs]
   intro t ht
   rcases List.mem_append.1 ht with ht|ht
   ·exact ih t ht
   ·unfold nextS at ht
    obtain ⟨x,hx,rfl⟩:=List.mem_map.1 ht
    have hd:(stepV up ls s.1 x).1=1:=by simpa [dirX] using (List.mem_filter.1 hx).2
    have hag:againS up s.1.1 x=false:=by simpa using (List.mem_filter.1 (List.mem_filter.1 hx).1).2
    show (stepV up ls s.1 x).2.1.1=0∨(stepV up ls s.1 x).2.1∈viewsT up ls
    cases hf:firstB up s.1.1 x with
    | none =>
     left
     have hst:stepV up ls s.1 x=lowStep ls s.1.2 x:=by unfold stepV;rw [hf]
     rw [hst]
     unfold lowStep noStep
     (repeat' split) <;> rfl
    | some e =>
     have hst:stepV up ls s.1 x=upStep up ls s.1.2 x e:=by unfold stepV;rw [hf]
     rw [hst] at hd ⊢
     unfold upStep noStep at hd ⊢
     by_cases hk:(nodAt up e.ino).k=1
     ·rw [if_pos hk] at hd ⊢
      have hu:entU up s.1.1 x=some e:=by
       unfold entU
       rw [hf]
       simp only
       rw [if_pos ⟨hk,hag⟩]
      rcases ih s (List.mem_of_getElem? hs) with h0|h0
      ·exfalso
       obtain ⟨-,-,h3⟩:=firstB_use hf
       unfold entB at h3
       rw [h0] at h3
       have:(nodAt up 0).k≠1:=by rw [nodAt_out (by omega)];decide
       rw [if_neg this] at h3
       cases h3
      ·exact .inr (next_view h0 hu)
     ·rw [if_neg hk] at hd ⊢
      left
      split <;> rfl

def keepW (F:List FinV) (i:Int) (e:EntV):Bool:=!F.contains ⟨15,0,i,e.slot⟩
def OnceN (up:List NodV):Prop:=∀x∈up,(x.ents.map EntV.name).Nodup
theorem once_at {up:List NodV} (h:OnceN up) (i:Int):((nodAt up i).ents.map EntV.name).Nodup:=by
 unfold nodAt
 split
 ·cases hx:up[(i - 1).toNat]? with
  | none=>simp [nod0]
  | some x=>exact h x (List.mem_of_getElem? hx)
 ·simp [nod0]
theorem slot_one {l:List EntV} (h:RiseE l l.length) {e e':EntV} (he:e∈l) (he':e'∈l) (hs:e.slot=e'.slot):e=e':=by
 have key:∀(d i:Nat) (a b:EntV),l[i]?=some a→l[i+d+1]?=some b→a.slot < b.slot:=by
  intro d
  induction d with
  | zero =>
   intro i a b ha hb
   exact (h (i+1) b (List.getElem?_eq_some_iff.1 hb).1 hb).2.2 a (by omega) ha
  | succ d ih =>
   intro i a b ha hb
   have hlt:=(List.getElem?_eq_some_iff.1 hb).1
   obtain ⟨c,hc⟩:∃c,l[i+d+1]?=some c:=⟨_,List.getElem?_eq_getElem (by omega)⟩
   have h1:=ih i a c ha hc
   have h2:=(h (i+(d+1)+1) b hlt hb).2.2 c (by omega) hc
   omega
 obtain ⟨i,hi⟩:=List.getElem?_of_mem he
 obtain ⟨j,hj⟩:=List.getElem?_of_mem he'
 rcases Nat.lt_trichotomy i j with hlt|hq|hgt
 ·have:=key (j - i - 1) i e e' hi (by rw [show i+(j - i - 1)+1=j from by omega];exact hj)
  omega
 ·subst hq
  rw [hi] at hj
  simpa using hj
 ·have:=key (i - j - 1) j e' e hj (by rw [show j+(i - j - 1)+1=i from by omega];exact hi)
  omega
theorem name_one {l:List EntV} (h:(l.map EntV.name).Nodup) {e e':EntV} (he:e∈l) (he':e'∈l) (hs:e.name=e'.name):e=e':=by
 obtain ⟨i,hi⟩:=List.getElem?_of_mem he
 obtain ⟨j,hj⟩:=List.getElem?_of_mem he'
 have h1:(l.map EntV.name)[i]?=some e.name:=by rw [List.getElem?_map,hi];rfl
 have h2:(l.map EntV.name)[j]?=some e.name:=by rw [List.getElem?_map,hj,hs];rfl
 obtain ⟨hi',h3⟩:=List.getElem?_eq_some_iff.1 h1
 obtain ⟨hj',h4⟩:=List.getElem?_eq_some_iff.1 h2
 have hp:=List.pairwise_iff_getElem.1 h
 rcases Nat.lt_trichotomy i j with hlt|hq|hgt
 ·exact absurd (h3.trans h4.symm) (hp i j hi' hj' hlt)
 ·subst hq
  rw [hi] at hj
  simpa using hj
 ·exact absurd (h4.trans h3.symm) (hp j i hj' hi' hgt)
theorem find_mem {up:List NodV} {ls:List (List NodV)} {i s:Int} (h:(⟨15,0,i,s⟩:FinV)∈findW up ls (viewsT up ls)):∃v e,v∈viewsT up ls∧v.1=i∧e∈(nodAt up i).ents∧(nodAt up e.ino).k=4∧hidesW ls v.2 e.name=false∧e.slot=s:=by
 unfold findW at h
 obtain ⟨v,hv,hm⟩:=List.mem_flatMap.1 h
 unfold finW at hm
 obtain ⟨e,he,hq⟩:=List.mem_map.1 hm
 obtain ⟨h1,h2⟩:=List.mem_filter.1 he
 unfold whitesW at h1
 obtain ⟨h3,h4⟩:=List.mem_filter.1 h1
 unfold idleF at hq
 injection hq with q1 q2 q3 q4
 subst q3
 exact ⟨v,e,hv,rfl,h3,by simpa [whiE] using h4,by simpa using h2,q4⟩
theorem drop_is {up:List NodV} {ls:List (List NodV)} (hup:FewU up) {i:Int} {e:EntV} (he:e∈(nodAt up i).ents) (hk:keepW (findW up ls (viewsT up ls)) i e=false):(nodAt up e.ino).k=4∧∀v∈viewsT up ls,v.1=i→hidesW ls v.2 e.name=false:=by
 have hm:(⟨15,0,i,e.slot⟩:FinV)∈findW up ls (viewsT up ls):=by simpa [keepW] using hk
 obtain ⟨v,e',hv,hvi,he',h4,hi,hs⟩:=find_mem hm
 have:=slot_one (nodAt_plain hup.2 i).1 he' he hs
 subst this
 refine ⟨h4,fun v' hv' hvi'=>?_⟩
 rw [view_one hv' hv (by rw [hvi,hvi'])]
 exact hi
theorem drop_only {up:List NodV} {ls:List (List NodV)} (hup:FewU up):OnlyW (keepW (findW up ls (viewsT up ls))) up:=fun _ _ he hk=>(drop_is hup he hk).1
theorem cutW_ent (keep:Int→EntV→Bool) (up:List NodV) (i:Int):entB (cutU keep up) i=(entB up i).filter (keep i):=by
 unfold entB
 rw [cutW_at]
 show (if (nodAt up i).k=1 then _ else _)=_
 split <;> simp
theorem cutW_first (keep:Int→EntV→Bool) {up:List NodV} (ho:OnceN up) (i:Int) (x:List UInt8):firstB (cutU keep up) i x=match firstB up i x with
  | none=>none
  | some e=>if keep i e=true then some e else none:=by
 have hu:useB (cutU keep up) x=useB up x:=funext fun e=>by unfold useB;rw [cutW_at]
 have hn:∀a∈entB up i,∀b∈entB up i,a.name=b.name→a=b:=fun a ha b hb e=>by
  have key:∀c∈entB up i,c∈(nodAt up i).ents:=fun c hc=>by
   unfold entB at hc
   split at hc
   ·exact hc
   ·cases hc
  exact name_one (once_at ho i) (key a ha) (key b hb) e
 unfold firstB
 rw [cutW_ent,hu,List.find?_filter]
 cases hf:(entB up i).find? (useB up x) with
 | none =>
  rw [List.find?_eq_none] at hf ⊢
  intro a ha h
  exact hf a ha (by simp at h;exact h.2)
 | some e =>
  have hmem:=List.mem_of_find?_eq_some hf
  have hue:=List.find?_some hf
  have hname:∀a,useB up x a=true→a.name=x:=fun a h=>by
   unfold useB at h
   simp only [Bool.and_eq_true,decide_eq_true_eq] at h
   exact h.1
  show _=if keep i e=true then some e else none
  cases hk:keep i e with
  | true =>
   rw [if_pos rfl]
   cases hf2:(entB up i).find? (fun a=>decide (keep i a=true∧useB up x a=true)) with
   | none =>
    rw [List.find?_eq_none] at hf2
    exact absurd (by simp [hk,hue]) (hf2 e hmem)
   | some b =>
    have h1:=List.find?_some hf2
    simp at h1
    rw [hn b (List.mem_of_find?_eq_some hf2) e hmem (by rw [hname b h1.2,hname e hue])]
  | false =>
   rw [if_neg (by simp),List.find?_eq_none]
   intro a ha h
   simp at h
   have:=hn a ha e hmem (by rw [hname a h.2,hname e hue])
   rw [this,hk] at h
   cases h.1
def sweptU (up:List NodV) (ls:List (List NodV)):List NodV:=cutU (keepW (findW up ls (viewsT up ls))) up
theorem swept_views {up:List NodV} (ls:List (List NodV)) (hup:FewU up):viewsT (sweptU up ls) ls=viewsT up ls∧twiceS (sweptU up ls) (walkW (sweptU up ls) [1])=twiceS up (walkW up [1])∧(walkW (sweptU up ls) [1]).1=(walkW up [1]).1:=by
 obtain ⟨h1,h2⟩:=cutW_walk (drop_only (ls:=ls) hup) [1]
 unfold sweptU
 refine ⟨?_,h2,h1⟩
 unfold viewsT at *
 rw [h1,cutW_tree]
theorem swept_up (up:List NodV) (ls:List (List NodV)) (vl:List (Int×Int)) (x:List UInt8) (e:EntV):upStep (sweptU up ls) ls vl x e=upStep up ls vl x e:=by
 unfold upStep sweptU
 rw [cutW_part,cutW_at]
theorem no_zero (up:List NodV) (x:List UInt8):firstB up 0 x=none:=by
 unfold firstB entB
 have:(nodAt up 0).k≠1:=by rw [nodAt_out (by omega)];decide
 rw [if_neg this]
 rfl
theorem swept_step {up:List NodV} {ls:List (List NodV)} (hup:FewU up) (ho:OnceN up) {v:ViewV} (hv:v.1=0∨v∈viewsT up ls) (x:List UInt8):stepV (sweptU up ls) ls v x=stepV up ls v x∧((stepV up ls v x).1≠0→firstB (sweptU up ls) v.1 x=firstB up v.1 x):=by
 rcases hv with hv|hv
 ·unfold stepV
  rw [hv,no_zero,no_zero]
  exact ⟨rfl,fun _=>rfl⟩
 ·have hc:=cutW_first (keepW (findW up ls (viewsT up ls))) ho v.1 x
  cases hf:firstB up v.1 x with
  | none =>
   rw [hf] at hc
   have hc':firstB (sweptU up ls) v.1 x=none:=hc
   unfold stepV
   rw [hf,hc']
   exact ⟨rfl,fun _=>rfl⟩
  | some e =>
   rw [hf] at hc
   cases hk:keepW (findW up ls (viewsT up ls)) v.1 e with
   | true =>
    have hc':firstB (sweptU up ls) v.1 x=some e:=by
     refine hc.trans ?_
     show (if _ then _ else _)=_
     rw [if_pos hk]
    unfold stepV
    rw [hf,hc']
    exact ⟨swept_up up ls v.2 x e,fun _=>rfl⟩
   | false =>
    have hc':firstB (sweptU up ls) v.1 x=none:=by
     refine hc.trans ?_
     show (if _ then _ else _)=_
     rw [if_neg (by rw [hk];simp)]
    obtain ⟨-,hnm,hme⟩:=firstB_use hf
    have hme':e∈(nodAt up v.1).ents:=by
     unfold entB at hme
     split at hme
     ·exact hme
     ·cases hme
    obtain ⟨h4,hid⟩:=drop_is hup hme' hk
    have hid':=hid v hv rfl
    rw [hnm] at hid'
    have hl:lowStep ls v.2 x=noStep:=by
     unfold lowStep
     rw [if_pos (by simpa [hidesW] using hid')]
    have hu:upStep up ls v.2 x e=noStep:=by
     unfold upStep
     rw [if_neg (by rw [h4];decide),if_pos h4]
    have hs:stepV up ls v x=noStep:=by unfold stepV;rw [hf];exact hu
    rw [hs]
    refine ⟨?_,fun h=>absurd rfl h⟩
    unfold stepV
    rw [hc']
    exact hl
theorem swept_names {up:List NodV} {ls:List (List NodV)} (hup:FewU up) (ho:OnceN up) {v:ViewV} (hv:v.1=0∨v∈viewsT up ls):namesV (sweptU up ls) ls v=namesV up ls v:=by
 unfold namesV
 have hh:hidV (sweptU up ls) ls v=hidV up ls v:=funext fun x=>by unfold hidV;rw [(swept_step hup ho hv x).1]
 rw [hh]
 refine rising_eq ?_ ?_ fun y=>?_
 ·exact List.Pairwise.sublist List.filter_sublist (sortS_rising _).1
 ·exact List.Pairwise.sublist List.filter_sublist (sortS_rising _).1
 ·rw [List.mem_filter,List.mem_filter,(sortS_rising _).2,(sortS_rising _).2]
  refine and_congr_left fun hs=>?_
  unfold allV
  rw [List.mem_append,List.mem_append]
  refine or_congr_right ?_
  unfold sweptU
  rw [cutW_ent]
  constructor
  ·intro h
   obtain ⟨e,he,rfl⟩:=List.mem_map.1 h
   exact List.mem_map_of_mem (List.mem_filter.1 he).1
  ·intro h
   obtain ⟨e,he,rfl⟩:=List.mem_map.1 h
   refine List.mem_map.2 ⟨e,List.mem_filter.2 ⟨he,?_⟩,rfl⟩
   cases hk:keepW (findW up ls (viewsT up ls)) v.1 e with
   | true=>rfl
   | false =>
    exfalso
    have hv':v∈viewsT up ls:=by
     rcases hv with h0|h0
     ·rw [h0] at he
      unfold entB at he
      have:(nodAt up 0).k≠1:=by rw [nodAt_out (by omega)];decide
      rw [if_neg this] at he
      cases he
     ·exact h0
    have he':e∈(nodAt up v.1).ents:=by
     unfold entB at he
     split at he
     ·exact he
     ·cases he
    obtain ⟨h4,hid⟩:=drop_is hup he' hk
    have hid':=hid v hv' rfl
    have hst:stepV up ls v e.name=noStep:=by
     unfold stepV
     cases hf:firstB up v.1 e.name with
     | none =>
      show lowStep ls v.2 e.name=noStep
      unfold lowStep
      rw [if_pos (by simpa [hidesW] using hid')]
     | some b =>
      obtain ⟨-,hnm,hme⟩:=firstB_use hf
      have hme':b∈(nodAt up v.1).ents:=by
       unfold entB at hme
       split at hme
       ·exact hme
       ·cases hme
      have:=name_one (once_at ho v.1) hme' he' hnm
      subst this
      show upStep up ls v.2 b.name b=noStep
      unfold upStep
      rw [if_neg (by rw [h4];decide),if_pos h4]
    unfold hidV at hs
    rw [hst] at hs
    simp [noStep] at hs
theorem swept_kept {up:List NodV} {ls:List (List NodV)} (hup:FewU up) (ho:OnceN up) {v:ViewV} (hv:v.1=0∨v∈viewsT up ls):keptS (sweptU up ls) ls v=keptS up ls v:=by
 unfold keptS
 rw [swept_names hup ho hv]
 refine List.filter_congr fun x hx=>?_
 have hs:(stepV up ls v x).1≠0:=by
  have:=(List.mem_filter.1 hx).2
  simpa [hidV] using this
 have h1:=(swept_step hup ho hv x).2 hs
 unfold againS
 rw [h1,(swept_views ls hup).2.1]
theorem swept_tour {up : List NodV} {ls : List (List NodV)} (hup : FewU up) (ho : OnceN up) : ∀ k, tourS (sweptU up ls) ls k = tourS up ls k
 | 0=>by
  unfold tourS sweptU
  rw [cutW_root]
 | k+1=>by
  have ih:=swept_tour (ls:=ls) hup ho k
  cases hs:(tourS up ls k).1[k]? with
  | none =>
   have hk:(tourS up ls k).1.length≤k:=by simpa using hs
   have hk2:(tourS (sweptU up ls) ls k).1.length≤k:=by rw [ih];exact hk
   rw [tour_end hk 1,tour_end hk2 1,ih]
  | some s =>
   have hs2:(tourS (sweptU up ls) ls k).1[k]?=some s:=by rw [ih];exact hs
   have hv:=tour_tree up ls k s (List.mem_of_getElem? hs)
   have hstep:∀x,stepV (sweptU up ls) ls s.1 x=stepV up ls s.1 x:=fun x=>(swept_step hup ho hv x).1
   rw [tour_some hs,tour_some hs2,ih]
   have e1:nextS (sweptU up ls) ls s=nextS up ls s:=by
    unfold nextS
    rw [swept_kept hup ho hv]
    have h1:dirX (sweptU up ls) ls s.1=dirX up ls s.1:=funext fun x=>by unfold dirX;rw [hstep]
    have h2:nextX (sweptU up ls) ls s=nextX up ls s:=funext fun x=>by unfold nextX;rw [hstep]
    rw [h1,h2]
   have e2:toldS (sweptU up ls) ls s=toldS up ls s:=by
    unfold toldS
    rw [swept_kept hup ho hv]
    have h2:toldX (sweptU up ls) ls s=toldX up ls s:=funext fun x=>by unfold toldX;rw [hstep]
    rw [h2]
   rw [e1,e2]
theorem swept_all {up:List NodV} {ls:List (List NodV)} (hup:FewU up) (ho:OnceN up):allS (sweptU up ls) ls=allS up ls:=by
 unfold allS
 rw [swept_tour hup ho]
theorem swept_none {up:List NodV} {ls:List (List NodV)} (hup:FewU up):findW (sweptU up ls) ls (viewsT (sweptU up ls) ls)=[]:=by
 rw [(swept_views ls hup).1]
 unfold findW
 rw [List.flatMap_eq_nil_iff]
 intro v hv
 unfold finW
 rw [List.map_eq_nil_iff,List.filter_eq_nil_iff]
 intro e he h
 unfold whitesW at he
 obtain ⟨h1,h2⟩:=List.mem_filter.1 he
 unfold sweptU at h1 h2
 rw [cutW_at] at h1
 obtain ⟨h3,h4⟩:=List.mem_filter.1 h1
 have h5:(⟨15,0,v.1,e.slot⟩:FinV)∈findW up ls (viewsT up ls):=by
  unfold findW
  refine List.mem_flatMap.2 ⟨v,hv,?_⟩
  unfold finW
  refine List.mem_map.2 ⟨e,List.mem_filter.2 ⟨?_,h⟩,rfl⟩
  unfold whitesW
  refine List.mem_filter.2 ⟨h3,?_⟩
  unfold whiE at h2 ⊢
  rw [cutW_at] at h2
  exact h2
 unfold keepW at h4
 simp [h5] at h4
end Go.Proofs.YtmhiohnkjpglfaaGreat

