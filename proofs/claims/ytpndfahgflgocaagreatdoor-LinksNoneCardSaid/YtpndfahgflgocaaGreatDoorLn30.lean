import Derived.Test.YtpndfahgflgocaaGreatDoorLn28
import Derived.Test.YtpndfahgflgocaaGreatDoorLn16
import Derived.Test.YtpndfahgflgocaaGreatDoorLn29
import Derived.Test.YtpndfahgflgocaaGreatDoorLn20
import Derived.Test.YtpndfahgflgocaaGreatDoorLn18
import Derived.Test.YtpndfahgflgocaaGreatDoorLn17
import Derived.Test.YtpndfahgflgocaaGreatDoorLn1
import Derived.Test.YtpndfahgflgocaaGreatDoorLn9
import Derived.Lib.AtoiErrMem
import Derived.Lib.Strings
import Derived.Lib.Walk
import Derived.Lib.ConvBytes
import Derived.Lib.Hide
import Derived.Laws.Strings3
import Derived.Laws.Closers25
import Derived.Laws.Closers25b
import Derived.BigCall
import Derived.BigGuard

namespace Go.Proofs.YtpndfahgflgocaaGreatDoor
open Go.RowKit Go.Shelf Plain

def tangB (ns:List NodV):Bool:=!(twiceS ns (walkW ns [1])).isEmpty
set_option maxRecDepth 100000 in
set_option maxHeartbeats 1600000 in
theorem Tang_any {A:Option Addr} {n c:Nat} {ns:List NodV} (w:World) (h:RdE nodEn w (Under w.heap.size) A n ns) (hM:Many ns):Calls Tryz.prog 71 #[.agg #[.slice A n c]] w (BoolB w (tangB ns)):=by
 obtain ⟨W1,hW1⟩:∃W1,(w.alloc (.cells ([.slice A n c]:List Value).toArray 26))=W1:=⟨_,rfl⟩
 obtain ⟨r0,hb1,hs1⟩:=rowA1 w _ _ hW1
 have hW1':(w.alloc (.cells #[.slice A n c] 26))=W1:=hW1
 have R1:=hide r0
 have HB:=hide hb1
 have hsz0:=hb1.size
 have H1:=hide (h.under hb1 (Nat.le_refl _))
 have HM:=hide hM
 have hs1':w.heap.size < W1.heap.size:=by omega
 clear r0 hb1 hW1 h hM hs1
 go_enter Tryz.func71,Tryz.ntmps71
 go_wp2_with (first|(refine wpList_loadW rfl 26 (.tmp 1) rfl 1 lay_agg lay_size (w.heap.size) 26 rfl [.slice A n c] R1.out rfl ?_)|(go_at_call 98;refine (Twice_any _ (und_up (H1.out.under (below_new (below_self W1) (.cells #[.int .i64 1] 3)) (by omega)) (by simp;omega)) (int_oneS W1) HM.out (by omega)).mono ?_;rintro e1 wD ⟨A7,n7,c7,rfl,-,htw,hbel0⟩;have HBD:=hide (HB.out.trans (((below_new (below_self W1) (.cells #[.int .i64 1] 3)).trans (hbel0.mono (by simp))).mono (by omega)));have hn7:=htw.1;clear htw hbel0))
 go_ret
 refine BoolB.eq ?_ HBD.out
 unfold tangB
 cases hl:twiceS ns (walkW ns [1]) with
 | nil=>rw [hl] at hn7;have:n7=0:=hn7.symm;subst this;rfl
 | cons a r=>rw [hl,List.length_cons] at hn7;simp;omega
set_option maxRecDepth 100000 in
set_option maxHeartbeats 1600000 in
theorem TgIdx_any {A:Option Addr} {n c:Nat} {l:List (List NodV)} (w:World) (h:RdE layEn w (Under w.heap.size) A n l) (hn:n≤100000) (hsm:∀ns∈l,Many ns) :
  Calls Tryz.prog 45 #[.slice A n c,.func (.func 71) #[] #[]] w (fun e w'=>∃r:Int,e=.returned (.int .i64 r)∧Below w.heap.size w w'∧((r = -1∧∀ns∈l,tangB ns=false)∨(0≤r∧∃ns∈l,tangB ns=true))):=by
 have H:=hide h
 have hln:=h.1
 have HSM:=hide hsm
 clear h hsm
 go_enter Tryz.func45,Tryz.ntmps45
 go_wp2
 go_loopw [8] (fun iv wr=>∃j:Nat,j≤n∧iv=.int .i64 j∧Below w.heap.size w wr∧∀i x,i < j→l[i]?=some x→tangB x=false) (fun iv _=>n - (intOf iv).toNat)
 case atStart=>exact ⟨0,by omega,rfl,below_self _,fun i x hi=>by omega⟩
 case round =>
  obtain ⟨j,hj,rfl,hbr,hall⟩:=hrel
  have HBR:=hide hbr
  have HALL:=hide hall
  have hbsz:=hbr.size
  clear hbr hall
  by_cases hlt:j < n
  ·obtain ⟨ns,hx⟩:∃ns,l[j]?=some ns:=⟨_,List.getElem?_eq_getElem (by omega)⟩
   obtain ⟨b,o,rfl,hbB,A2,n2,c2,hc,hc2,hN2⟩:=RdE.get_list (F:=nodEn) (H.out.on HBR.out) hx
   have HN2:=hide hN2
   have q:wr.cell? ⟨b,o+j,none⟩=some (.slice A2 n2 c2):=hc
   have HX:=hide hx
   have HFI:=hide (HSM.out ns (List.mem_of_getElem? hx))
   have hjn:(j:Int) < (n:Int):=by omega
   clear hx hN2 hc
   go_wp2_with fail
   refine (Tang_any wr HN2.out HFI.out).mono ?_
   obtain ⟨p,hp⟩:∃p,tangB ns=p:=⟨_,rfl⟩
   rw [hp]
   rintro e w3 ⟨rfl,hb3⟩
   have HP:=hide hp
   have HB3:=hide (HBR.out.trans (hb3.mono hbsz))
   clear hp hb3 q
   cases p with
   | true =>
    go_wp2_with fail
    go_ret
    exact ⟨(j:Int),rfl,HB3.out,.inr ⟨by omega,ns,List.mem_of_getElem? HX.out,HP.out⟩⟩
   | false =>
    go_wp2_with fail
    go_roundw
    case rel=>exact ⟨j+1,by omega,by go_num,HB3.out,fun i y hi hy=>by
     by_cases e:i=j
     ·subst e
      have:=HX.out.symm.trans hy
      cases this
      exact HP.out
     ·exact HALL.out i y (by omega) hy⟩
    case measure=>simp [intOf];omega
  ·obtain rfl:j=n:=by omega
   go_wp2_with fail
   go_ret
   exact ⟨-1,rfl,HBR.out,.inl ⟨rfl,fun x hx=>by
    obtain ⟨i,hi,rfl⟩:=List.mem_iff_getElem.1 hx
    exact HALL.out i _ (by omega) (List.getElem?_eq_getElem hi)⟩⟩
set_option maxRecDepth 100000 in
theorem TgHas_any {A:Option Addr} {n c:Nat} {l:List (List NodV)} (w:World) (h:RdE layEn w (Under w.heap.size) A n l) (hn:n≤100000) (hsm:∀ns∈l,Many ns) :
  Calls Tryz.prog 22 #[.slice A n c,.func (.func 71) #[] #[]] w (BoolB w (l.any tangB)):=by
 have H:=hide h
 clear h
 go_enter Tryz.func22,Tryz.ntmps22
 go_wp2_with (go_at_call 45;refine (TgIdx_any w H.out hn hsm).mono ?_;rintro e w3 ⟨r,rfl,hb3,hp⟩;have HP:=hide hp;have HB3:=hide hb3;clear hp hb3)
 go_ret
 refine BoolB.eq ?_ HB3.out
 rcases HP.out with ⟨h1,h2⟩|⟨h1,ns,h2,h3⟩
 ·subst h1
  have:l.any tangB=false:=by rw [List.any_eq_false];exact fun x hx=>by rw [h2 x hx];simp
  rw [this]
  rfl
 ·have:l.any tangB=true:=List.any_eq_true.2 ⟨ns,h2,h3⟩
  rw [this]
  simpa using h1
end Go.Proofs.YtpndfahgflgocaaGreatDoor

namespace Go.Proofs.YtpndfahgflgocaaGreatDoor
open Go.RowKit Go.Shelf Plain

def allS (up:List NodV) (ls:List (List NodV)):List ShnV:=if ls.any tangB=true then [] else (tourS up ls 1800).2
theorem tang_tree {ls:List (List NodV)} (h:ls.any tangB=false):∀ns∈ls,TreeL ns:=fun ns hns=>by
 rw [List.any_eq_false] at h
 have h1:=h ns hns
 unfold tangB at h1
 unfold TreeL
 cases hw:(walkW ns [1]).2 with
 | nil=>rfl
 | cons a r=>exact absurd (show (!(twiceS ns (walkW ns [1])).isEmpty)=true by simp [twiceS,hw]) h1
theorem good_i64 {up:List NodV} {ls:List (List NodV)} (hup:FewU up) {v:ViewV} (h:GoodV up ls v):i64 v.1:=by
 by_cases h0:v.1=0
 ·rw [h0];unfold i64;omega
 ·have h1:=in_isDir (h.2.2 h0)
  unfold isDir nodAt at h1
  have h2:=hup.1
  unfold i64
  split at h1
  ·omega
  ·simp [nod0] at h1
theorem tour_more {up : List NodV} {ls : List (List NodV)} (hT : ∀ ns ∈ ls, TreeL ns) (hF : FewL ls) (hup : FewU up) : ∀ k, (∀ s ∈ (tourS up ls k).1, (pathC s.2).length ≤ 13 * k) ∧ (tourS up ls k).2.length ≤ 100000 * k
 | 0=>by
  refine ⟨fun s hs=>?_,by simp [tourS]⟩
  simp only [tourS,List.mem_singleton] at hs
  rw [hs]
  simp [pathC]
 | k+1=>by
  obtain ⟨i1,i2⟩:=tour_more hT hF hup k
  cases hs:(tourS up ls k).1[k]? with
  | none =>
   have hk:(tourS up ls k).1.length≤k:=by simpa using hs
   rw [tour_end hk 1]
   exact ⟨fun s hs=>by have:=i1 s hs;omega,by omega⟩
  | some s =>
   have hg:=(tour_pot hT hF hup k).1 s (List.mem_of_getElem? hs)
   have hv:s.1.2.length≤1000:=by have h1:=hg.2.1;have h2:=hF.1;omega
   rw [tour_some hs]
   refine ⟨fun t ht=>?_,?_⟩
   ·rcases List.mem_append.1 ht with ht|ht
    ·have:=i1 t ht
     omega
    ·unfold nextS at ht
     obtain ⟨x,hx,rfl⟩:=List.mem_map.1 ht
     have hx1:=(List.mem_filter.1 (List.mem_filter.1 hx).1).1
     have h3:=names_right hF hup hx1
     have h4:=i1 s (List.mem_of_getElem? hs)
     show (pathC (s.2++[x])).length≤13*(k+1)
     rw [path_snoc,List.length_append,List.length_cons]
     omega
   ·rw [List.length_append]
    have h5:(toldS up ls s).length≤100000:=by
     unfold toldS
     rw [List.length_map]
     exact Nat.le_trans (List.length_filter_le _ _) (names_fewS hF hup hv)
    omega
def AllRet (w:World) (l:List ShnV) (e:Ending) (w':World):Prop:=∃A n c,e=.returned (.slice A n c)∧n≤c∧RdE shnEn w' (Under w'.heap.size) A n l∧Below w.heap.size w w'
set_option maxRecDepth 100000 in
set_option maxHeartbeats 8000000 in
theorem All_any {g:GeoQ} {AU AL:Option Addr} {nU cU nL cL B:Nat} {up:List NodV} {ls:List (List NodV)} (w:World) (hu:RdE nodEn w (Under B) AU nU up) (h:RdE layEn w (Under B) AL nL ls) (hB:B≤w.heap.size) (hF:FewL ls) (hup:FewU up):Calls Tryz.prog 56 #[.agg (stkC g (.slice AU nU cU) (.slice AL nL cL)).toArray] w (AllRet w (allS up ls)):=by
 obtain ⟨W1,hW1⟩:∃W1,(w.alloc (.cells (stkC g (.slice AU nU cU) (.slice AL nL cL)).toArray 29))=W1:=⟨_,rfl⟩
 obtain ⟨r0,hb1,hs1⟩:=rowA1 w _ _ hW1
 have hW1':(w.alloc (.cells #[.int .i64 g.a,.int .i64 g.b,.int .i64 g.c,.int .i64 g.d,.slice AU nU cU,.slice AL nL cL] 29))=W1:=hW1
 have R1:=hide r0
 have HB:=hide hb1
 have hsz0:=hb1.size
 have HU:=hide (hu.under hb1 hB)
 have HL:=hide (h.under hb1 hB)
 have HF:=hide hF
 have HFU:=hide hup
 have hs1':w.heap.size+1≤W1.heap.size:=by omega
 have q1_5:W1.cell? ⟨w.heap.size,5,none⟩=some (.slice AL nL cL):=R1.out.cell 5
 have hMl:∀ns∈ls,Many ns:=fun ns hns=>(plain_many (HF.out.2 ns hns).1 (HF.out.2 ns hns).2).1
 have HML:=hide hMl
 have hnL:nL≤3:=by have h1:=HF.out.1;have h2:=HL.out.1;omega
 have HU0:=hide hu
 have HL0:=hide h
 unfold stkC
 clear r0 hb1 hW1 hu h hF hup hs1 hMl
 go_enter Tryz.func56,Tryz.ntmps56
 go_wp2_with fail
 refine wp_scope_once 0 (fun a' w'=>∃(k:Nat) (AS:Option Addr) (nS cS:Nat) (AX:Option Addr) (nX cX:Nat) (F:Nat→Prop) (gT bM cM base:Nat) (u0 u2 u5 u6 u7 u8 u9 u10 u11 u12 u13 u14 u15 u16 u17 u18 u19 u20 u21 u22 u23 u24 u25 u26 u27 u28 u29 u30 u31:Value),a'={tmps:=#[u0,.pointer (some ⟨w.heap.size,0,none⟩),u2,.pointer (some ⟨gT,0,none⟩),.int .i64 (k:Int),u5,u6,u7,u8,u9,u10,u11,u12,u13,u14,u15,u16,u17,u18,u19,u20,u21,u22,u23,u24,u25,u26,u27,u28,u29,u30,u31],defers:=[]}∧ls.any tangB=false∧w.heap.size≤base∧Below w.heap.size w w'∧base≤w'.heap.size∧TourI w' base gT bM cM AS nS cS AX nX cX F g (.slice AU nU cU) (.slice AL nL cL) up (tourS up ls k).1 (tourS up ls k).2∧k < (tourS up ls k).1.length) (fun a' _=>1800 - (intOf (a'.tmps.getD 4 undef)).toNat) rfl ?_ ?_
 case _ =>
  rintro a' wr ⟨k,AS,nS,cS,AX,nX,cX,F,gT,bM,cM,base,u0,u2,u5,u6,u7,u8,u9,u10,u11,u12,u13,u14,u15,u16,u17,u18,u19,u20,u21,u22,u23,u24,u25,u26,u27,u28,u29,u30,u31,rfl,htg,hbb,hbr,hbz,ht,hk⟩
  have hT:=tang_tree htg
  have hpot:=tour_pot hT HF.out HFU.out k
  have hmore:=tour_more hT HF.out HFU.out k
  obtain ⟨s,hs⟩:∃s,(tourS up ls k).1[k]?=some s:=⟨_,List.getElem?_eq_getElem hk⟩
  have hg:=hpot.1 s (List.mem_of_getElem? hs)
  have hpl:=hmore.1 s (List.mem_of_getElem? hs)
  have hp3:=hpot.2.2
  have hm2:=hmore.2
  obtain ⟨raws,ho,hss⟩:=ht.sto
  have hrl:raws.length=nS:=ho.len
  have hsl:=hss.1
  have hxl:(tourS up ls k).2.length=nX:=ht.tol.len
  obtain ⟨r,hr⟩:∃r,raws[k]?=some r:=⟨_,List.getElem?_eq_getElem (by omega)⟩
  obtain ⟨e1,e2,e3,hpr⟩:=hss.2 k r s hr hs
  obtain ⟨gS,hAS,-,-⟩:=ho.some_ (by omega)
  subst hAS
  obtain ⟨b,o,hA,-,hc⟩:=ho.rd.2 (by omega)
  obtain ⟨cs,hR,hcs⟩:=hc k r hr
  cases hA
  obtain rfl:cs=rawC r:=hR
  obtain ⟨⟨u,vl⟩,ps⟩:=s
  obtain ⟨u',⟨AV,nV,cV⟩,tx⟩:=r
  simp only at e1 e2 e3 hpr hpl
  subst e1 e2 e3
  have HCR:=hide (fun j v (hv:(rawC (u',(AV,vl.length,cV),pathC ps))[j]?=some v)=>show wr.cell? ⟨gS,k*3+j,none⟩=some v from by have h1:=hcs j v hv;rw [show rawEn.k=3 from rfl,Nat.zero_add] at h1;exact h1)
  have HTR:=hide ht
  have HBR:=hide hbr
  have HPR:=hide (show RdE prEn wr F AV vl.length vl from hpr)
  have HTS:=hide (tour_some hs)
  have hui:=hide (good_i64 HFU.out hg)
  have hnV:vl.length≤1000:=by have h1:vl.length≤ls.length:=hg.2.1;have h2:=HF.out.1;omega
  have HTG:=hide htg
  have HT:=hide hT
  have q7:wr.cell? ⟨gT,7,none⟩=some (.slice (some ⟨gS,0,none⟩) nS cS):=ht.row.cell 7
  have hkS:(k:Int) < (nS:Int):=by omega
  have HUr:=hide (HU0.out.under hbr hB)
  have HLr:=hide (HL0.out.under hbr hB)
  have hk18:k < 1800:=by omega
  have hnS:nS≤1800:=by omega
  have hnX:nX≤180000000:=by omega
  have hplen:(pathC ps).length≤24000:=by omega
  clear htg hT hpot hmore hs hg hpl hp3 hm2 ho hss hrl hsl hxl hr hpr hc hcs ht hbr
  go_wp2_with (refine wpList_loadX rfl 122 (.tmp 16) rfl 3 stp_agg stp_size gS (k*3) rfl (rawC (u',(AV,vl.length,cV),pathC ps)) HCR.out rfl ?_)
  refine (Visit_any (ps:=ps) (u:=u') (vl:=vl) (cV:=cV) wr HTR.out HUr.out HLr.out (by omega) hbz HF.out HFU.out HPR.out hnV hui.out (by omega) (by omega) (by omega)).mono ?_
  rintro e2 w2 ⟨rfl,AS2,nS2,cS2,AX2,nX2,cX2,F2,ht2,hb2,hf2⟩
  have ht3:TourI w2 base gT bM cM AS2 nS2 cS2 AX2 nX2 cX2 F2 g (.slice AU nU cU) (.slice AL nL cL) up (tourS up ls (k+1)).1 (tourS up ls (k+1)).2:=by rw [HTS.out];exact ht2
  have hl2:(tourS up ls (k+1)).1.length=nS2:=by
   obtain ⟨raws,ho,hss⟩:=ht3.sto
   rw [←hss.1,ho.len]
  have q7':w2.cell? ⟨gT,7,none⟩=some (.slice AS2 nS2 cS2):=ht3.row.cell 7
  have q8':w2.cell? ⟨gT,8,none⟩=some (.slice AX2 nX2 cX2):=ht3.row.cell 8
  have HT3:=hide ht3
  have hz2:=hb2.size
  have HB3:=hide (HBR.out.trans (hb2.mono hbb))
  clear ht2 ht3 hb2 hf2 q7
  by_cases hlt:k+1 < nS2
  ·have hlt2:((k:Int)+1) < (nS2:Int):=by omega
   go_wp2_with fail
   go_step3
   refine ⟨rfl,⟨k+1,AS2,nS2,cS2,AX2,nX2,cX2,F2,gT,bM,cM,base,_,_,_,_,_,_,_,_,_,_,_,_,_,_,_,_,_,_,_,_,_,_,_,_,_,_,_,_,_,rfl,HTG.out,hbb,HB3.out,by omega,HT3.out,by omega⟩,?_⟩
   simp [intOf]
   omega
  ·have hlt2:¬(((k:Int)+1) < (nS2:Int)):=by omega
   go_wp2_with fail
   (try simp only [Exit.jump])
   go_ret
   have hal:allS up ls=(tourS up ls (k+1)).2:=by
    unfold allS
    rw [if_neg (by rw [HTG.out];simp)]
    have h1:=tour_end (up:=up) (ls:=ls) (k:=k+1) (by omega) (1800 - (k+1))
    rw [show k+1+(1800 - (k+1))=1800 from by omega] at h1
    rw [h1]
   refine ⟨AX2,nX2,cX2,rfl,HT3.out.tol.cap_,?_,HB3.out⟩
   rw [hal]
   exact HT3.out.tol.rd
 case _ =>
  intro hpass
  have HPASS:=hide hpass
  obtain ⟨tb,htb⟩:∃tb,ls.any tangB=tb:=⟨_,rfl⟩
  have htg:=TgHas_any (c:=cL) W1 (und_up HL.out (by omega)) (by omega) HML.out
  rw [htb] at htg
  have HTG:=hide htg
  have HTB:=hide htb
  clear hpass htg htb
  go_wp2_with fail
  refine HTG.out.mono ?_
  rintro e1 w2 ⟨rfl,hbel⟩
  have HB2:=hide (HB.out.trans (hbel.mono (by omega)))
  have R2:=hide (R1.out.on hbel)
  have HU2:=hide (HU.out.under hbel (by omega))
  have HL2:=hide (HL.out.under hbel (by omega))
  have hz2:=hbel.size
  clear hbel HTG
  cases tb with
  | true =>
   go_wp2_with fail
   (try simp only [Exit.jump])
   go_ret
   refine ⟨none,0,0,rfl,Nat.le_refl _,?_,HB2.out⟩
   unfold allS
   rw [if_pos HTB.out]
   exact RdE.none_ _ _ _ _
  | false =>
   go_wp2_with (refine wpList_loadW rfl 29 (.tmp 1) rfl 6 stk_agg stk_size (w.heap.size) 29 rfl (stkC g (.slice AU nU cU) (.slice AL nL cL)) R2.out rfl ?_)
   refine (Begin_any w2 HU2.out HL2.out (by omega) HF.out HFU.out).mono ?_
   rintro e2 w3 ⟨gT,bM,cM,AS,nS,cS,F,rfl,ht,hbel⟩
   have HT3:=hide ht
   have HB3:=hide (HB2.out.trans (hbel.mono (by omega)))
   have hz3:=hbel.size
   clear ht hbel
   go_wp2_with fail
   go_step3
   rename_i hK
   refine hK _ _ (HPASS.out _ _ ⟨0,AS,nS,cS,none,0,0,F,gT,bM,cM,w2.heap.size,_,_,_,_,_,_,_,_,_,_,_,_,_,_,_,_,_,_,_,_,_,_,_,_,_,_,_,_,_,rfl,HTB.out,by omega,HB3.out,by omega,HT3.out,by simp [tourS]⟩)
end Go.Proofs.YtpndfahgflgocaaGreatDoor

namespace Go.Proofs.YtpndfahgflgocaaGreatDoor
open Go.RowKit Go.Shelf Plain

theorem eq_plcB {a b c d:Int} {r:Bool} (h:decide (a=c∧b=d)=r) (W:World):(binOp .eql 75 (.agg #[.int .i64 a,.int .i64 b]) (.agg #[.int .i64 c,.int .i64 d])).run Tryz.prog W=.ok (.bool r) W:=by
 subst h
 by_cases h1:a=c
 rotate_left
 ·simp [go_sem,h1]
 by_cases h2:b=d
 rotate_left
 ·simp [go_sem,h1,h2]
 simp [go_sem,h1,h2]
theorem shn_get {w:World} {D:Nat→Prop} {A:Option Addr} {n j:Nat} {l:List ShnV} {x:ShnV} (h:RdE shnEn w D A n l) (hx:l[j]?=some x):∃b o,A=some ⟨b,o,none⟩∧D b∧∀k v,(shnC x)[k]?=some v→w.cell? ⟨b,o+j*4+k,none⟩=some v:=by
 obtain ⟨b,o,e,hb,hc⟩:=h.2 (by have h1:=(List.getElem?_eq_some_iff.1 hx).1;have h2:=h.1;omega)
 obtain ⟨cs,hR,hcs⟩:=hc j x hx
 obtain rfl:cs=shnC x:=hR
 exact ⟨b,o,e,hb,fun k v hv=>by have h1:=hcs k v hv;rw [show shnEn.k=4 from rfl,←Nat.add_assoc] at h1;exact h1⟩
def cntS (l:List ShnV) (p:Int×Int):Nat:=(l.filter (fun x=>decide (x.2.1≠1)&&decide (x.2.2.1=p.1∧x.2.2.2=p.2))).length
theorem cnt_succ {l:List ShnV} {p:Int×Int} {j:Nat} {x:ShnV} (h:l[j]?=some x):cntS (l.take (j+1)) p=cntS (l.take j) p+(if x.2.1=1 then 0 else if x.2.2.1=p.1∧x.2.2.2=p.2 then 1 else 0):=by
 unfold cntS
 rw [List.take_add_one,h,Option.toList_some,List.filter_append,List.length_append]
 congr 1
 by_cases h1:x.2.1=1
 ·simp [h1]
 ·by_cases h2:x.2.2.1=p.1∧x.2.2.2=p.2
  ·simp [h1,h2]
  ·simp only [List.filter_cons,List.filter_nil,h1,h2,if_false]
   simp
theorem cnt_le (l:List ShnV) (p:Int×Int):cntS l p≤l.length:=List.length_filter_le _ _
theorem all_len {up:List NodV} {ls:List (List NodV)} (hF:FewL ls) (hup:FewU up):(allS up ls).length≤180000000:=by
 unfold allS
 split
 ·simp
 ·rename_i h
  exact (tour_more (tang_tree (by simpa using h)) hF hup 1800).2
set_option maxRecDepth 100000 in
set_option maxHeartbeats 8000000 in
theorem Count_any {g:GeoQ} {AU AL:Option Addr} {nU cU nL cL B:Nat} {up:List NodV} {ls:List (List NodV)} {p:Int×Int} (w:World) (hu:RdE nodEn w (Under B) AU nU up) (h:RdE layEn w (Under B) AL nL ls) (hB:B≤w.heap.size) (hF:FewL ls) (hup:FewU up):Calls Tryz.prog 38 #[.agg (stkC g (.slice AU nU cU) (.slice AL nL cL)).toArray,.agg (prC p).toArray] w (fun e w'=>e=.returned (.int .i64 (cntS (allS up ls) p))∧Below w.heap.size w w'):=by
 obtain ⟨W1,hW1⟩:∃W1,((w.alloc (.cells (stkC g (.slice AU nU cU) (.slice AL nL cL)).toArray 29)).alloc (.cells ([.int .i64 p.1,.int .i64 p.2]:List Value).toArray 75))=W1:=⟨_,rfl⟩
 obtain ⟨r0,r1,hb1,hs1⟩:=rowA2 w _ _ _ _ hW1
 have hW1':((w.alloc (.cells #[.int .i64 g.a,.int .i64 g.b,.int .i64 g.c,.int .i64 g.d,.slice AU nU cU,.slice AL nL cL] 29)).alloc (.cells #[.int .i64 p.1,.int .i64 p.2] 75))=W1:=hW1
 have R2:=hide r0
 have R3:=hide r1
 have HB:=hide hb1
 have hsz0:=hb1.size
 have HU:=hide (hu.under hb1 hB)
 have HL:=hide (h.under hb1 hB)
 have HF:=hide hF
 have HFU:=hide hup
 have hal:=all_len HF.out HFU.out
 obtain ⟨l,hl⟩:∃l,allS up ls=l:=⟨_,rfl⟩
 have HLL:=hide hl
 rw [hl] at hal
 rw [hl]
 have hs1':w.heap.size+1≤W1.heap.size:=by omega
 have hs2':w.heap.size+1 < W1.heap.size:=by omega
 unfold stkC prC
 clear r0 r1 hb1 hW1 hu h hF hup hs1 hl
 go_enter Tryz.func38,Tryz.ntmps38
 go_wp2_with (first|(refine wpList_loadW rfl 29 (.tmp 2) rfl 6 stk_agg stk_size (w.heap.size) 29 rfl (stkC g (.slice AU nU cU) (.slice AL nL cL)) R2.out rfl ?_))
 refine (All_any W1 HU.out HL.out (by omega) HF.out HFU.out).mono ?_
 rintro e1 w2 ⟨A9,n9,c9,rfl,-,hrd,hbel⟩
 rw [HLL.out] at hrd
 have hln:l.length=n9:=hrd.1
 have H:=hide hrd
 have HB2:=hide (HB.out.trans (hbel.mono (by omega)))
 have R32:=hide (R3.out.on hbel)
 have hz2:=hbel.size
 clear hrd hbel HU HL
 go_wp2_with fail
 go_loopw [11,5] (fun v11 v5 wr=>∃j:Nat,j≤n9∧v11=.int .i64 j∧v5=.int .i64 (cntS (l.take j) p)∧Below w2.heap.size w2 wr) (fun v11 _ _=>n9 - (intOf v11).toNat)
 case atStart=>exact ⟨0,by omega,rfl,rfl,below_self _⟩
 case round =>
  obtain ⟨j,hj,rfl,rfl,hbr⟩:=hrel
  have HBR:=hide hbr
  have hbs:=hbr.size
  have R3r:=hide (R32.out.on hbr)
  by_cases hlt:j < n9
  ·obtain ⟨x,hx⟩:∃x,l[j]?=some x:=⟨_,List.getElem?_eq_getElem (by omega)⟩
   obtain ⟨b,o,rfl,-,hc⟩:=shn_get (H.out.on hbr) hx
   have HCX:=hide hc
   have hjn:(j:Int) < (n9:Int):=by omega
   have hct:=cnt_succ (p:=p) hx
   have hcl:cntS (l.take j) p≤180000000:=Nat.le_trans (cnt_le _ _) (by rw [List.length_take];omega)
   clear hbr hc hx
   have q3_0:wr.cell? ⟨w.heap.size+1,0,none⟩=some (.int .i64 p.1):=R3r.out.cell 0
   have q3_1:wr.cell? ⟨w.heap.size+1,1,none⟩=some (.int .i64 p.2):=R3r.out.cell 1
   by_cases hk:x.2.1=1
   ·rw [if_pos hk,Nat.add_zero] at hct
    have HCT:=hide hct
    have hkn:(!decide (x.2.1=1))=false:=by simp [hk]
    clear hct
    go_wp2_with (first|(refine wpList_loadX rfl 97 (.tmp 13) rfl 4 shn_agg shn_size b (o+j*4) rfl (shnC x) HCX.out rfl ?_)|(refine wpList_storeW rfl 97 (.tmp 7) (.tmp 14) rfl 4 shn_size (wr.heap.size) 97 rfl [.string ⟨#[]⟩,.int .i64 0,.int .i64 0,.int .i64 0] (shnC x) rfl (RowL.new wr 97 [.string ⟨#[]⟩,.int .i64 0,.int .i64 0,.int .i64 0]) rfl rfl (shnC_one _) ?_;intro wS141 hr141 hg141 hs141;have hzb:=below_stored' hg141;clear q3_0 q3_1;replace HBR:=hide (HBR.out.trans (hzb.mono (by omega)));replace R3r:=hide (R3r.out.on hzb);have hsz142:=hzb.size;have q3_0:wS141.cell? ⟨w.heap.size+1,0,none⟩=some (.int .i64 p.1):=R3r.out.cell 0;have q3_1:wS141.cell? ⟨w.heap.size+1,1,none⟩=some (.int .i64 p.2):=R3r.out.cell 1;have R7:=hide hr141;have hlt141:=hr141.lt;have q7_1:wS141.cell? ⟨wr.heap.size,1,none⟩=some (.int .i64 x.2.1):=R7.out.cell 1;have q7_2:wS141.cell? ⟨wr.heap.size,2,none⟩=some (.int .i64 x.2.2.1):=R7.out.cell 2;have q7_3:wS141.cell? ⟨wr.heap.size,3,none⟩=some (.int .i64 x.2.2.2):=R7.out.cell 3;clear hzb hr141;clear hg141 hs141))
    refine ⟨⟨j+1,by omega,by go_num,by rw [HCT.out];rfl,HBR.out⟩,?_⟩
    simp [intOf]
    omega
   ·rw [if_neg hk] at hct
    obtain ⟨r,hr⟩:∃r,decide (x.2.2.1=p.1∧x.2.2.2=p.2)=r:=⟨_,rfl⟩
    have heq:=fun W=>eq_plcB hr W
    have hkn:(!decide (x.2.1=1))=true:=by simp [hk]
    have HCT:=hide hct
    have HR:=hide hr
    clear hct hr
    cases r with
    | true =>
     go_wp2_with (first|(refine wpList_loadX rfl 97 (.tmp 13) rfl 4 shn_agg shn_size b (o+j*4) rfl (shnC x) HCX.out rfl ?_)|(refine wpList_storeW rfl 97 (.tmp 7) (.tmp 14) rfl 4 shn_size (wr.heap.size) 97 rfl [.string ⟨#[]⟩,.int .i64 0,.int .i64 0,.int .i64 0] (shnC x) rfl (RowL.new wr 97 [.string ⟨#[]⟩,.int .i64 0,.int .i64 0,.int .i64 0]) rfl rfl (shnC_one _) ?_;intro wS141 hr141 hg141 hs141;have hzb:=below_stored' hg141;clear q3_0 q3_1;replace HBR:=hide (HBR.out.trans (hzb.mono (by omega)));replace R3r:=hide (R3r.out.on hzb);have hsz142:=hzb.size;have q3_0:wS141.cell? ⟨w.heap.size+1,0,none⟩=some (.int .i64 p.1):=R3r.out.cell 0;have q3_1:wS141.cell? ⟨w.heap.size+1,1,none⟩=some (.int .i64 p.2):=R3r.out.cell 1;have R7:=hide hr141;have hlt141:=hr141.lt;have q7_1:wS141.cell? ⟨wr.heap.size,1,none⟩=some (.int .i64 x.2.1):=R7.out.cell 1;have q7_2:wS141.cell? ⟨wr.heap.size,2,none⟩=some (.int .i64 x.2.2.1):=R7.out.cell 2;have q7_3:wS141.cell? ⟨wr.heap.size,3,none⟩=some (.int .i64 x.2.2.2):=R7.out.cell 3;clear hzb hr141;clear hg141 hs141))
     refine ⟨⟨j+1,by omega,by go_num,by rw [HCT.out,if_pos (of_decide_eq_true HR.out)];rfl,HBR.out⟩,?_⟩
     simp [intOf]
     omega
    | false =>
     go_wp2_with (first|(refine wpList_loadX rfl 97 (.tmp 13) rfl 4 shn_agg shn_size b (o+j*4) rfl (shnC x) HCX.out rfl ?_)|(refine wpList_storeW rfl 97 (.tmp 7) (.tmp 14) rfl 4 shn_size (wr.heap.size) 97 rfl [.string ⟨#[]⟩,.int .i64 0,.int .i64 0,.int .i64 0] (shnC x) rfl (RowL.new wr 97 [.string ⟨#[]⟩,.int .i64 0,.int .i64 0,.int .i64 0]) rfl rfl (shnC_one _) ?_;intro wS141 hr141 hg141 hs141;have hzb:=below_stored' hg141;clear q3_0 q3_1;replace HBR:=hide (HBR.out.trans (hzb.mono (by omega)));replace R3r:=hide (R3r.out.on hzb);have hsz142:=hzb.size;have q3_0:wS141.cell? ⟨w.heap.size+1,0,none⟩=some (.int .i64 p.1):=R3r.out.cell 0;have q3_1:wS141.cell? ⟨w.heap.size+1,1,none⟩=some (.int .i64 p.2):=R3r.out.cell 1;have R7:=hide hr141;have hlt141:=hr141.lt;have q7_1:wS141.cell? ⟨wr.heap.size,1,none⟩=some (.int .i64 x.2.1):=R7.out.cell 1;have q7_2:wS141.cell? ⟨wr.heap.size,2,none⟩=some (.int .i64 x.2.2.1):=R7.out.cell 2;have q7_3:wS141.cell? ⟨wr.heap.size,3,none⟩=some (.int .i64 x.2.2.2):=R7.out.cell 3;clear hzb hr141;clear hg141 hs141))
     refine ⟨⟨j+1,by omega,by go_num,by rw [HCT.out,if_neg (of_decide_eq_false HR.out),Nat.add_zero],HBR.out⟩,?_⟩
     simp [intOf]
     omega
  ·obtain rfl:j=n9:=by omega
   have hjn:¬((j:Int) < (j:Int)):=by omega
   clear hbr
   go_wp2_with fail
   go_ret
   have h2:l.take j=l:=List.take_of_length_le (by omega)
   rw [h2]
   exact ⟨rfl,HB2.out.trans (HBR.out.mono (by omega))⟩
end Go.Proofs.YtpndfahgflgocaaGreatDoor

namespace Go.Proofs.YtpndfahgflgocaaGreatDoor
open Go.RowKit Go.Shelf Plain

def saysK (x:NodV):Bool:=decide (x.att.h / 8 % 2=1)
def wantK (up:List NodV) (ls:List (List NodV)) (rs:List Bool) (i:Int):Int×Bool:=if ((nodAt up i).k=2∨(nodAt up i).k=3)∧(rs[(i - 1).toNat]?).getD false=true∧inX up ls rs i=true then (min (cntS (allS up ls) ((nodAt up i).att.l,(nodAt up i).att.i):Int) 65535,true) else (0,false)
def rightK (x:NodV) (p:Int×Bool):Bool:=if saysK x=p.2 then !saysK x||decide (x.att.s=p.1) else false
def findK (up : List NodV) (ls : List (List NodV)) (rs : List Bool) : Nat → List FinV
 | 0=>[]
 | j+1=>if (rs[j]?).getD false=true∧rightK (nodAt up ((j:Int)+1)) (wantK up ls rs ((j:Int)+1))=false then findK up ls rs j++[⟨20,0,(j:Int)+1,-1⟩] else findK up ls rs j
theorem findK_len (up : List NodV) (ls : List (List NodV)) (rs : List Bool) : ∀ j, (findK up ls rs j).length ≤ j
 | 0=>Nat.le_refl _
 | j+1=>by
  have h1:=findK_len up ls rs j
  unfold findK
  split
  ·rw [List.length_append];simp;omega
  ·omega
theorem findK_skip {up:List NodV} {ls:List (List NodV)} {rs:List Bool} {j:Nat} (h:(rs[j]?).getD false=false):findK up ls rs (j+1)=findK up ls rs j:=by
 show (if _ then _ else _)=_
 rw [if_neg (by rw [h];simp)]
theorem findK_ok {up:List NodV} {ls:List (List NodV)} {rs:List Bool} {j:Nat} (h:rightK (nodAt up ((j:Int)+1)) (wantK up ls rs ((j:Int)+1))=true):findK up ls rs (j+1)=findK up ls rs j:=by
 show (if _ then _ else _)=_
 rw [if_neg (by rw [h];simp)]
theorem findK_bad {up:List NodV} {ls:List (List NodV)} {rs:List Bool} {j:Nat} (hr:(rs[j]?).getD false=true) (h:rightK (nodAt up ((j:Int)+1)) (wantK up ls rs ((j:Int)+1))=false):findK up ls rs (j+1)=findK up ls rs j++[⟨20,0,(j:Int)+1,-1⟩]:=by
 show (if _ then _ else _)=_
 rw [if_pos ⟨hr,h⟩]
theorem wantK_none {up:List NodV} {ls:List (List NodV)} {rs:List Bool} (h3:entB up 3=[]) (i:Int):wantK up ls rs i=(0,false):=by
 unfold wantK
 rw [if_neg]
 rintro ⟨-,-,h⟩
 rw [inX_nil h3] at h
 cases h
theorem findK_none {up : List NodV} {ls : List (List NodV)} {rs : List Bool} (h3 : entB up 3 = []) : ∀ (j : Nat) (f : FinV), f ∈ findK up ls rs j → ∃ i : Nat, i < j ∧ f.i = (i : Int) + 1 ∧ saysK (nodAt up ((i : Int) + 1)) = true
 | 0,f,h=>by simp [findK] at h
 | j+1,f,h=>by
  unfold findK at h
  split at h
  ·rename_i hc
   rcases List.mem_append.1 h with h1|h1
   ·obtain ⟨i,hi,h2⟩:=findK_none h3 j f h1
    exact ⟨i,by omega,h2⟩
   ·refine ⟨j,by omega,by rw [List.mem_singleton.1 h1],?_⟩
    have h2:=hc.2
    rw [wantK_none h3] at h2
    cases hs:saysK (nodAt up ((j:Int)+1)) with
    | true=>rfl
    | false=>unfold rightK at h2;rw [hs] at h2;simp at h2
  ·obtain ⟨i,hi,h2⟩:=findK_none h3 j f h
   exact ⟨i,by omega,h2⟩
end Go.Proofs.YtpndfahgflgocaaGreatDoor

namespace Go.Proofs.YtpndfahgflgocaaGreatDoor
open Go.RowKit Go.Shelf Plain

def lowH (c:UInt8):Int:=bits .or .u8 (c.toNat:Int) 32
theorem low_fin:∀n:Fin 256,0≤bits .or .u8 ((UInt8.ofNat n.1).toNat:Int) 32∧bits .or .u8 ((UInt8.ofNat n.1).toNat:Int) 32≤255∧(isH (UInt8.ofNat n.1)=true→¬(48≤(UInt8.ofNat n.1).toNat∧(UInt8.ofNat n.1).toNat≤57)→97≤bits .or .u8 ((UInt8.ofNat n.1).toNat:Int) 32∧bits .or .u8 ((UInt8.ofNat n.1).toNat:Int) 32≤102∧bits .or .u8 ((UInt8.ofNat n.1).toNat:Int) 32=((UInt8.ofNat n.1).toNat:Int)):=by decide +kernel
theorem low_all (c:UInt8):0≤lowH c∧lowH c≤255∧(isH c=true→¬(48≤c.toNat∧c.toNat≤57)→97≤lowH c∧lowH c≤102∧lowH c=(c.toNat:Int)):=by
 have h:=low_fin ⟨c.toNat,c.toNat_lt⟩
 have e:UInt8.ofNat c.toNat=c:=by simp
 simp only [e] at h
 exact h
theorem lower_e {c:UInt8} {L:Int} (h:lowH c=L) (w:World):Calls Tryz.prog 155 #[.int .u8 c.toNat] w (fun e w'=>e=.returned (.int .u8 L)∧w'=w):=by
 rw [←h]
 exact Tryz.internal_strconv_lower (c.toNat:Int) w
theorem lower_95 (w:World):Calls Tryz.prog 155 #[.int .u8 95] w (fun e w'=>e=.returned (.int .u8 127)∧w'=w):=by
 have h:=Tryz.internal_strconv_lower 95 w
 rw [show bits .or .u8 95 32=127 from by decide] at h
 exact h
def UAns (l:List UInt8) (e:Ending):Prop:=∃v:Nat,v < 16 ^ l.length∧(l.all isH=true→v=numH l)∧(e=.returned (.tuple #[.int .u64 v,.nilIface])∨(v=0∧l.all isH=false∧e=.returned (.tuple #[.int .u64 0,.iface 200 (.int .i64 2)])))
set_option maxHeartbeats 32000000 in
set_option maxRecDepth 100000 in
theorem PUint16_any {l:List UInt8} (h0:0 < l.length) (hl:l.length≤12) (w:World):Calls Tryz.prog 134 #[.string ⟨l.toArray⟩,.int .i64 16,.int .i64 0] w (fun e w'=>UAns l e∧Below w.heap.size w w'):=by
 obtain ⟨t,ht⟩:∃t:ByteArray,(⟨l.toArray⟩:ByteArray)=t:=⟨_,rfl⟩
 obtain ⟨n,hn⟩:∃n,l.length=n:=⟨_,rfl⟩
 have htl:t.data.toList=l:=by rw [←ht]
 have hsz:t.size=n:=by rw [←ht,←hn];simp [ByteArray.size]
 rw [ht]
 have hemp:t.toList.isEmpty=false:=by
  rw [←decide_eq_emptyBytes]
  refine decide_eq_false (fun h=>?_)
  have:n=0:=by rw [←hsz,h];rfl
  omega
 have hcv:=Lib.run_convert_string_bytes (P:=Tryz.prog) w 9 44 5 t (u:=.string) Tryz.underlying9 Tryz.underlying44 Tryz.underlying5
 have hB:∀j,j < t.size→(Lib.bytesWorld w 5 t).cell? ⟨w.heap.size,j,none⟩=some (.int .u8 (t.data.toList.getD j 0).toNat):=fun j hj=>Lib.bytesWorld_cell w 5 t j hj
 have hbw:=Lib.bytesWorld_below w 5 t
 rw [htl] at hB
 obtain ⟨W1,hW1⟩:∃W1,W1=Lib.bytesWorld w 5 t:=⟨_,rfl⟩
 rw [←hW1] at hcv hB hbw
 rw [hsz] at hB
 have HBW:=hide hbw
 have HN:=hide hn
 have HP:=hide (show 16 ^ n≤281474976710656 from by
  have:=Nat.pow_le_pow_right (show 16 > 0 by decide) (show n≤12 by omega)
  have e:(16:Nat) ^ 12=281474976710656:=by decide
  omega)
 have hmv:IntKind.u64.wrap (IntKind.u64.wrap 18446744073709551616 - 1)=18446744073709551615:=by
  rw [IntKind.wrap_u64,IntKind.wrap_u64]
  decide
 clear hW1 ht htl hbw
 go_enter Tryz.func134,Tryz.ntmps134
 go_wp2_with fail
 go_loop [12,13,101] (fun vu vn vi=>∃(k acc:Nat) (a:Int),vu=.bool false∧vn=.int .u64 a∧vi=.int .i64 k∧k≤n∧Hid (a=(acc:Int)∧acc < 16 ^ k∧((l.take k).all isH=true→acc=numH (l.take k)))) (fun _ _ vi=>n - (intOf vi).toNat)
 case atStart=>exact ⟨0,0,0,rfl,rfl,rfl,by omega,hide ⟨rfl,by decide,fun _=>rfl⟩⟩
 case round =>
  obtain ⟨k,acc,a,rfl,rfl,rfl,hk,hh⟩:=hrel
  obtain ⟨ha,hacc,hdec⟩:=hh.out
  clear hh
  by_cases hkn:k < n
  ·obtain ⟨c,hc⟩:∃c,l[k]?=some c:=⟨_,List.getElem?_eq_getElem (by have:=HN.out;omega)⟩
   have hc1:=hB k hkn
   rw [List.getD_eq_getElem?_getD,hc,Option.getD_some] at hc1
   have hkp:16 ^ k*16≤281474976710656:=by
    have:=Nat.pow_le_pow_right (show 16 > 0 by decide) (show k+1≤n by omega)
    have:=HP.out
    rw [←Nat.pow_succ]
    omega
   have a0:0≤a:=by omega
   have a1:a < 17592186044416:=by omega
   have hc256:c.toNat < 256:=c.toNat_lt
   have htk:l.take (k+1)=l.take k++[c]:=by rw [List.take_add_one,hc,Option.toList_some]
   have hkn2:(k:Int) < (n:Int):=by omega
   obtain ⟨L,hL⟩:∃L,lowH c=L:=⟨_,rfl⟩
   obtain ⟨l0,l1,l2⟩:=low_all c
   rw [hL] at l0 l1 l2
   have HCC:=hide hc
   clear hB hc
   by_cases hdig:48≤c.toNat∧c.toNat≤57
   ·obtain ⟨hd0,hd1⟩:=hdig
    have HNX:=hide (show a*16+((c.toNat:Int) - 48)=((acc*16+(c.toNat - 48):Nat):Int)∧acc*16+(c.toNat - 48) < 16 ^ (k+1)∧((l.take (k+1)).all isH=true→acc*16+(c.toNat - 48)=numH (l.take (k+1))) from by
     refine ⟨by omega,by rw [Nat.pow_succ];omega,fun h=>?_⟩
     rw [htk,List.all_append,Bool.and_eq_true] at h
     have hcH:isH c=true:=by simpa using h.2
     rw [htk,numH_snoc,if_pos hcH,←hdec h.1]
     unfold valH
     rw [if_pos hd1])
    clear hdec htk hacc ha l2 hkp
    go_wp2_with fail
    refine ⟨⟨k+1,acc*16+(c.toNat - 48),a*16+((c.toNat:Int) - 48),rfl,(by first|rfl|(congr 1;omega)),(by first|rfl|(congr 1;omega)),by omega,HNX⟩,by simp [intOf];omega⟩
   ·have HLL:=hide hL
    have HNF0:=hide (fun (h:isH c=false)=>show l.all isH=false from by
     rw [List.all_eq_false]
     exact ⟨c,List.mem_of_getElem? HCC.out,by rw [h];decide⟩)
    clear hL
    by_cases h95:c.toNat=95
    ·have h95':(c.toNat:Int)=95:=by omega
     have hc95:c=95:=UInt8.toNat_inj.1 h95
     have hL1:L=127:=by rw [←HLL.out,hc95];decide
     subst hL1
     have HNF:=hide (HNF0.out (by rw [hc95];decide))
     clear hdec htk hacc ha l2 hkp l0 l1 hdig h95 hc95 HNF0
     go_wp2_with (go_at_call 155;refine (lower_95 _).mono ?_;rintro e w' ⟨rfl,rfl⟩)
     all_goals go_ret2
     all_goals exact ⟨⟨0,Nat.pow_pos (by decide),fun h=>absurd (h.symm.trans HNF.out) (by decide),.inr ⟨rfl,HNF.out,rfl⟩⟩,HBW.out⟩
    have h95':¬(c.toNat:Int)=95:=by omega
    by_cases hlr:97≤L∧L≤102
    ·obtain ⟨hr0,hr1⟩:=hlr
     have HNX:=hide (show a*16+(L - 97+10)=((acc*16+(L - 87).toNat:Nat):Int)∧acc*16+(L - 87).toNat < 16 ^ (k+1)∧((l.take (k+1)).all isH=true→acc*16+(L - 87).toNat=numH (l.take (k+1))) from by
      refine ⟨by omega,by rw [Nat.pow_succ];omega,fun h=>?_⟩
      rw [htk,List.all_append,Bool.and_eq_true] at h
      have hcH:isH c=true:=by simpa using h.2
      have hc9:=(l2 hcH hdig).2.2
      rw [htk,numH_snoc,if_pos hcH,←hdec h.1]
      unfold valH
      rw [if_neg (by omega)]
      omega)
     have hnd:¬(48≤(c.toNat:Int)∧(c.toNat:Int)≤57):=by omega
     have hnd2:(48:Int)≤(c.toNat:Int)→¬(c.toNat:Int)≤57:=by omega
     clear hdec htk hacc ha l2 hkp hdig HNF0 h95
     by_cases h48:(48:Int)≤(c.toNat:Int)
     ·have h57:=hnd2 h48
      clear hnd hnd2
      go_wp2_with (go_at_call 155;refine (lower_e HLL.out _).mono ?_;rintro e w' ⟨rfl,rfl⟩)
      refine ⟨⟨k+1,acc*16+(L - 87).toNat,a*16+(L - 97+10),rfl,(by first|rfl|(congr 1;omega)),(by first|rfl|(congr 1;omega)),by omega,HNX⟩,by simp [intOf];omega⟩
     ·clear hnd hnd2
      go_wp2_with (go_at_call 155;refine (lower_e HLL.out _).mono ?_;rintro e w' ⟨rfl,rfl⟩)
      refine ⟨⟨k+1,acc*16+(L - 87).toNat,a*16+(L - 97+10),rfl,(by first|rfl|(congr 1;omega)),(by first|rfl|(congr 1;omega)),by omega,HNX⟩,by simp [intOf];omega⟩
    ·have HNF:=hide (HNF0.out (by
      cases hcH:isH c with
      | false=>rfl
      | true=>have:=l2 hcH hdig;omega))
     by_cases hlo:L < 97
     ·have hlo':¬97≤L:=by omega
      clear hdec htk hacc ha l2 hkp hlr HNF0 h95
      go_wp2_with (go_at_call 155;refine (lower_e HLL.out _).mono ?_;rintro e w' ⟨rfl,rfl⟩)
      all_goals go_ret2
      all_goals exact ⟨⟨0,Nat.pow_pos (by decide),fun h=>absurd (h.symm.trans HNF.out) (by decide),.inr ⟨rfl,HNF.out,rfl⟩⟩,HBW.out⟩
     ·have hlo':97≤L:=by omega
      by_cases hhi:L≤122
      ·have h103:103≤L:=by omega
       clear hdec htk hacc ha l2 hkp hlr HNF0 h95
       go_wp2_with (go_at_call 155;refine (lower_e HLL.out _).mono ?_;rintro e w' ⟨rfl,rfl⟩)
       all_goals go_ret2
       all_goals exact ⟨⟨0,Nat.pow_pos (by decide),fun h=>absurd (h.symm.trans HNF.out) (by decide),.inr ⟨rfl,HNF.out,rfl⟩⟩,HBW.out⟩
      ·have h123:122 < L:=by omega
       clear hdec htk hacc ha l2 hkp hlr HNF0 h95
       go_wp2_with (go_at_call 155;refine (lower_e HLL.out _).mono ?_;rintro e w' ⟨rfl,rfl⟩)
       all_goals go_ret2
       all_goals exact ⟨⟨0,Nat.pow_pos (by decide),fun h=>absurd (h.symm.trans HNF.out) (by decide),.inr ⟨rfl,HNF.out,rfl⟩⟩,HBW.out⟩
  ·obtain rfl:k=n:=by omega
   have hkn2:¬((k:Int) < (k:Int)):=by omega
   clear hB
   go_wp2_with fail
   go_ret2
   rw [List.take_of_length_le (by rw [HN.out];exact Nat.le_refl _)] at hdec
   exact ⟨⟨acc,by rw [HN.out];exact hacc,hdec,.inl (by first|rfl|(rw [ha];rfl))⟩,HBW.out⟩
end Go.Proofs.YtpndfahgflgocaaGreatDoor

