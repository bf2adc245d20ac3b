import Derived.Test.YtggnbflbbfdohaaGreatSt33
import Derived.Test.YtggnbflbbfdohaaGreatSt32
import Derived.Test.YtggnbflbbfdohaaGreatSt19
import Derived.Test.YtggnbflbbfdohaaGreatSt16
import Derived.Test.YtggnbflbbfdohaaGreatSt24
import Derived.Test.YtggnbflbbfdohaaGreatSt9

namespace Go.Proofs.YtggnbflbbfdohaaGreat
open Go.RowKit Go.Shelf Plain

def allS (up:List NodV) (ls:List (List NodV)):List ShnV:=if ls.any tangB=true then [] else (tourS up ls 1800).2
theorem tang_tree {ls:List (List NodV)} (h:ls.any tangB=false):∀ns∈ls,TreeL ns:=fun ns hns=>by
 rw [List.any_eq_false] at h;have h1:=h ns hns;unfold tangB at h1;unfold TreeL
 cases hw:(walkW ns [1]).2 with
 | nil=>rfl
 | cons a r=>exact absurd (show (!(twiceS ns (walkW ns [1])).isEmpty)=true by simp [twiceS,hw]) h1
theorem good_i64 {up:List NodV} {ls:List (List NodV)} (hup:FewU up) {v:ViewV} (h:GoodV up ls v):i64 v.1:=by
 by_cases h0:v.1=0
 ·rw [h0];unfold i64;omega
 ·have h1:=in_isDir (h.2.2 h0)
  unfold isDir nodAt at h1;have h2:=hup.1;unfold i64
  split at h1
  ·omega
  ·simp [nod0] at h1
theorem tour_more {up : List NodV} {ls : List (List NodV)} (hT : ∀ ns ∈ ls, TreeL ns) (hF : FewL ls) (hup : FewU up) : ∀ k, (∀ s ∈ (tourS up ls k).1, (pathC s.2).length ≤ 13 * k) ∧ (tourS up ls k).2.length ≤ 100000 * k
 | 0=>by
  refine ⟨fun s hs=>?_,by simp [tourS]⟩;simp only [tourS,List.mem_singleton] at hs;rw [hs];simp [pathC]
 | k+1=>by
  obtain ⟨i1,i2⟩:=tour_more hT hF hup k
  cases hs:(tourS up ls k).1[k]? with
  | none =>
   have hk:(tourS up ls k).1.length≤k:=by simpa using hs
   rw [tour_end hk 1];exact ⟨fun s hs=>by have:=i1 s hs;omega,by omega⟩
  | some s =>
   have hg:=(tour_pot hT hF hup k).1 s (List.mem_of_getElem? hs)
   have hv:s.1.2.length≤1000:=by have h1:=hg.2.1;have h2:=hF.1;omega
   rw [tour_some hs];refine ⟨fun t ht=>?_,?_⟩
   ·rcases List.mem_append.1 ht with ht|ht
    ·have:=i1 t ht
     omega
    ·unfold nextS at ht
     obtain ⟨x,hx,rfl⟩:=List.mem_map.1 ht;have hx1:=(List.mem_filter.1 (List.mem_filter.1 hx).1).1;have h3:=names_right hF hup hx1;have h4:=i1 s (List.mem_of_getElem? hs)
     show (pathC (s.2++[x])).length≤13*(k+1)
     rw [path_snoc,List.length_append,List.length_cons];omega
   ·rw [List.length_append]
    have h5:(toldS up ls s).length≤100000:=by
     unfold toldS;rw [List.length_map];exact Nat.le_trans (List.length_filter_le _ _) (names_fewS hF hup hv)
    omega
def AllRet (w:World) (l:List ShnV) (e:Ending) (w':World):Prop:=∃A n c,e=.returned (.slice A n c)∧n≤c∧RdE shnEn w' (Under w'.heap.size) A n l∧Below w.heap.size w w'
set_option maxRecDepth 100000 in
set_option maxHeartbeats 8000000 in
theorem All_any {g:GeoQ} {AU AL:Option Addr} {nU cU nL cL B:Nat} {up:List NodV} {ls:List (List NodV)} (w:World) (hu:RdE nodEn w (Under B) AU nU up) (h:RdE layEn w (Under B) AL nL ls) (hB:B≤w.heap.size) (hF:FewL ls) (hup:FewU up):Calls Tryz.prog 9 #[.agg (stkC g (.slice AU nU cU) (.slice AL nL cL)).toArray] w (AllRet w (allS up ls)):=by
 obtain ⟨W1,hW1⟩:∃W1,(w.alloc (.cells (stkC g (.slice AU nU cU) (.slice AL nL cL)).toArray 29))=W1:=⟨_,rfl⟩;obtain ⟨r0,hb1,hs1⟩:=rowA1 w _ _ hW1;have hW1':(w.alloc (.cells #[.int .i64 g.a,.int .i64 g.b,.int .i64 g.c,.int .i64 g.d,.slice AU nU cU,.slice AL nL cL] 29))=W1:=hW1;have R1:=hide r0;have HB:=hide hb1;have hsz0:=hb1.size;have HU:=hide (hu.under hb1 hB);have HL:=hide (h.under hb1 hB);have HF:=hide hF;have HFU:=hide hup
 have hs1':w.heap.size+1≤W1.heap.size:=by omega
 have q1_5:=cel R1.out 5 rfl
 have hMl:∀ns∈ls,Many ns:=fun ns hns=>(plain_many (HF.out.2 ns hns).1 (HF.out.2 ns hns).2).1;have HML:=hide hMl
 have hnL:nL≤3:=by have h1:=HF.out.1;have h2:=HL.out.1;omega
 have HU0:=hide hu;have HL0:=hide h;unfold stkC;clear r0 hb1 hW1 hu h hF hup hs1 hMl
 go_enter Tryz.func9,Tryz.ntmps9
 go_wp2_with fail
 refine wp_scope_once 0 (fun a' w'=>∃(k:Nat) (AS:Option Addr) (nS cS:Nat) (AX:Option Addr) (nX cX:Nat) (F:Nat→Prop) (gT bM cM base:Nat) (u0 u2 u5 u6 u7 u8 u9 u10 u11 u12 u13 u14 u15 u16 u17 u18 u19 u20 u21 u22 u23 u24 u25 u26 u27 u28 u29 u30 u31:Value),a'={tmps:=#[u0,.pointer (some ⟨w.heap.size,0,none⟩),u2,.pointer (some ⟨gT,0,none⟩),.int .i64 (k:Int),u5,u6,u7,u8,u9,u10,u11,u12,u13,u14,u15,u16,u17,u18,u19,u20,u21,u22,u23,u24,u25,u26,u27,u28,u29,u30,u31],defers:=[]}∧ls.any tangB=false∧w.heap.size≤base∧Below w.heap.size w w'∧base≤w'.heap.size∧TourI w' base gT bM cM AS nS cS AX nX cX F g (.slice AU nU cU) (.slice AL nL cL) up (tourS up ls k).1 (tourS up ls k).2∧k < (tourS up ls k).1.length) (fun a' _=>1800 - (intOf (a'.tmps.getD 4 undef)).toNat) rfl ?_ ?_
 case _ =>
  rintro a' wr ⟨k,AS,nS,cS,AX,nX,cX,F,gT,bM,cM,base,u0,u2,u5,u6,u7,u8,u9,u10,u11,u12,u13,u14,u15,u16,u17,u18,u19,u20,u21,u22,u23,u24,u25,u26,u27,u28,u29,u30,u31,rfl,htg,hbb,hbr,hbz,ht,hk⟩
  have hT:=tang_tree htg;have hpot:=tour_pot hT HF.out HFU.out k;have hmore:=tour_more hT HF.out HFU.out k;obtain ⟨s,hs⟩:∃s,(tourS up ls k).1[k]?=some s:=⟨_,List.getElem?_eq_getElem hk⟩;have hg:=hpot.1 s (List.mem_of_getElem? hs);have hpl:=hmore.1 s (List.mem_of_getElem? hs);have hp3:=hpot.2.2;have hm2:=hmore.2;obtain ⟨raws,ho,hss⟩:=ht.sto;have hrl:raws.length=nS:=ho.len;have hsl:=hss.1;have hxl:(tourS up ls k).2.length=nX:=ht.tol.len;obtain ⟨r,hr⟩:∃r,raws[k]?=some r:=⟨_,List.getElem?_eq_getElem (by omega)⟩;obtain ⟨e1,e2,e3,hpr⟩:=hss.2 k r s hr hs;obtain ⟨gS,hAS,-,-⟩:=ho.some_ (by omega);subst hAS;obtain ⟨b,o,hA,-,hc⟩:=ho.rd.2 (by omega);obtain ⟨cs,hR,hcs⟩:=hc k r hr
  cases hA
  obtain rfl:cs=rawC r:=hR;obtain ⟨⟨u,vl⟩,ps⟩:=s;obtain ⟨u',⟨AV,nV,cV⟩,tx⟩:=r;simp only at e1 e2 e3 hpr hpl;subst e1 e2 e3;have HCR:=hide (fun j v (hv:(rawC (u',(AV,vl.length,cV),pathC ps))[j]?=some v)=>show wr.cell? ⟨gS,k*3+j,none⟩=some v from by have h1:=hcs j v hv;rw [show rawEn.k=3 from rfl,Nat.zero_add] at h1;exact h1);have HTR:=hide ht;have HBR:=hide hbr;have HPR:=hide (show RdE prEn wr F AV vl.length vl from hpr);have HTS:=hide (tour_some hs);have hui:=hide (good_i64 HFU.out hg)
  have hnV:vl.length≤1000:=by have h1:vl.length≤ls.length:=hg.2.1;have h2:=HF.out.1;omega
  have HTG:=hide htg;have HT:=hide hT
  have q7:wr.cell? ⟨gT,7,none⟩=some (.slice (some ⟨gS,0,none⟩) nS cS):=ht.row.cell 7
  have hkS:(k:Int) < (nS:Int):=by omega
  have HUr:=hide (HU0.out.under hbr hB);have HLr:=hide (HL0.out.under hbr hB)
  have hk18:k < 1800:=by omega
  have hnS:nS≤1800:=by omega
  have hnX:nX≤180000000:=by omega
  have hplen:(pathC ps).length≤24000:=by omega
  clear htg hT hpot hmore hs hg hpl hp3 hm2 ho hss hrl hsl hxl hr hpr hc hcs ht hbr
  go_wp2_with (refine wpList_loadX rfl 82 (.tmp 16) rfl 3 stp_agg stp_size gS (k*3) rfl (rawC (u',(AV,vl.length,cV),pathC ps)) HCR.out rfl ?_)
  refine (Visit_any (ps:=ps) (u:=u') (vl:=vl) (cV:=cV) wr HTR.out HUr.out HLr.out (by omega) hbz HF.out HFU.out HPR.out hnV hui.out (by omega) (by omega) (by omega)).mono ?_
  rintro e2 w2 ⟨rfl,AS2,nS2,cS2,AX2,nX2,cX2,F2,ht2,hb2,hf2⟩
  have ht3:TourI w2 base gT bM cM AS2 nS2 cS2 AX2 nX2 cX2 F2 g (.slice AU nU cU) (.slice AL nL cL) up (tourS up ls (k+1)).1 (tourS up ls (k+1)).2:=by rw [HTS.out];exact ht2
  have hl2:(tourS up ls (k+1)).1.length=nS2:=by
   obtain ⟨raws,ho,hss⟩:=ht3.sto;rw [←hss.1,ho.len]
  have q7':w2.cell? ⟨gT,7,none⟩=some (.slice AS2 nS2 cS2):=ht3.row.cell 7
  have q8':w2.cell? ⟨gT,8,none⟩=some (.slice AX2 nX2 cX2):=ht3.row.cell 8
  have HT3:=hide ht3;have hz2:=hb2.size;have HB3:=hide (HBR.out.trans (hb2.mono hbb));clear ht2 ht3 hb2 hf2 q7
  by_cases hlt:k+1 < nS2
  ·have hlt2:((k:Int)+1) < (nS2:Int):=by omega
   go_wp2_with fail
   go_step3
   refine ⟨rfl,⟨k+1,AS2,nS2,cS2,AX2,nX2,cX2,F2,gT,bM,cM,base,_,_,_,_,_,_,_,_,_,_,_,_,_,_,_,_,_,_,_,_,_,_,_,_,_,_,_,_,_,rfl,HTG.out,hbb,HB3.out,by omega,HT3.out,by omega⟩,?_⟩;simp [intOf];omega
  ·have hlt2:¬(((k:Int)+1) < (nS2:Int)):=by omega
   go_wp2_with fail
   (try simp only [Exit.jump])
   go_ret
   have hal:allS up ls=(tourS up ls (k+1)).2:=by
    unfold allS;rw [if_neg (by rw [HTG.out];simp)];have h1:=tour_end (up:=up) (ls:=ls) (k:=k+1) (by omega) (1800 - (k+1));rw [show k+1+(1800 - (k+1))=1800 from by omega] at h1;rw [h1]
   refine ⟨AX2,nX2,cX2,rfl,HT3.out.tol.cap_,?_,HB3.out⟩;rw [hal];exact HT3.out.tol.rd
 case _ =>
  intro hpass;have HPASS:=hide hpass;obtain ⟨tb,htb⟩:∃tb,ls.any tangB=tb:=⟨_,rfl⟩;have htg:=TgHas_any (c:=cL) W1 (und_up HL.out (by omega)) (by omega) HML.out;rw [htb] at htg;have HTG:=hide htg;have HTB:=hide htb;clear hpass htg htb
  go_wp2_with fail
  refine HTG.out.mono ?_
  rintro e1 w2 ⟨rfl,hbel⟩
  have HB2:=hide (HB.out.trans (hbel.mono (by omega)));have R2:=hide (R1.out.on hbel);have HU2:=hide (HU.out.under hbel (by omega));have HL2:=hide (HL.out.under hbel (by omega));have hz2:=hbel.size;clear hbel HTG
  cases tb with
  | true =>
   go_wp2_with fail
   (try simp only [Exit.jump])
   go_ret
   refine ⟨none,0,0,rfl,Nat.le_refl _,?_,HB2.out⟩;unfold allS;rw [if_pos HTB.out];exact RdE.none_ _ _ _ _
  | false =>
   go_wp2_with (refine wpList_loadW rfl 29 (.tmp 1) rfl 6 stk_agg stk_size (w.heap.size) 29 rfl (stkC g (.slice AU nU cU) (.slice AL nL cL)) R2.out rfl ?_)
   refine (Begin_any w2 HU2.out HL2.out (by omega) HF.out HFU.out).mono ?_
   rintro e2 w3 ⟨gT,bM,cM,AS,nS,cS,F,rfl,ht,hbel⟩
   have HT3:=hide ht;have HB3:=hide (HB2.out.trans (hbel.mono (by omega)));have hz3:=hbel.size;clear ht hbel
   go_wp2_with fail
   go_step3
   rename_i hK
   refine hK _ _ (HPASS.out _ _ ⟨0,AS,nS,cS,none,0,0,F,gT,bM,cM,w2.heap.size,_,_,_,_,_,_,_,_,_,_,_,_,_,_,_,_,_,_,_,_,_,_,_,_,_,_,_,_,_,rfl,HTB.out,by omega,HB3.out,by omega,HT3.out,by simp [tourS]⟩)
end Go.Proofs.YtggnbflbbfdohaaGreat

namespace Go.Proofs.YtggnbflbbfdohaaGreat
open Go.RowKit Go.Shelf Plain

theorem run_append_OwX {α : Type} {E : Enc α} {P : Program} (w : World) (base : Nat) (t ty e : TypeId) (z : Value) (k : Nat) (ht : P.underlying t = some (.slice e)) (hinfo : (P.info? e).map (fun i => (i.zero, i.size, i.bytes)) = some (some z, E.k, k)) (hzs : z.cells.size = E.k) (hk : 0 < E.k)
  (D0:Nat→Prop) (A0:Option Addr) (n c0:Nat) (l0:List α) (hown:OwD E D0 w base e A0 n c0 l0) (D:Nat→Prop) (A:Option Addr) (m c:Nat) (l1:List α) (hb:RdE E w D A m l1) (hD:∀b,D b→b < w.heap.size∧∀a,A0=some a→b≠a.block)
  (hbytes:(n+m)*k≤140737488355328) (hnm:n+m≤140737488355328) (hbase:base≤w.heap.size) :
  ∃A' c' w',(Builtin.append_ #[t,t] ty #[.slice A0 n c0,.slice A m c]).run P w=.ok (.slice A' (n+m) c') w'∧OwD E (fun b=>D0 b∨D b) w' base e A' (n+m) c' (l0++l1)∧Below base w w'∧w.grownBy w' (Value.slice A0 n c0).ownBlock:=by
 obtain ⟨css,hrow,hc,hl,hD0⟩:=hown;obtain ⟨v',w',dss,hr,h2,h3,h4,h5,h6⟩:=run_append_E (P:=P) w base t ty e z k ht hinfo hzs hk _ n css hrow D A m c l1 hb hbytes hnm hbase
 have hv:∃A' c',v'=.slice A' (n+m) c':=by
  rcases h2.2 with ⟨rfl,h0⟩|⟨g,cap,cur,rfl,_⟩
  ·exact ⟨none,0,by rw [h0]⟩
  ·exact ⟨_,_,rfl⟩
 obtain ⟨A',c',rfl⟩:=hv;have hall:∀b,(D0 b∨D b)→b < w.heap.size∧∀a,A0=some a→b≠a.block:=fun b hb=>hb.elim (hD0 b) (hD b)
 have hkept:Kept (fun b=>D0 b∨D b) w w':=by
  intro b hb;refine h5.block b (hall b hb).1 ?_;intro e
  cases A0 with
  | none=>simp [Value.ownBlock] at e
  | some a =>
   have:b=a.block:=by simpa [Value.ownBlock] using e
   exact (hall b hb).2 a rfl this
 refine ⟨A',c',w',hr,⟨css++dss,h2,?_,by rw [List.length_append,hl,hb.1],fun b hb=>⟨Nat.lt_of_lt_of_le (hall b hb).1 h4.size,fun a ha e=>?_⟩⟩,h4,h5⟩
 ·exact (hc.mono (fun b hb=>hkept b (.inl hb)) (fun _ hb=>.inl hb)).append (h3.mono (fun b hb=>hkept b (.inr hb)) (fun _ hb=>.inr hb))
 ·subst ha
  rcases h6 with h6|h6
  ·cases A0 with
   | none=>simp [Value.ownBlock] at h6
   | some a0 =>
    have e2:a.block=a0.block:=by simpa [Value.ownBlock] using h6
    exact (hall b hb).2 a0 rfl (e.trans e2)
  ·have h7:=h6 a.block rfl
   have h8:=(hall b hb).1;omega
theorem wpList_append_OwX {α : Type} {E : Enc α} {P : Program} (w : World) {ops : Array Oper} {rest : List Oper} {o : Oper} {a : Act} {Q : Exit → Act → World → Prop} (hgd : o.guard = none) (s x : Operand) (t : TypeId)
  (ho:o.op=.call {callee:=.builtin .append,args:=#[s,x],argTypes:=#[t,t]})
  (base:Nat) (e:TypeId) (z:Value) (k:Nat) (ht:P.underlying t=some (.slice e)) (hinfo:(P.info? e).map (fun i=>(i.zero,i.size,i.bytes))=some (some z,E.k,k)) (hzs:z.cells.size=E.k) (hk:0 < E.k)
  (D0:Nat→Prop) (A0:Option Addr) (n c0:Nat) (l0:List α) (hs:a.eval s=.slice A0 n c0) (hown:OwD E D0 w base e A0 n c0 l0) (D:Nat→Prop) (A:Option Addr) (m c:Nat) (l1:List α) (hx:a.eval x=.slice A m c) (hb:RdE E w D A m l1) (hD:∀b,D b→b < w.heap.size∧∀a,A0=some a→b≠a.block)
  (N:Nat) (hN:n+m=N) (hbytes:N*k≤140737488355328) (hnm:N≤140737488355328) (hbase:base≤w.heap.size)
  (h:∀A' c' w',OwD E (fun b=>D0 b∨D b) w' base e A' N c' (l0++l1)→Below base w w'→w.grownBy w' (Value.slice A0 n c0).ownBlock→wpList P ops Q rest (a.put o.dst (.slice A' N c')) w'):wpList P ops Q (o::rest) a w:=by
 subst hN;refine wpList_plain hgd fun K hK=>?_;obtain ⟨A',c',w',hr,h2,h3,h4⟩:=run_append_OwX (P:=P) w base t o.type e z k ht hinfo hzs hk D0 A0 n c0 l0 hown D A m c l1 hb hD hbytes hnm hbase;unfold Oper.wp execOp;simp only [ho,resolve,invoke,builtin,Sem.run_bind,Sem.run_pure,Result.andThen_ok,List.map_toArray,List.map_cons,List.map_nil,hs,hx,hr];exact hK _ _ (h _ _ _ h2 h3 h4)
def rstC (u:Int) (V N:Value):List Value:=[.int .i64 u,V,N]
def rstEn : Enc StopV where
 k:=3
 R:=fun w D cs x=>∃A c B d,cs=rstC x.1.1 (.slice A x.1.2.length c) (.slice B x.2.length d)∧RdE prEn w D A x.1.2.length x.1.2∧RdE Enc.text w D B x.2.length x.2
 len:=fun ⟨_,_,_,_,h,_⟩=>by rw [h];rfl
 one:=fun ⟨_,_,_,_,h,_⟩ v hv=>by rw [h] at hv;simp only [rstC,List.mem_cons,List.not_mem_nil,or_false] at hv;rcases hv with rfl|rfl|rfl <;> rfl
 mono:=fun ⟨A,c,B,d,h,h1,h2⟩ hk hD=>⟨A,c,B,d,h,h1.mono hk hD,h2.mono hk hD⟩
theorem text_any {w w':World} {D D':Nat→Prop} {cs:List Value} {x:List UInt8} (h:Enc.text.R w D cs x):Enc.text.R w' D' cs x:=h
structure RTI (w : World) (b4 b5 : Nat) (F : Nat → Prop) (A4 : Option Addr) (n4 c4 : Nat) (A5 : Option Addr) (n5 c5 : Nat) (told : List ShnV) (ss : List StopV) : Prop where
 out:OwD shnEn F w b4 37 A4 n4 c4 told
 stp:OwD rstEn F w b5 91 A5 n5 c5 ss
theorem RTI.on {w w':World} {b4 b5 n4 c4 n5 c5:Nat} {F:Nat→Prop} {A4 A5:Option Addr} {told:List ShnV} {ss:List StopV} (h:RTI w b4 b5 F A4 n4 c4 A5 n5 c5 told ss) (hb:Below w.heap.size w w'):RTI w' b4 b5 F A4 n4 c4 A5 n5 c5 told ss:=⟨h.out.grown (grown_below hb) (by simp),h.stp.grown (grown_below hb) (by simp)⟩
theorem RTI.more {w:World} {b4 b5 n4 c4 n5 c5:Nat} {F F':Nat→Prop} {A4 A5:Option Addr} {told:List ShnV} {ss:List StopV} (h:RTI w b4 b5 F A4 n4 c4 A5 n5 c5 told ss) (h1:∀b,F b→F' b) (h2:∀b,F' b→b < w.heap.size∧(∀a,A4=some a→b≠a.block)∧∀a,A5=some a→b≠a.block):RTI w b4 b5 F' A4 n4 c4 A5 n5 c5 told ss:=⟨h.out.more h1 (fun b hb=>⟨(h2 b hb).1,(h2 b hb).2.1⟩),h.stp.more h1 (fun b hb=>⟨(h2 b hb).1,(h2 b hb).2.2⟩)⟩
theorem rst_ne:37≠91:=by decide
theorem RTI.tell {w w':World} {b4 b5 n4 c4 n5 c5 m4 d4:Nat} {F:Nat→Prop} {A4 A5 A4':Option Addr} {told told':List ShnV} {ss:List StopV} (h:RTI w b4 b5 F A4 n4 c4 A5 n5 c5 told ss) (ho:OwD shnEn F w' b4 37 A4' m4 d4 told') (hg:w.grownBy w' (Value.slice A4 n4 c4).ownBlock):RTI w' b4 b5 F A4' m4 d4 A5 n5 c5 told' ss :=
 ⟨ho,h.stp.grown hg (fun g e=>⟨(h.out.notD g e).1,OwD.two h.out h.stp rst_ne g e⟩)⟩
theorem RTI.come {w w':World} {b4 b5 n4 c4 n5 c5 m5 d5:Nat} {F:Nat→Prop} {A4 A5 A5':Option Addr} {told:List ShnV} {ss ss':List StopV} (h:RTI w b4 b5 F A4 n4 c4 A5 n5 c5 told ss) (ho:OwD rstEn F w' b5 91 A5' m5 d5 ss') (hg:w.grownBy w' (Value.slice A5 n5 c5).ownBlock):RTI w' b4 b5 F A4 n4 c4 A5' m5 d5 told ss' :=
 ⟨h.out.grown hg (fun g e=>⟨(h.stp.notD g e).1,OwD.two h.stp h.out (Ne.symm rst_ne) g e⟩),ho⟩
theorem rst_get {w:World} {F:Nat→Prop} {b5 n5 c5 p:Nat} {A5:Option Addr} {ss:List StopV} {s:StopV} (h:OwD rstEn F w b5 91 A5 n5 c5 ss) (hs:ss[p]?=some s):∃g A c B d,A5=some ⟨g,0,none⟩∧(∀k v,(rstC s.1.1 (.slice A s.1.2.length c) (.slice B s.2.length d))[k]?=some v→w.cell? ⟨g,p*3+k,none⟩=some v)∧RdE prEn w F A s.1.2.length s.1.2∧RdE Enc.text w F B s.2.length s.2:=by
 have hp:=(List.getElem?_eq_some_iff.1 hs).1;obtain ⟨css,hr,hc,hl,hD⟩:=h;obtain ⟨g,hg,-,-⟩:=OwD.some_ (E:=rstEn) (D:=F) ⟨css,hr,hc,hl,hD⟩ (by omega);subst hg;obtain ⟨cur,cs,hcur,hR,htk,hlen⟩:=OwD.at (E:=rstEn) (D:=F) ⟨css,hr,hc,hl,hD⟩ hs;obtain ⟨A,c,B,d,rfl,h1,h2⟩:=hR;exact ⟨g,A,c,B,d,rfl,fun k v hv=>(hcur.cell (p*3+k)).trans (sub_cell (k:=3) htk hv),h1,h2⟩
set_option maxRecDepth 100000 in
theorem rst_info:(Tryz.prog.info? 91).map (fun i=>(i.zero,i.size,i.bytes))=some (some (.agg #[.int .i64 0,.slice none 0 0,.slice none 0 0]),3,56):=by kernel_rfl
theorem lit_rst (u:Int) (A B:Option Addr) (n c m d:Nat) (W:World):(Instr.buildSlice 92 1 #[(0,.agg #[.int .i64 u,.slice A n c,.slice B m d])]).run Tryz.prog W=.ok (.slice (some ⟨W.heap.size,0,none⟩) 1 1) (W.alloc (.cells #[.int .i64 u,.slice A n c,.slice B m d] 91)):=by
 obtain ⟨it,hi,hz,hsz,-⟩:=info_parts rst_info;refine run_buildSlice W _ 91 1 _ _ it (.agg #[.int .i64 0,.slice none 0 0,.slice none 0 0]) Tryz.underlying92 hi hz (by omega) (by omega) ?_;rw [hsz]
 have:=Great.fill_whole (s:=3) (by omega) [.agg #[.int .i64 u,.slice A n c,.slice B m d]] ((Array.range (1*3)).map ((Value.agg #[.int .i64 0,.slice none 0 0,.slice none 0 0]).cells[· % (Value.agg #[.int .i64 0,.slice none 0 0,.slice none 0 0]).cells.size]!)) (by intro v hv;rw [List.mem_singleton] at hv;subst hv;simp [Value.cells]) (by simp)
 simpa [Value.cells] using this
theorem rst_lit1 (W:World) (s:StopV) {A B:Option Addr} {c d:Nat} {F:Nat→Prop} (h1:RdE prEn W F A s.1.2.length s.1.2) (h2:RdE Enc.text W F B s.2.length s.2) (hF:∀b,F b→b < W.heap.size):RdE rstEn (W.alloc (.cells (rstC s.1.1 (.slice A s.1.2.length c) (.slice B s.2.length d)).toArray 91)) (fun b=>F b∨b=W.heap.size) (some ⟨W.heap.size,0,none⟩) 1 [s]:=by
 have hb:=below_new (below_self W) (.cells (rstC s.1.1 (.slice A s.1.2.length c) (.slice B s.2.length d)).toArray 91);refine ⟨rfl,fun _=>⟨_,_,rfl,.inr rfl,fun i y hy=>⟨rstC s.1.1 (.slice A s.1.2.length c) (.slice B s.2.length d),?_,fun j v hv=>?_⟩⟩⟩
 ·have hi:i=0:=by have:=(List.getElem?_eq_some_iff.1 hy).1;simpa using this
  subst hi
  obtain rfl:s=y:=by simpa using hy
  exact ⟨A,c,B,d,rfl,h1.mono (Kept.of_below hb hF) (fun _ h=>.inl h),h2.mono (Kept.of_below hb hF) (fun _ h=>.inl h)⟩
 ·have hi:i=0:=by have:=(List.getElem?_eq_some_iff.1 hy).1;simpa using this
  subst hi
  have:=(RowL.new W 91 (rstC s.1.1 (.slice A s.1.2.length c) (.slice B s.2.length d))).cell j
  rw [show (0:Nat)+(0*rstEn.k+j)=j from by omega];exact this.trans hv
end Go.Proofs.YtggnbflbbfdohaaGreat

namespace Go.Proofs.YtggnbflbbfdohaaGreat
open Go.RowKit Go.Shelf Plain

set_option maxRecDepth 100000 in
set_option maxHeartbeats 1600000 in
theorem eq_prw (a b:Int×Int) (W:World):(binOp .eql 99 (.agg #[.int .i64 a.1,.int .i64 a.2]) (.agg #[.int .i64 b.1,.int .i64 b.2])).run Tryz.prog W=.ok (.bool (decide (a=b))) W:=by
 obtain ⟨i,hi⟩:∃i,Tryz.prog.info? 3=some i:=⟨_,rfl⟩
 have hc:Tryz.prog.cellsOf 3=1:=by kernel_rfl
 have h:(Op.equalIn 10000 99 (.agg #[.int .i64 a.1,.int .i64 a.2]) (.agg #[.int .i64 b.1,.int .i64 b.2])).run Tryz.prog W=.ok (decide (a=b)) W:=by
  rw [run_equalIn_array W 9999 _ _ Tryz.underlying99 hi,hc,show List.range 2=[0,1] from rfl];obtain ⟨a1,a2⟩:=a;obtain ⟨b1,b2⟩:=b
  by_cases h1:a1=b1 <;> by_cases h2:a2=b2 <;> simp [Op.eqItems,go_sem,h1,h2]
 simp [go_sem,h]
set_option maxRecDepth 100000 in
set_option maxHeartbeats 1600000 in
theorem In_any {A:Option Addr} {n c:Nat} {L:List (Int×Int)} {z:Int×Int} (w:World) (h:RdE prEn w (Under w.heap.size) A n L) (hn:n≤100000) :
  Calls Tryz.prog 43 #[.slice A n c,.agg #[.int .i64 z.1,.int .i64 z.2]] w (BoolB w (decide (z∈L))):=by
 have r:=RowL.new w 99 [.int .i64 z.1,.int .i64 z.2]
 have hb:=below_new (below_self w) (.cells [Value.int .i64 z.1,.int .i64 z.2].toArray 99);obtain ⟨W1,hW1⟩:∃W1,w.alloc (.cells [Value.int .i64 z.1,.int .i64 z.2].toArray 99)=W1:=⟨_,rfl⟩;have H0:=h.on hb;have hl:=h.1;rw [hW1] at r hb H0;have hW1':w.alloc (.cells #[.int .i64 z.1,.int .i64 z.2] 99)=W1:=hW1;have H:=hide H0;have R:=hide r;have HB:=hide hb;clear r hb hW1 h H0
 go_enter Tryz.func43,Tryz.ntmps43
 go_wp2
 clear hW1'
 go_loopw [5] (fun v5 wr=>∃j q:Nat,j≤n∧v5=.int .i64 j∧wr=W1.drewN q∧decide (z∈L.take j)=false) (fun v5 _=>n - (intOf v5).toNat)
 case atStart=>exact ⟨0,0,by omega,rfl,rfl,by simp⟩
 case round =>
  obtain ⟨j,q,hj,rfl,rfl,hall⟩:=hrel;have HALL:=hide hall;clear hall
  by_cases hlt:j < n
  ·have hl1:j < L.length:=by omega
   obtain ⟨b1,o1,rfl,hc1⟩:=H.out.cellsR (by omega);obtain ⟨cs1,hcs1,hc1⟩:=hc1 j _ (List.getElem?_eq_getElem hl1);obtain rfl:cs1=prC L[j]:=hcs1;obtain ⟨y,hy⟩:∃y,L[j]=y:=⟨_,rfl⟩;have HY:=hide (show L[j]?=some y from by rw [List.getElem?_eq_getElem hl1,hy]);rw [hy] at hc1;have hL1:∀q,(Instr.loadAt 99 (.pointer (some ⟨b1,o1+j*2,none⟩))).run Tryz.prog (W1.drewN q)=.ok (.agg #[.int .i64 y.1,.int .i64 y.2]) (W1.drewN q):=fun q=>run_loadAt_cells (w:=W1.drewN q) prw_agg prw_size hc1 rfl;have hL2:∀q,(Instr.loadAt 99 (.pointer (some ⟨w.heap.size,0,none⟩))).run Tryz.prog (W1.drewN q)=.ok (.agg #[.int .i64 z.1,.int .i64 z.2]) (W1.drewN q):=fun q=>run_loadAt_cells (w:=W1.drewN q) prw_agg prw_size (cs:=[.int .i64 z.1,.int .i64 z.2]) (fun j' v hv=>by rw [Nat.zero_add];exact (R.out.cell j').trans hv) rfl;obtain ⟨bq,hbq⟩:∃bq,decide (y=z)=bq:=⟨_,rfl⟩;have heq:=fun W=>(eq_prw y z W).trans (by rw [hbq]);have HBQ:=hide hbq;clear hc1 hy hl1 hbq
   go_wp2
   refine wp_region_quiet_lit (by kernel_rfl) (by kernel_rfl) ?_
   iterate 3 (quiet_step (fail))
   refine Go.BigFrame.wpQuiet_want rfl (fun K hK=>?_);refine quietL 99 (.tmp 14) rfl _ _ rfl (by rintro _ ⟨n',rfl⟩;rw [World.drewN_drewN];exact hL1 _) (hK _ ?_);clear hK K;refine Go.BigFrame.wpQuiet_want rfl (fun K hK=>?_);refine quietL 99 (.tmp 3) rfl _ _ rfl (by rintro _ ⟨n',rfl⟩;rw [World.drewN_drewN];exact hL2 _) (hK _ ?_);clear hK K
   iterate 1 (quiet_step (fail))
   refine wpQuiet_nil ?_
   rintro _ ⟨nq,rfl⟩
   cases bq
   ·have HST:=hide (show decide (z∈L.take (j+1))=false from by
     have h1:=HALL.out;have h2:=HBQ.out;rw [decide_eq_false_iff_not] at h1 h2 ⊢;rw [List.take_add_one,HY.out,List.mem_append]
     rintro (h|h)
     ·exact h1 h
     ·exact h2 (by simp at h;exact h.symm))
    clear heq
    go_wp2
    go_roundw
    case rel=>exact ⟨j+1,_,by omega,by go_num,rfl,HST.out⟩
    case measure=>simp [intOf];omega
   ·have hmem:decide (z∈L)=true:=by
     have h2:=HBQ.out;rw [decide_eq_true_iff] at h2 ⊢;exact h2 ▸ List.mem_of_getElem? HY.out
    have HMEM:=hide hmem;clear heq hmem
    go_wp2
    go_ret
    rw [HMEM.out];exact BoolB.of (below_drewN (below_drewN HB.out _) _)
  ·obtain rfl:j=n:=by omega
   have hmem:decide (z∈L)=false:=by have:=HALL.out;rwa [List.take_of_length_le (by omega)] at this
   have HMEM:=hide hmem;clear hmem
   go_wp2
   go_ret
   rw [HMEM.out];exact BoolB.of (below_drewN HB.out _)
end Go.Proofs.YtggnbflbbfdohaaGreat

