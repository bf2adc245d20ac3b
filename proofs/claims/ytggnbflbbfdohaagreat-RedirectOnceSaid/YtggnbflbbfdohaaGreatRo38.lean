import Derived.Test.YtggnbflbbfdohaaGreatRo37
import Derived.Test.YtggnbflbbfdohaaGreatRo25
import Derived.Test.YtggnbflbbfdohaaGreatRo19
import Derived.Test.YtggnbflbbfdohaaGreatRo26
import Derived.Test.YtggnbflbbfdohaaGreatRo29

namespace Go.Proofs.YtggnbflbbfdohaaGreat
open Go.RowKit Go.Shelf Plain

theorem nods_size21:∀w,(Go.sizeOf 24).run Tryz.prog w=.ok 1 w:=fun w=>by kernel_rfl
theorem finC_one21 (x:FinV):∀v∈finC x,v.oneCell'=true:=by simp [finC,Value.oneCell']
theorem attC_one21 (a:AttV):∀v∈attC a,v.oneCell'=true:=by simp [attC,Value.oneCell']
theorem fin_get21 {w:World} {D:Nat→Prop} {A:Option Addr} {n k:Nat} {l:List FinV} {x:FinV} (h:RdE finEn w D A n l) (hx:l[k]?=some x) :
  ∃b o,A=some ⟨b,o,none⟩∧D b∧∀j v,(finC x)[j]?=some v→w.cell? ⟨b,o+k*4+j,none⟩=some v:=by
 have hk:=(List.getElem?_eq_some_iff.1 hx).1
 obtain ⟨b,o,e,hb,hc⟩:=h.2 (by rw [←h.1];omega)
 obtain ⟨cs,hR,hcs⟩:=hc k x hx
 obtain rfl:cs=finC x:=hR
 exact ⟨b,o,e,hb,fun j v hv=>by have h1:=hcs j v hv;rw [show finEn.k=4 from rfl,←Nat.add_assoc] at h1;exact h1⟩
set_option maxRecDepth 100000 in
set_option maxHeartbeats 1600000 in
theorem Onc1_any (x:FinV) {g:Nat} {i:Int} {b:Bool} (hb:(x.i==i)=b) (w:World) (hc:w.cell? ⟨g,2,none⟩=some (.int .i64 i)) (hg:g < w.heap.size):Calls Tryz.prog 30 #[.agg (finC x).toArray,.pointer (some ⟨g,0,none⟩)] w (BoolB w b):=by
 obtain ⟨W1,hW1⟩:∃W1,w.alloc (.cells (finC x).toArray 47)=W1:=⟨_,rfl⟩
 obtain ⟨r0,hb1,hs1⟩:=rowA1 w _ _ hW1
 have hW1':w.alloc (.cells #[.int .i64 x.c,.int .i64 x.l,.int .i64 x.i,.int .i64 x.s] 47)=W1:=hW1
 have HB:=hide hb1
 have q0:W1.cell? ⟨w.heap.size,2,none⟩=some (.int .i64 x.i):=r0.cell 2
 have q1:W1.cell? ⟨g,2,none⟩=some (.int .i64 i):=(hb1.cell (p:=⟨g,2,none⟩) hg).trans hc
 unfold finC
 clear hW1 r0 hb1 hc
 go_enter Tryz.func30,Tryz.ntmps30
 go_wp2_with fail
 go_ret
 first
 | exact BoolB.of HB.out
 | exact BoolB.eq (by simpa using hb) HB.out
set_option maxRecDepth 100000 in
set_option maxHeartbeats 1600000 in
theorem OncIdx_any {A:Option Addr} {n c:Nat} {gT:Nat} {l:List FinV} {p:FinV→Bool} (w:World) (h:RdE finEn w (Under w.heap.size) A n l) (hm:n≤1000000000) (hp:∀(W:World) (y:FinV),y∈l→Below w.heap.size w W→Calls Tryz.prog 30 #[.agg (finC y).toArray,.pointer (some ⟨gT,0,none⟩)] W (BoolB W (p y))) :
  Calls Tryz.prog 63 #[.slice A n c,.func (.func 30) #[] #[.pointer (some ⟨gT,0,none⟩)]] w (fun e w'=>∃r:Int,e=.returned (.int .i64 r)∧Below w.heap.size w w'∧((r = -1∧∀x∈l,p x=false)∨(0≤r∧∃x∈l,p x=true))):=by
 have H:=hide h
 have hn:=h.1
 have HP:=hide hp
 clear h hp
 go_enter Tryz.func63,Tryz.ntmps63
 go_wp2_with fail
 go_loopw [8] (fun iv wr=>∃j:Nat,j≤n∧iv=.int .i64 j∧Below w.heap.size w wr∧∀i x,i < j→l[i]?=some x→p x=false) (fun iv _=>n - (intOf iv).toNat)
 case atStart=>exact ⟨0,by omega,rfl,below_self _,fun i x hi=>by omega⟩
 case round =>
  obtain ⟨j,hj,rfl,hbr,hall⟩:=hrel
  have HBR:=hide hbr
  have HALL:=hide hall
  have hbs:=hbr.size
  clear hbr hall
  by_cases hlt:j < n
  ·obtain ⟨x,hx⟩:∃x,l[j]?=some x:=⟨_,List.getElem?_eq_getElem (by omega)⟩
   obtain ⟨b,o,rfl,-,hc⟩:=fin_get21 (H.out.on HBR.out) hx
   have HC:=hide hc
   have HX:=hide hx
   have hjn:(j:Int) < (n:Int):=by omega
   clear hc hx
   go_wp2_with (refine wpList_loadX rfl 47 (.tmp 14) rfl 4 fin_agg fin_size b (o+j*4) rfl (finC x) HC.out rfl ?_)
   obtain ⟨r,hr⟩:∃r,p x=r:=⟨_,rfl⟩
   have hcall:=HP.out wr x (List.mem_of_getElem? HX.out) HBR.out
   rw [hr] at hcall
   have HR:=hide hr
   clear hr
   refine hcall.mono ?_
   rintro e w3 ⟨rfl,hb3⟩
   have HB3:=hide (HBR.out.trans (hb3.mono hbs))
   clear hb3 hcall
   cases r with
   | true =>
    go_wp2_with fail
    go_ret
    exact ⟨(j:Int),rfl,HB3.out,.inr ⟨by omega,x,List.mem_of_getElem? HX.out,HR.out⟩⟩
   | false =>
    go_wp2_with fail
    go_roundw
    case rel=>exact ⟨j+1,by omega,by go_num,HB3.out,fun i y hi hy=>by
     by_cases e:i=j
     ·subst e
      have:=HX.out.symm.trans hy
      cases this
      exact HR.out
     ·exact HALL.out i y (by omega) hy⟩
    case measure=>simp [intOf];omega
  ·obtain rfl:j=n:=by omega
   go_wp2_with fail
   go_ret
   exact ⟨-1,rfl,HBR.out,.inl ⟨rfl,fun x hx=>by
    obtain ⟨i,hi,rfl⟩:=List.mem_iff_getElem.1 hx
    exact HALL.out i _ (by omega) (List.getElem?_eq_getElem hi)⟩⟩
set_option maxRecDepth 100000 in
theorem OncHas_any {A:Option Addr} {n c:Nat} {gT:Nat} {l:List FinV} {p:FinV→Bool} (w:World) (h:RdE finEn w (Under w.heap.size) A n l) (hm:n≤1000000000) (hp:∀(W:World) (y:FinV),y∈l→Below w.heap.size w W→Calls Tryz.prog 30 #[.agg (finC y).toArray,.pointer (some ⟨gT,0,none⟩)] W (BoolB W (p y))) :
  Calls Tryz.prog 29 #[.slice A n c,.func (.func 30) #[] #[.pointer (some ⟨gT,0,none⟩)]] w (BoolB w (l.any p)):=by
 have H:=hide h
 have HQ:=hide hp
 clear h hp
 go_enter Tryz.func29,Tryz.ntmps29
 go_wp2_with (go_at_call 63;refine (OncIdx_any w H.out hm HQ.out).mono ?_;rintro e w3 ⟨r,rfl,hb3,hp⟩;have HP:=hide hp;have HB3:=hide hb3;clear hp hb3)
 go_ret
 refine BoolB.eq ?_ HB3.out
 rcases HP.out with ⟨h1,h2⟩|⟨h1,ns,h2,h3⟩
 ·subst h1
  have:l.any p=false:=by rw [List.any_eq_false];exact fun x hx=>by rw [h2 x hx];simp
  rw [this]
  rfl
 ·have:l.any p=true:=List.any_eq_true.2 ⟨ns,h2,h3⟩
  rw [this]
  simpa using h1
theorem attputR {D:Nat→Prop} {w w':World} {base g n c i:Nat} {l:List NodV} {x:NodV} {a0:AttV} {cur:List Value} (h:OwD nodEn D w base 65 (some ⟨g,0,none⟩) n c l) (hx:l[i]?=some x) (hcur:RowL w g 65 cur) (hr:RowL w' g 65 (splice cur (i*13+6) (attC a0))) (hg:w.grownBy w' (some g)):OwD nodEn D w' base 65 (some ⟨g,0,none⟩) n c (l.set i {x with att:=a0}):=by
 have hi:i < n:=by have h1:=(List.getElem?_eq_some_iff.1 hx).1;have h2:=h.len;omega
 obtain ⟨cur',cs,hr',hR,htk,hlen⟩:=h.at hx
 have ecur:cur'=cur:=by
  have:=hr'.symm.trans hcur
  injection this with this
  injection this with this
  simpa using this
 subst ecur
 obtain ⟨A,a,b,C,d,e,h1,h2,h3,h4,h5⟩:=hR
 have h6:(cur'.drop (i*13)).take 6=[.int .i64 x.k,.int .i64 x.p,.int .i64 x.n,.int .i64 x.g,.slice A a b,.slice C d e]:=by
  have:=congrArg (List.take 6) htk
  rw [List.take_take,h1] at this
  exact this
 have hs:=splice_part (L:=cur') (p:=i*13) (a:=[.int .i64 x.k,.int .i64 x.p,.int .i64 x.n,.int .i64 x.g,.slice A a b,.slice C d e]) (b:=attC a0) h6
 rw [show i*13+[Value.int .i64 x.k,.int .i64 x.p,.int .i64 x.n,.int .i64 x.g,.slice A a b,.slice C d e].length=i*13+6 from rfl] at hs
 rw [hs] at hr
 exact h.put hi (show NodR w D (nodC ({x with att:=a0}:NodV) (.slice A a b) (.slice C d e)) ({x with att:=a0}:NodV) from ⟨A,a,b,C,d,e,rfl,h2,h3,h4,h5⟩) hcur hr hg
theorem and_two:∀n:Fin 32,0≤bits .andNot .i64 (n.1:Int) 2∧bits .andNot .i64 (n.1:Int) 2≤31∧bits .andNot .i64 (n.1:Int) 2 / 2 % 2=0:=by decide +kernel
theorem drop_two {h:Int} (h0:0≤h) (h1:h≤31):0≤bits .andNot .i64 h 2∧bits .andNot .i64 h 2≤31∧bits .andNot .i64 h 2 / 2 % 2=0:=by
 have h2:=and_two ⟨h.toNat,by omega⟩
 have e:((h.toNat:Nat):Int)=h:=by omega
 simp only [e] at h2
 exact h2
def noR (x:NodV):NodV:={x with att:=dropA x.att 2}
theorem noR_plain {x:NodV} (h:PlainN x):PlainN (noR x):=by
 obtain ⟨h1,h2,h3,h4,h5,h6,h7⟩:=h
 have h8:=drop_two h3.1 h3.2
 refine ⟨h1,h2,⟨h8.1,h8.2.1⟩,h4,h5,?_,h7⟩
 show (if bitI 2 1 then [] else x.att.r).length≤40
 split
 ·simp
 ·exact h6
theorem noR_has {x:NodV} (h:PlainN x):hasR (noR x)=false:=by
 have h8:=drop_two h.2.2.1.1 h.2.2.1.2
 show decide (bits .andNot .i64 x.att.h 2 / 2 % 2=1)=false
 rw [h8.2.2]
 rfl
theorem noR_few {up:List NodV} {m:Nat} {x:NodV} (h:FewU up) (hx:up[m]?=some x):FewU (up.set m (noR x)):=by
 refine ⟨by rw [List.length_set];exact h.1,fun y hy=>?_⟩
 rcases List.mem_or_eq_of_mem_set hy with h1|rfl
 ·exact h.2 y h1
 ·exact noR_plain (h.2 x (List.mem_of_getElem? hx))
theorem noR_not {up:List NodV} {ls:List (List NodV)} {m:Nat} {x:NodV} (h:FewU up) (hx:up[m]?=some x):(allR (up.set m (noR x)) ls).any (fun f=>f.i==(m:Int)+1)=false:=by
 rw [List.any_eq_false]
 intro f hf
 have hm:=(List.getElem?_eq_some_iff.1 hx).1
 have:=findR_not (up:=up.set m (noR x)) (j:=m) (x:=noR x) (by rw [List.getElem?_set_self hm]) (noR_has (h.2 x (List.mem_of_getElem? hx))) _ f hf
 simpa using this
set_option maxRecDepth 100000 in
set_option maxHeartbeats 16000000 in
theorem law_RedirectOnce {g:GeoQ} {AU AL:Option Addr} {nU cU nL cL:Nat} {up:List NodV} {ls:List (List NodV)} (w:World) (hu:RdE nodEn w (Under w.heap.size) AU nU up) (h:RdE layEn w (Under w.heap.size) AL nL ls) (hfu:FineN up) (hfl:∀ns∈ls,FineN ns) :
  Calls Tryz.prog 5 #[.agg (stkC g (.slice AU nU cU) (.slice AL nL cL)).toArray] w (LawOk w):=by
 obtain ⟨W1,hW1⟩:∃W1,(w.alloc (.cells (stkC g (.slice AU nU cU) (.slice AL nL cL)).toArray 29))=W1:=⟨_,rfl⟩
 obtain ⟨r0,hb1,hs1⟩:=rowA1 w _ _ hW1
 have hW1':(w.alloc (.cells #[.int .i64 g.a,.int .i64 g.b,.int .i64 g.c,.int .i64 g.d,.slice AU nU cU,.slice AL nL cL] 29))=W1:=hW1
 have R1:=hide r0
 have HB:=hide hb1
 have hsz0:=hb1.size
 have HU:=hide (hu.under hb1 (Nat.le_refl _))
 have HL:=hide (h.under hb1 (Nat.le_refl _))
 have HFN:=hide hfu
 have HFL:=hide hfl
 have q1_4:W1.cell? ⟨w.heap.size,4,none⟩=some (.slice AU nU cU):=R1.out.cell 4
 unfold stkC
 clear r0 hb1 hW1 hu h hfu hfl
 go_enter Tryz.func5,Tryz.ntmps5
 go_wp2_with (first|(refine wpList_loadW rfl 29 (.tmp 1) rfl 6 stk_agg stk_size (w.heap.size) 29 rfl (stkC g (.slice AU nU cU) (.slice AL nL cL)) R1.out rfl ?_))
 clear hW1'
 refine (PStackM_any (many:=12) (by omega) W1 (und_up HU.out (by omega)) (und_up HL.out (by omega)) HFN.out HFL.out).mono ?_
 rintro e w2 ⟨p,rfl,hb2,hq⟩
 have HQ:=hide hq
 clear q1_4
 replace HB:=hide (HB.out.trans (hb2.mono HB.out.size))
 replace R1:=hide (R1.out.on hb2)
 replace HU:=hide (HU.out.under hb2 (by omega))
 replace HL:=hide (HL.out.under hb2 (by omega))
 have hsz1:=hb2.size
 have q1_4:w2.cell? ⟨w.heap.size,4,none⟩=some (.slice AU nU cU):=R1.out.cell 4
 clear hq hb2
 cases p
 ·go_wp2_with (go_at_call 16;refine (awake21_any _).mono ?_;rintro e98 wz ⟨rfl,hbz⟩;replace HB:=hide (HB.out.trans (hbz.mono HB.out.size));clear hbz)
  go_ret
  exact LawOk.of HB.out
 obtain ⟨hF,hfew⟩:=HQ.out (by first|rfl|trivial)
 have HF:=hide hF
 have HFU:=hide (show FewU up from ⟨by have:=hfew.1;omega,hfew.2⟩)
 have hul:up.length=nU:=HU.out.1
 have hn24:nU≤24:=by have:=HFU.out.1;omega
 obtain ⟨rs,hrs⟩:∃rs,reachL up (walkW up [1]).1=rs:=⟨_,rfl⟩
 obtain ⟨R,hR⟩:∃R,allR up ls=R:=⟨_,rfl⟩
 obtain ⟨n5,hn5⟩:∃n5,R.length=n5:=⟨_,rfl⟩
 have hrl:rs.length=nU:=by rw [←hrs,reachL_len,hul]
 have h524:n5≤24:=by rw [←hn5,←hR];exact Nat.le_trans (findR_len _ _ _ _ _) (by omega)
 have HALL:=hide (fun (k:Nat) (f:FinV) (h:R[k]?=some f)=>show (9≤f.c∧f.c≤12)∧f.i≤(up.length:Int)∧(∃(j:Nat) (x:NodV),f.i=(j:Int)+1∧rs[j]?=some true∧up[j]?=some x∧hasR x=true)∧∀k' f',k' < k→R[k']?=some f'→f'.i < f.i from by
  rw [←hR] at h ⊢
  rw [←hrs]
  exact findR_all (l:=(walkW up [1]).1) (out:=outR up ls) (runR_in _) up.length k f h)
 have HRS:=hide hrs
 have HR:=hide hR
 have HN5:=hide hn5
 clear hF hfew HQ HFN HFL hrs hR hn5
 have hlit1:=fun W=>lit_one W
 go_wp2_with (first|(refine wpList_loadC rfl 26 (.tmp 13) rfl 1 lay_agg lay_size (w.heap.size) 4 29 rfl (stkC g (.slice AU nU cU) (.slice AL nL cL)) [.slice AU nU cU] R1.out rfl rfl ?_)|(go_at_call 25;refine (RReach_any _ (und_up (HU.out.under (below_new (below_self w2) (.cells #[.int .i64 1] 3)) (by omega)) (by simp;omega)) (one_row (RowL.new w2 3 [.int .i64 1])) (plain_many HFU.out.1 HFU.out.2).1 (by omega)).mono ?_;rintro e1 wR ⟨AR,nR,cR,rfl,-,hrd,hbel0,-⟩;have hbel:Below w2.heap.size w2 wR:=(below_new (below_self w2) (.cells #[.int .i64 1] 3)).trans (hbel0.mono (by simp));rw [HRS.out] at hrd;have HRD:=hide hrd;clear q1_4;replace HB:=hide (HB.out.trans (hbel.mono HB.out.size));replace R1:=hide (R1.out.on hbel);replace HU:=hide (HU.out.under hbel (by omega));replace HL:=hide (HL.out.under hbel (by omega));have hsz2:=hbel.size;have q1_4:wR.cell? ⟨w.heap.size,4,none⟩=some (.slice AU nU cU):=R1.out.cell 4;clear hrd hbel hbel0)|(refine wpList_loadW rfl 29 (.tmp 1) rfl 6 stk_agg stk_size (w.heap.size) 29 rfl (stkC g (.slice AU nU cU) (.slice AL nL cL)) R1.out rfl ?_)|(go_at_call 18;refine (RFinds21_p (B:=w.heap.size) HR.out HN5.out wR HU.out HL.out (by omega) HF.out HFU.out).mono ?_;rintro e3 wF ⟨A5,c5,rfl,h5,hbel⟩;clear q1_4;replace HB:=hide (HB.out.trans (hbel.mono HB.out.size));replace R1:=hide (R1.out.on hbel);replace HU:=hide (HU.out.under hbel (by omega));replace HL:=hide (HL.out.under hbel (by omega));replace HRD:=hide (HRD.out.below (hbel.mono (by omega)));have hsz4:=hbel.size;have q1_4:wF.cell? ⟨w.heap.size,4,none⟩=some (.slice AU nU cU):=R1.out.cell 4;have H5:=hide h5;clear h5;clear hbel))
 have hw2T:w2.heap.size≤wF.heap.size:=by omega
 have hnR:nU=nR:=by have h1:=HRD.out.1;omega
 subst hnR
 clear q1_4
 go_loopw [21] (fun v21 wr=>∃j:Nat,j≤n5∧v21=.int .i64 j∧Below wF.heap.size wF wr) (fun v21 _=>n5 - (intOf v21).toNat)
 case atStart=>exact ⟨0,by omega,rfl,Below.refl _ _⟩
 case round =>
  obtain ⟨j,hj,rfl,hbr⟩:=hrel
  have hbsz:=hbr.size
  have HBQ:=hide hbr
  by_cases hlt:j < n5
  ·replace R1:=hide (R1.out.on hbr)
   replace HU:=hide (HU.out.under hbr (by omega))
   replace HL:=hide (HL.out.under hbr (by omega))
   replace HRD:=hide (HRD.out.below (hbr.mono (by omega)))
   replace H5:=hide (H5.out.under hbr (by omega))
   obtain ⟨f,hfj⟩:∃f,R[j]?=some f:=⟨_,List.getElem?_eq_getElem (by have:=HN5.out;omega)⟩
   obtain ⟨⟨hc1,hc2⟩,hil,⟨m,x,hfi,hrm,hx,hRx⟩,hprev⟩:=HALL.out j f hfj
   obtain ⟨b5,o5,hA5,hb5,hc5⟩:=fin_get21 H5.out hfj
   have hb5l:b5 < wF.heap.size:=hb5
   obtain ⟨fc,fl,fi,fs⟩:=f
   simp only at hc1 hc2 hil hfi hprev
   subst hfi
   subst hA5
   have HCF:=hide hc5
   have hmU:m < nU:=by have:=(List.getElem?_eq_some_iff.1 hx).1;omega
   have hxp:PlainN x:=HFU.out.2 x (List.mem_of_getElem? hx)
   have hxh:=hxp.2.2.1
   obtain ⟨bR,oR,hAR⟩:=rd_some HRD.out (by omega)
   subst hAR
   have HX:=hide hx
   have HRX:=hide hRx
   have hin:(j:Int) < (n5:Int):=by omega
   have hmI:(m:Int) < (nU:Int):=by omega
   have hm1:¬((m:Int)+1 < 1):=by omega
   have hm2:¬((nU:Int) < (m:Int)+1):=by omega
   have hw1:IntKind.i64.wrap ((m:Int)+1 - 1)=(m:Int):=by rw [show (m:Int)+1 - 1=(m:Int) from by omega];exact IntWalk.i64_in _ (by omega)
   have hwm:IntKind.i64.wrap (m:Int)=(m:Int):=IntWalk.i64_in _ (by omega)
   have hcc1:¬(fc < 9):=by omega
   have hcc2:¬(12 < fc):=by omega
   clear hx hRx hxp hbr hil
   go_upto_region 8 with (first|(refine wpList_loadX rfl 47 (.tmp 24) rfl 4 fin_agg fin_size b5 (o5+j*4) rfl (finC ⟨fc,fl,(m:Int)+1,fs⟩) HCF.out rfl ?_)|(refine wpList_storeW rfl 47 (.tmp 6) (.tmp 25) rfl 4 fin_size (wr.heap.size) 47 rfl [.int .i64 0,.int .i64 0,.int .i64 0,.int .i64 0] (finC ⟨fc,fl,(m:Int)+1,fs⟩) rfl (RowL.new wr 47 [.int .i64 0,.int .i64 0,.int .i64 0,.int .i64 0]) rfl rfl (finC_one21 _) ?_;intro wS121 hr121 hg121 hs121;have hzb:=below_stored' hg121;replace HBQ:=hide (HBQ.out.trans (hzb.mono (by omega)));replace R1:=hide (R1.out.on hzb);replace HU:=hide (HU.out.under hzb (by omega));replace HL:=hide (HL.out.under hzb (by omega));replace HRD:=hide (HRD.out.below (hzb.mono (by omega)));replace H5:=hide (H5.out.under hzb (by omega));have hsz122:=hzb.size;have R6:=hide hr121;have hlt121:=hr121.lt;have q6_2:wS121.cell? ⟨wr.heap.size,2,none⟩=some (.int .i64 ((m:Int)+1)):=R6.out.cell 2;have q6_0:wS121.cell? ⟨wr.heap.size,0,none⟩=some (.int .i64 fc):=R6.out.cell 0;clear hzb hr121;clear hg121 hs121))
   have hreg:∀(Q:Prop),Q→Q:=fun _ h=>h
   by_cases hj0:j=0
   ·have hjd:decide (0 < j)=false:=decide_eq_false (by omega)
    clear hprev hreg
    refine wp_region_planN (fun w'=>Below wS121.heap.size wS121 w') [(0,true),(1,true),(2,true),(3,true),(4,true),(5,true),(6,true),(7,true),(8,true),(9,true),(10,true),(11,true),(12,true),(13,true),(14,true),(15,true),(16,true),(17,true),(18,true),(19,true),(20,true),(21,true),(22,true),(23,true),(24,true),(25,true),(26,true),(27,true),(28,true),(29,true),(30,true),(31,true),(32,true),(33,true),(34,true),(35,true),(36,true),(37,true),(38,true),(39,true),(40,true),(41,true),(42,true),(43,true)] (by kernel_rfl) (by kernel_rfl) (by kernel_rfl) (by kernel_rfl) rfl (fun _ _ _ _ _ h=>h) (below_drew (below_self wS121)) (fun hHeld=>?_)
    simp only [planOps,List.filterMap_cons,List.filterMap_nil,List.getElem?_toArray,List.getElem?_cons_succ,List.getElem?_cons_zero,Option.map_some]
    refine wpPlan_take (v:=?_) (by kernel_rfl) (fun wS hSw=>?_) ?_
    rotate_left
    ·(try dsimp only at hSw);go_simp;(try with_reducible rfl)
    (try simp only [Act.put,pu1,pu2,pu3])
    refine wpPlan_take (v:=?_) (by kernel_rfl) (fun wS hSw=>?_) ?_
    rotate_left
    ·have qx:=((R6.out.on hSw).cell 2).trans (show (finC ⟨fc,fl,(m:Int)+1,fs⟩)[2]?=some (.int .i64 ((m:Int)+1)) from rfl);go_simp;(try with_reducible rfl)
    (try simp only [Act.put,pu1,pu2,pu3])
    iterate 3
     refine wpPlan_take (v:=?_) (by kernel_rfl) (fun wS hSw=>?_) ?_
     rotate_left
     ·(try dsimp only at hSw);go_simp;(try with_reducible rfl)
     (try simp only [Act.put,pu1,pu2,pu3])
    refine wpPlan_take (v:=?_) (by kernel_rfl) (fun wS hSw=>?_) ?_
    rotate_left
    ·have qx:=((R6.out.on hSw).cell 2).trans (show (finC ⟨fc,fl,(m:Int)+1,fs⟩)[2]?=some (.int .i64 ((m:Int)+1)) from rfl);go_simp;(try with_reducible rfl)
    (try simp only [Act.put,pu1,pu2,pu3])
    iterate 7
     refine wpPlan_take (v:=?_) (by kernel_rfl) (fun wS hSw=>?_) ?_
     rotate_left
     ·(try dsimp only at hSw);go_simp;(try with_reducible rfl)
     (try simp only [Act.put,pu1,pu2,pu3])
    refine wpPlan_take (v:=?_) (by kernel_rfl) (fun wS hSw=>?_) ?_
    rotate_left
    ·have qx:=((R6.out.on hSw).cell 2).trans (show (finC ⟨fc,fl,(m:Int)+1,fs⟩)[2]?=some (.int .i64 ((m:Int)+1)) from rfl);go_simp;(try with_reducible rfl)
    (try simp only [Act.put,pu1,pu2,pu3])
    iterate 2
     refine wpPlan_take (v:=?_) (by kernel_rfl) (fun wS hSw=>?_) ?_
     rotate_left
     ·(try dsimp only at hSw);go_simp;(try with_reducible rfl)
     (try simp only [Act.put,pu1,pu2,pu3])
    refine wpPlan_take (v:=?_) (by kernel_rfl) (fun wS hSw=>?_) ?_
    rotate_left
    ·have qx:=rd_cell (HRD.out.below (hSw.mono (by omega))) hrm;go_simp;(try with_reducible rfl)
    (try simp only [Act.put,pu1,pu2,pu3])
    iterate 4
     refine wpPlan_take (v:=?_) (by kernel_rfl) (fun wS hSw=>?_) ?_
     rotate_left
     ·(try dsimp only at hSw);go_simp;(try with_reducible rfl)
     (try simp only [Act.put,pu1,pu2,pu3])
    refine wpPlan_take (v:=?_) (by kernel_rfl) (fun wS hSw=>?_) ?_
    rotate_left
    ·(try dsimp only at hSw);go_simp;(try simp only [hjd]);(try with_reducible rfl)
    (try simp only [Act.put,pu1,pu2,pu3])
    refine wpPlan_take (v:=?_) (by kernel_rfl) (fun wS hSw=>?_) ?_
    rotate_left
    ·(try dsimp only at hSw);go_simp;(try with_reducible rfl)
    (try simp only [Act.put,pu1,pu2,pu3])
    refine wpPlan_skip (by kernel_rfl) ?_
    (try simp only [Act.put,pu1,pu2,pu3])
    refine wpPlan_skip (by kernel_rfl) ?_
    (try simp only [Act.put,pu1,pu2,pu3])
    refine wpPlan_skip (by kernel_rfl) ?_
    (try simp only [Act.put,pu1,pu2,pu3])
    refine wpPlan_skip (by kernel_rfl) ?_
    (try simp only [Act.put,pu1,pu2,pu3])
    refine wpPlan_skip (by kernel_rfl) ?_
    (try simp only [Act.put,pu1,pu2,pu3])
    refine wpPlan_skip (by kernel_rfl) ?_
    (try simp only [Act.put,pu1,pu2,pu3])
    refine wpPlan_skip (by kernel_rfl) ?_
    (try simp only [Act.put,pu1,pu2,pu3])
    refine wpPlan_skip (by kernel_rfl) ?_
    (try simp only [Act.put,pu1,pu2,pu3])
    refine wpPlan_skip (by kernel_rfl) ?_
    (try simp only [Act.put,pu1,pu2,pu3])
    iterate 4
     refine wpPlan_take (v:=?_) (by kernel_rfl) (fun wS hSw=>?_) ?_
     rotate_left
     ·(try dsimp only at hSw);go_simp;(try with_reducible rfl)
     (try simp only [Act.put,pu1,pu2,pu3])
    refine wpPlan_take (v:=?_) (by kernel_rfl) (fun wS hSw=>?_) ?_
    rotate_left
    ·have qx:=((R6.out.on hSw).cell 0).trans (show (finC ⟨fc,fl,(m:Int)+1,fs⟩)[0]?=some (.int .i64 fc) from rfl);go_simp;(try with_reducible rfl)
    (try simp only [Act.put,pu1,pu2,pu3])
    iterate 4
     refine wpPlan_take (v:=?_) (by kernel_rfl) (fun wS hSw=>?_) ?_
     rotate_left
     ·(try dsimp only at hSw);go_simp;(try with_reducible rfl)
     (try simp only [Act.put,pu1,pu2,pu3])
    refine wpPlan_take (v:=?_) (by kernel_rfl) (fun wS hSw=>?_) ?_
    rotate_left
    ·have qx:=((R6.out.on hSw).cell 0).trans (show (finC ⟨fc,fl,(m:Int)+1,fs⟩)[0]?=some (.int .i64 fc) from rfl);go_simp;(try with_reducible rfl)
    (try simp only [Act.put,pu1,pu2,pu3])
    iterate 2
     refine wpPlan_take (v:=?_) (by kernel_rfl) (fun wS hSw=>?_) ?_
     rotate_left
     ·(try dsimp only at hSw);go_simp;(try with_reducible rfl)
     (try simp only [Act.put,pu1,pu2,pu3])
    refine wpPlan_end ?_
    generalize wS121.drew=wH at hHeld ⊢
    clear q6_2 q6_0
    replace HBQ:=hide (HBQ.out.trans (hHeld.mono (by omega)))
    replace R1:=hide (R1.out.on hHeld)
    replace HU:=hide (HU.out.under hHeld (by omega))
    replace HL:=hide (HL.out.under hHeld (by omega))
    replace H5:=hide (H5.out.under hHeld (by omega))
    replace R6:=hide (R6.out.on hHeld)
    have hsz123:=hHeld.size
    have q6_2:wH.cell? ⟨wr.heap.size,2,none⟩=some (.int .i64 ((m:Int)+1)):=R6.out.cell 2
    have q6_0:wH.cell? ⟨wr.heap.size,0,none⟩=some (.int .i64 fc):=R6.out.cell 0
    have q1_4:wH.cell? ⟨w.heap.size,4,none⟩=some (.slice AU nU cU):=R1.out.cell 4
    clear hHeld
    go_upto_region 12 with (first|(refine wpList_loadW rfl 29 (.tmp 1) rfl 6 stk_agg stk_size (w.heap.size) 29 rfl (stkC g (.slice AU nU cU) (.slice AL nL cL)) R1.out rfl ?_)|(refine wpList_storeW rfl 29 (.tmp 7) (.tmp 70) rfl 6 stk_size (wH.heap.size) 29 rfl (stkC ⟨0,0,0,0⟩ (.slice none 0 0) (.slice none 0 0)) (stkC g (.slice AU nU cU) (.slice AL nL cL)) rfl (RowL.new wH 29 (stkC ⟨0,0,0,0⟩ (.slice none 0 0) (.slice none 0 0))) rfl rfl (stkC_one _ _ _ _ _ _ _) ?_;intro wS124 hr124 hg124 hs124;have hzb:=below_stored' hg124;clear q1_4 q6_2 q6_0;replace HBQ:=hide (HBQ.out.trans (hzb.mono (by omega)));replace R1:=hide (R1.out.on hzb);replace HU:=hide (HU.out.under hzb (by omega));replace HL:=hide (HL.out.under hzb (by omega));replace H5:=hide (H5.out.under hzb (by omega));replace R6:=hide (R6.out.on hzb);have hsz125:=hzb.size;have q1_4:wS124.cell? ⟨w.heap.size,4,none⟩=some (.slice AU nU cU):=R1.out.cell 4;have q6_2:wS124.cell? ⟨wr.heap.size,2,none⟩=some (.int .i64 ((m:Int)+1)):=R6.out.cell 2;have q6_0:wS124.cell? ⟨wr.heap.size,0,none⟩=some (.int .i64 fc):=R6.out.cell 0;have R7:=hide hr124;have hlt124:=hr124.lt;have q7_4:wS124.cell? ⟨wH.heap.size,4,none⟩=some (.slice AU nU cU):=R7.out.cell 4;clear hzb hr124;clear hg124 hs124)|(go_at_call 26;refine (CloneNod_d (B:=w.heap.size) wS124 HU.out (by omega) (by omega)).mono ?_;rintro e126 wC ⟨A8,c8,rfl,h8,hbel⟩;clear q1_4 q6_2 q6_0 q7_4;replace HBQ:=hide (HBQ.out.trans (hbel.mono (by omega)));replace R1:=hide (R1.out.on hbel);replace HU:=hide (HU.out.under hbel (by omega));replace HL:=hide (HL.out.under hbel (by omega));replace H5:=hide (H5.out.under hbel (by omega));replace R6:=hide (R6.out.on hbel);replace R7:=hide (R7.out.on hbel);have hsz127:=hbel.size;have q1_4:wC.cell? ⟨w.heap.size,4,none⟩=some (.slice AU nU cU):=R1.out.cell 4;have q6_2:wC.cell? ⟨wr.heap.size,2,none⟩=some (.int .i64 ((m:Int)+1)):=R6.out.cell 2;have q6_0:wC.cell? ⟨wr.heap.size,0,none⟩=some (.int .i64 fc):=R6.out.cell 0;have q7_4:wC.cell? ⟨wH.heap.size,4,none⟩=some (.slice AU nU cU):=R7.out.cell 4;have H8:=hide h8;clear h8;clear hbel)|(refine wpList_storeV rfl 24 (.tmp 76) (.tmp 74) rfl nods_size21 (wH.heap.size) 4 29 rfl (.slice A8 nU c8) rfl rfl rfl (stkC g (.slice AU nU cU) (.slice AL nL cL)) R7.out (by show 4 < 6;omega) ?_;intro wS128 hr128 hg128 hs128;replace hr128:RowL wS128 (wH.heap.size) 29 [.int .i64 g.a,.int .i64 g.b,.int .i64 g.c,.int .i64 g.d,.slice A8 nU c8,.slice AL nL cL]:=hr128;clear q1_4 q6_2 q6_0 q7_4;replace HBQ:=hide (HBQ.out.grown hg128 (by omega) (pu4 (by omega)));replace R1:=hide (R1.out.grown hg128 (pu5 (by omega)));replace HU:=hide (und_grown HU.out hg128 (by omega) (by omega));replace HL:=hide (und_grown HL.out hg128 (by omega) (by omega));replace H5:=hide (und_grown H5.out hg128 (by omega) (by omega));replace R6:=hide (R6.out.grown hg128 (pu5 (by omega)));replace H8:=hide (H8.out.grown hg128 (fun k hk=>by have:=Option.some.inj hk;subst this;exact ⟨by unfold Under;omega,fun a ha=>by have:=H8.out.base8 a ha;omega⟩));have hsz129:=hg128.size;replace R7:=hide hr128;have q1_4:wS128.cell? ⟨w.heap.size,4,none⟩=some (.slice AU nU cU):=R1.out.cell 4;have q6_2:wS128.cell? ⟨wr.heap.size,2,none⟩=some (.int .i64 ((m:Int)+1)):=R6.out.cell 2;have q6_0:wS128.cell? ⟨wr.heap.size,0,none⟩=some (.int .i64 fc):=R6.out.cell 0;have q7_4:wS128.cell? ⟨wH.heap.size,4,none⟩=some (.slice A8 nU c8):=R7.out.cell 4;clear hr128 hg128 hs128))
    obtain ⟨g8,hA8,hg8,hg8l⟩:=H8.out.some_ (by omega)
    subst hA8
    obtain ⟨cur,cs,hcur,hRn,htk,hlen⟩:=H8.out.at HX.out
    obtain ⟨A0,n0,k0,C0,m0,d0,rfl,-⟩:=hRn
    have hlen':m*13+13≤cur.length:=hlen
    have HCUR:=hide hcur
    have HCA:=hide (fun k v (hv:(attC x.att)[k]?=some v)=>show wS128.cell? ⟨g8,m*13+6+k,none⟩=some v from by rw [show m*13+6+k=m*13+(k+6) from by omega];exact (hcur.cell (m*13+(k+6))).trans (sub_cell (cs:=nodC x (.slice A0 n0 k0) (.slice C0 m0 d0)) (k:=13) htk (show (nodC x (.slice A0 n0 k0) (.slice C0 m0 d0))[k+6]?=some v from hv)))
    clear hcur htk hlen
    go_upto_region 16 with (first|(refine wpList_loadX rfl 63 (.tmp 86) rfl 7 att_agg att_size g8 (m*13+6) rfl (attC x.att) HCA.out rfl ?_)|(go_at_call 27;refine (RHas2_b hxh.1 hxh.2 HRX.out wS128).mono ?_;rintro e130 wHs ⟨rfl,hbel⟩;clear q1_4 q6_2 q6_0 q7_4;replace HBQ:=hide (HBQ.out.trans (hbel.mono (by omega)));replace R1:=hide (R1.out.on hbel);replace HU:=hide (HU.out.under hbel (by omega));replace HL:=hide (HL.out.under hbel (by omega));replace H5:=hide (H5.out.under hbel (by omega));replace R6:=hide (R6.out.on hbel);replace R7:=hide (R7.out.on hbel);replace H8:=hide (H8.out.grown (grown_below hbel) (by simp));replace HCUR:=hide (HCUR.out.on hbel);replace HCA:=hide ((fun k v hv=>(hbel.cell (p:=⟨g8,m*13+6+k,none⟩) (by show g8 < _;omega)).trans (HCA.out k v hv)));have hsz131:=hbel.size;have q1_4:wHs.cell? ⟨w.heap.size,4,none⟩=some (.slice AU nU cU):=R1.out.cell 4;have q6_2:wHs.cell? ⟨wr.heap.size,2,none⟩=some (.int .i64 ((m:Int)+1)):=R6.out.cell 2;have q6_0:wHs.cell? ⟨wr.heap.size,0,none⟩=some (.int .i64 fc):=R6.out.cell 0;have q7_4:wHs.cell? ⟨wH.heap.size,4,none⟩=some (.slice (some ⟨g8,0,none⟩) nU c8):=R7.out.cell 4;clear hbel)|(refine wpList_loadX rfl 63 (.tmp 93) rfl 7 att_agg att_size g8 (m*13+6) rfl (attC x.att) HCA.out rfl ?_)|(go_at_call 28;refine (RDrop_any x.att 2 (by omega) wHs rfl).mono ?_;rintro e132 wDr ⟨rfl,hbel⟩;clear q1_4 q6_2 q6_0 q7_4;replace HBQ:=hide (HBQ.out.trans (hbel.mono (by omega)));replace R1:=hide (R1.out.on hbel);replace HU:=hide (HU.out.under hbel (by omega));replace HL:=hide (HL.out.under hbel (by omega));replace H5:=hide (H5.out.under hbel (by omega));replace R6:=hide (R6.out.on hbel);replace R7:=hide (R7.out.on hbel);replace H8:=hide (H8.out.grown (grown_below hbel) (by simp));replace HCUR:=hide (HCUR.out.on hbel);replace HCA:=hide ((fun k v hv=>(hbel.cell (p:=⟨g8,m*13+6+k,none⟩) (by show g8 < _;omega)).trans (HCA.out k v hv)));have hsz133:=hbel.size;have q1_4:wDr.cell? ⟨w.heap.size,4,none⟩=some (.slice AU nU cU):=R1.out.cell 4;have q6_2:wDr.cell? ⟨wr.heap.size,2,none⟩=some (.int .i64 ((m:Int)+1)):=R6.out.cell 2;have q6_0:wDr.cell? ⟨wr.heap.size,0,none⟩=some (.int .i64 fc):=R6.out.cell 0;have q7_4:wDr.cell? ⟨wH.heap.size,4,none⟩=some (.slice (some ⟨g8,0,none⟩) nU c8):=R7.out.cell 4;clear hbel)|(refine wpList_storeC rfl 63 (.tmp 97) (.tmp 95) rfl 7 att_size g8 (m*13+6) 65 rfl cur (attC (dropA x.att 2)) rfl HCUR.out rfl (by omega) (attC_one21 _) ?_;intro w7 hr7 hg7 hs7;have HP:=hide (attputR H8.out HX.out HCUR.out hr7 hg7);clear q1_4 q6_2 q6_0 q7_4;replace HBQ:=hide (HBQ.out.grown hg7 (by omega) (pu4 (by omega)));replace R1:=hide (R1.out.grown hg7 (pu5 (by omega)));replace HU:=hide (und_grown HU.out hg7 (by omega) (by omega));replace HL:=hide (und_grown HL.out hg7 (by omega) (by omega));replace H5:=hide (und_grown H5.out hg7 (by omega) (by omega));replace R6:=hide (R6.out.grown hg7 (pu5 (by omega)));replace R7:=hide (R7.out.grown hg7 (pu5 (by omega)));have hsz134:=hg7.size;clear hr7 hg7 hs7 HCUR HCA H8;have q1_4:w7.cell? ⟨w.heap.size,4,none⟩=some (.slice AU nU cU):=R1.out.cell 4;have q6_2:w7.cell? ⟨wr.heap.size,2,none⟩=some (.int .i64 ((m:Int)+1)):=R6.out.cell 2;have q6_0:w7.cell? ⟨wr.heap.size,0,none⟩=some (.int .i64 fc):=R6.out.cell 0;have q7_4:w7.cell? ⟨wH.heap.size,4,none⟩=some (.slice (some ⟨g8,0,none⟩) nU c8):=R7.out.cell 4))
    obtain ⟨R9,hR9⟩:∃R9,allR (up.set m (noR x)) ls=R9:=⟨_,rfl⟩
    obtain ⟨n9,hn9⟩:∃n9,R9.length=n9:=⟨_,rfl⟩
    have HNT:=hide (show R9.any (fun f=>f.i==(m:Int)+1)=false from by rw [←hR9];exact noR_not HFU.out HX.out)
    have hn924:n9≤24:=by rw [←hn9,←hR9];exact Nat.le_trans (findR_len _ _ _ _ _) (by rw [List.length_set];omega)
    have HFU9:=hide (noR_few HFU.out HX.out)
    have HR9:=hide hR9
    have HN9:=hide hn9
    have HUP:=hide (show RdE nodEn w7 (Under w7.heap.size) (some ⟨g8,0,none⟩) nU (up.set m (noR x)) from HP.out.rd)
    clear hR9 hn9 HP
    go_wp2_with (first|(refine wpList_loadW rfl 29 (.tmp 7) rfl 6 stk_agg stk_size (wH.heap.size) 29 rfl [.int .i64 g.a,.int .i64 g.b,.int .i64 g.c,.int .i64 g.d,.slice (some ⟨g8,0,none⟩) nU c8,.slice AL nL cL] R7.out rfl ?_)|(go_at_call 18;refine (RFinds21_p (B:=w7.heap.size) HR9.out HN9.out w7 HUP.out (und_up HL.out (by omega)) (Nat.le_refl _) HF.out HFU9.out).mono ?_;rintro e135 wF9 ⟨A9,c9,rfl,h9,hbel⟩;clear q1_4 q6_2 q6_0 q7_4;replace HBQ:=hide (HBQ.out.trans (hbel.mono (by omega)));replace R1:=hide (R1.out.on hbel);replace HU:=hide (HU.out.under hbel (by omega));replace HL:=hide (HL.out.under hbel (by omega));replace H5:=hide (H5.out.under hbel (by omega));replace R6:=hide (R6.out.on hbel);replace R7:=hide (R7.out.on hbel);have hsz136:=hbel.size;have q1_4:wF9.cell? ⟨w.heap.size,4,none⟩=some (.slice AU nU cU):=R1.out.cell 4;have q6_2:wF9.cell? ⟨wr.heap.size,2,none⟩=some (.int .i64 ((m:Int)+1)):=R6.out.cell 2;have q6_0:wF9.cell? ⟨wr.heap.size,0,none⟩=some (.int .i64 fc):=R6.out.cell 0;have q7_4:wF9.cell? ⟨wH.heap.size,4,none⟩=some (.slice (some ⟨g8,0,none⟩) nU c8):=R7.out.cell 4;have H9:=hide h9;clear h9;clear hbel)|(go_at_call 29;have hcon:=OncHas_any (c:=c9) (gT:=wr.heap.size) (p:=fun f=>f.i==(m:Int)+1) wF9 H9.out (by omega) (fun W2 y hy hb=>Onc1_any y rfl W2 ((hb.cell (p:=⟨wr.heap.size,2,none⟩) (by show wr.heap.size < _;omega)).trans (R6.out.cell 2)) (by have:=hb.size;omega));rw [HNT.out] at hcon;refine hcon.mono ?_;rintro e8 wK ⟨rfl,hbel⟩;clear hcon;clear q1_4 q6_2 q6_0 q7_4;replace HBQ:=hide (HBQ.out.trans (hbel.mono (by omega)));replace R1:=hide (R1.out.on hbel);replace HU:=hide (HU.out.under hbel (by omega));replace HL:=hide (HL.out.under hbel (by omega));replace H5:=hide (H5.out.under hbel (by omega));replace R6:=hide (R6.out.on hbel);replace R7:=hide (R7.out.on hbel);replace H9:=hide (H9.out.under hbel (by omega));have hsz137:=hbel.size;have q1_4:wK.cell? ⟨w.heap.size,4,none⟩=some (.slice AU nU cU):=R1.out.cell 4;have q6_2:wK.cell? ⟨wr.heap.size,2,none⟩=some (.int .i64 ((m:Int)+1)):=R6.out.cell 2;have q6_0:wK.cell? ⟨wr.heap.size,0,none⟩=some (.int .i64 fc):=R6.out.cell 0;have q7_4:wK.cell? ⟨wH.heap.size,4,none⟩=some (.slice (some ⟨g8,0,none⟩) nU c8):=R7.out.cell 4;clear hbel))
    go_roundw
    case rel=>exact ⟨j+1,by omega,by go_num,HBQ.out⟩
    case measure=>simp [intOf];omega
   ·obtain ⟨p,hp⟩:∃p,R[j - 1]?=some p:=⟨_,List.getElem?_eq_getElem (by have:=HN5.out;omega)⟩
    have hpf:=hprev (j - 1) p (by omega) hp
    have hpf2:¬((m:Int)+1≤p.i):=by omega
    have HQP:=hide (show wS121.cell? ⟨b5,o5+(j - 1)*4+2,none⟩=some (.int .i64 p.i) from by
     obtain ⟨b6,o6,hA6,-,hc6⟩:=fin_get21 H5.out hp
     cases hA6
     exact hc6 2 _ rfl)
    have hjd:decide (0 < j)=true:=decide_eq_true (by omega)
    have hw3:IntKind.i64.wrap ((j:Int) - 1)=((j - 1:Nat):Int):=by rw [show (j:Int) - 1=((j - 1:Nat):Int) from by omega];exact IntWalk.i64_in _ (by omega)
    have hj2:((j - 1:Nat):Int) < (n5:Int):=by omega
    have hw4:IntKind.i64.wrap ((j - 1:Nat):Int)=((j - 1:Nat):Int):=IntWalk.i64_in _ (by omega)
    clear hprev hp hpf hreg
    refine wp_region_planN (fun w'=>Below wS121.heap.size wS121 w') [(0,true),(1,true),(2,true),(3,true),(4,true),(5,true),(6,true),(7,true),(8,true),(9,true),(10,true),(11,true),(12,true),(13,true),(14,true),(15,true),(16,true),(17,true),(18,true),(19,true),(20,true),(21,true),(22,true),(23,true),(24,true),(25,true),(26,true),(27,true),(28,true),(29,true),(30,true),(31,true),(32,true),(33,true),(34,true),(35,true),(36,true),(37,true),(38,true),(39,true),(40,true),(41,true),(42,true),(43,true)] (by kernel_rfl) (by kernel_rfl) (by kernel_rfl) (by kernel_rfl) rfl (fun _ _ _ _ _ h=>h) (below_drew (below_self wS121)) (fun hHeld=>?_)
    simp only [planOps,List.filterMap_cons,List.filterMap_nil,List.getElem?_toArray,List.getElem?_cons_succ,List.getElem?_cons_zero,Option.map_some]
    refine wpPlan_take (v:=?_) (by kernel_rfl) (fun wS hSw=>?_) ?_
    rotate_left
    ·(try dsimp only at hSw);go_simp;(try with_reducible rfl)
    (try simp only [Act.put,pu1,pu2,pu3])
    refine wpPlan_take (v:=?_) (by kernel_rfl) (fun wS hSw=>?_) ?_
    rotate_left
    ·have qx:=((R6.out.on hSw).cell 2).trans (show (finC ⟨fc,fl,(m:Int)+1,fs⟩)[2]?=some (.int .i64 ((m:Int)+1)) from rfl);go_simp;(try with_reducible rfl)
    (try simp only [Act.put,pu1,pu2,pu3])
    iterate 3
     refine wpPlan_take (v:=?_) (by kernel_rfl) (fun wS hSw=>?_) ?_
     rotate_left
     ·(try dsimp only at hSw);go_simp;(try with_reducible rfl)
     (try simp only [Act.put,pu1,pu2,pu3])
    refine wpPlan_take (v:=?_) (by kernel_rfl) (fun wS hSw=>?_) ?_
    rotate_left
    ·have qx:=((R6.out.on hSw).cell 2).trans (show (finC ⟨fc,fl,(m:Int)+1,fs⟩)[2]?=some (.int .i64 ((m:Int)+1)) from rfl);go_simp;(try with_reducible rfl)
    (try simp only [Act.put,pu1,pu2,pu3])
    iterate 7
     refine wpPlan_take (v:=?_) (by kernel_rfl) (fun wS hSw=>?_) ?_
     rotate_left
     ·(try dsimp only at hSw);go_simp;(try with_reducible rfl)
     (try simp only [Act.put,pu1,pu2,pu3])
    refine wpPlan_take (v:=?_) (by kernel_rfl) (fun wS hSw=>?_) ?_
    rotate_left
    ·have qx:=((R6.out.on hSw).cell 2).trans (show (finC ⟨fc,fl,(m:Int)+1,fs⟩)[2]?=some (.int .i64 ((m:Int)+1)) from rfl);go_simp;(try with_reducible rfl)
    (try simp only [Act.put,pu1,pu2,pu3])
    iterate 2
     refine wpPlan_take (v:=?_) (by kernel_rfl) (fun wS hSw=>?_) ?_
     rotate_left
     ·(try dsimp only at hSw);go_simp;(try with_reducible rfl)
     (try simp only [Act.put,pu1,pu2,pu3])
    refine wpPlan_take (v:=?_) (by kernel_rfl) (fun wS hSw=>?_) ?_
    rotate_left
    ·have qx:=rd_cell (HRD.out.below (hSw.mono (by omega))) hrm;go_simp;(try with_reducible rfl)
    (try simp only [Act.put,pu1,pu2,pu3])
    iterate 4
     refine wpPlan_take (v:=?_) (by kernel_rfl) (fun wS hSw=>?_) ?_
     rotate_left
     ·(try dsimp only at hSw);go_simp;(try with_reducible rfl)
     (try simp only [Act.put,pu1,pu2,pu3])
    refine wpPlan_take (v:=?_) (by kernel_rfl) (fun wS hSw=>?_) ?_
    rotate_left
    ·(try dsimp only at hSw);go_simp;(try simp only [hjd]);(try with_reducible rfl)
    (try simp only [Act.put,pu1,pu2,pu3])
    iterate 6
     refine wpPlan_take (v:=?_) (by kernel_rfl) (fun wS hSw=>?_) ?_
     rotate_left
     ·(try dsimp only at hSw);go_simp;(try with_reducible rfl)
     (try simp only [Act.put,pu1,pu2,pu3])
    refine wpPlan_take (v:=?_) (by kernel_rfl) (fun wS hSw=>?_) ?_
    rotate_left
    ·have qx:=(hSw.cell (p:=⟨b5,o5+(j - 1)*4+2,none⟩) (by show b5 < _;omega)).trans HQP.out;go_simp;(try with_reducible rfl)
    (try simp only [Act.put,pu1,pu2,pu3])
    refine wpPlan_take (v:=?_) (by kernel_rfl) (fun wS hSw=>?_) ?_
    rotate_left
    ·(try dsimp only at hSw);go_simp;(try with_reducible rfl)
    (try simp only [Act.put,pu1,pu2,pu3])
    refine wpPlan_take (v:=?_) (by kernel_rfl) (fun wS hSw=>?_) ?_
    rotate_left
    ·have qx:=((R6.out.on hSw).cell 2).trans (show (finC ⟨fc,fl,(m:Int)+1,fs⟩)[2]?=some (.int .i64 ((m:Int)+1)) from rfl);go_simp;(try with_reducible rfl)
    (try simp only [Act.put,pu1,pu2,pu3])
    iterate 5
     refine wpPlan_take (v:=?_) (by kernel_rfl) (fun wS hSw=>?_) ?_
     rotate_left
     ·(try dsimp only at hSw);go_simp;(try with_reducible rfl)
     (try simp only [Act.put,pu1,pu2,pu3])
    refine wpPlan_take (v:=?_) (by kernel_rfl) (fun wS hSw=>?_) ?_
    rotate_left
    ·have qx:=((R6.out.on hSw).cell 0).trans (show (finC ⟨fc,fl,(m:Int)+1,fs⟩)[0]?=some (.int .i64 fc) from rfl);go_simp;(try with_reducible rfl)
    (try simp only [Act.put,pu1,pu2,pu3])
    iterate 4
     refine wpPlan_take (v:=?_) (by kernel_rfl) (fun wS hSw=>?_) ?_
     rotate_left
     ·(try dsimp only at hSw);go_simp;(try with_reducible rfl)
     (try simp only [Act.put,pu1,pu2,pu3])
    refine wpPlan_take (v:=?_) (by kernel_rfl) (fun wS hSw=>?_) ?_
    rotate_left
    ·have qx:=((R6.out.on hSw).cell 0).trans (show (finC ⟨fc,fl,(m:Int)+1,fs⟩)[0]?=some (.int .i64 fc) from rfl);go_simp;(try with_reducible rfl)
    (try simp only [Act.put,pu1,pu2,pu3])
    iterate 2
     refine wpPlan_take (v:=?_) (by kernel_rfl) (fun wS hSw=>?_) ?_
     rotate_left
     ·(try dsimp only at hSw);go_simp;(try with_reducible rfl)
     (try simp only [Act.put,pu1,pu2,pu3])
    refine wpPlan_end ?_
    generalize wS121.drew=wH at hHeld ⊢
    clear q6_2 q6_0
    replace HBQ:=hide (HBQ.out.trans (hHeld.mono (by omega)))
    replace R1:=hide (R1.out.on hHeld)
    replace HU:=hide (HU.out.under hHeld (by omega))
    replace HL:=hide (HL.out.under hHeld (by omega))
    replace H5:=hide (H5.out.under hHeld (by omega))
    replace R6:=hide (R6.out.on hHeld)
    have hsz123:=hHeld.size
    have q6_2:wH.cell? ⟨wr.heap.size,2,none⟩=some (.int .i64 ((m:Int)+1)):=R6.out.cell 2
    have q6_0:wH.cell? ⟨wr.heap.size,0,none⟩=some (.int .i64 fc):=R6.out.cell 0
    have q1_4:wH.cell? ⟨w.heap.size,4,none⟩=some (.slice AU nU cU):=R1.out.cell 4
    clear hHeld
    go_upto_region 12 with (first|(refine wpList_loadW rfl 29 (.tmp 1) rfl 6 stk_agg stk_size (w.heap.size) 29 rfl (stkC g (.slice AU nU cU) (.slice AL nL cL)) R1.out rfl ?_)|(refine wpList_storeW rfl 29 (.tmp 7) (.tmp 70) rfl 6 stk_size (wH.heap.size) 29 rfl (stkC ⟨0,0,0,0⟩ (.slice none 0 0) (.slice none 0 0)) (stkC g (.slice AU nU cU) (.slice AL nL cL)) rfl (RowL.new wH 29 (stkC ⟨0,0,0,0⟩ (.slice none 0 0) (.slice none 0 0))) rfl rfl (stkC_one _ _ _ _ _ _ _) ?_;intro wS124 hr124 hg124 hs124;have hzb:=below_stored' hg124;clear q1_4 q6_2 q6_0;replace HBQ:=hide (HBQ.out.trans (hzb.mono (by omega)));replace R1:=hide (R1.out.on hzb);replace HU:=hide (HU.out.under hzb (by omega));replace HL:=hide (HL.out.under hzb (by omega));replace H5:=hide (H5.out.under hzb (by omega));replace R6:=hide (R6.out.on hzb);have hsz125:=hzb.size;have q1_4:wS124.cell? ⟨w.heap.size,4,none⟩=some (.slice AU nU cU):=R1.out.cell 4;have q6_2:wS124.cell? ⟨wr.heap.size,2,none⟩=some (.int .i64 ((m:Int)+1)):=R6.out.cell 2;have q6_0:wS124.cell? ⟨wr.heap.size,0,none⟩=some (.int .i64 fc):=R6.out.cell 0;have R7:=hide hr124;have hlt124:=hr124.lt;have q7_4:wS124.cell? ⟨wH.heap.size,4,none⟩=some (.slice AU nU cU):=R7.out.cell 4;clear hzb hr124;clear hg124 hs124)|(go_at_call 26;refine (CloneNod_d (B:=w.heap.size) wS124 HU.out (by omega) (by omega)).mono ?_;rintro e126 wC ⟨A8,c8,rfl,h8,hbel⟩;clear q1_4 q6_2 q6_0 q7_4;replace HBQ:=hide (HBQ.out.trans (hbel.mono (by omega)));replace R1:=hide (R1.out.on hbel);replace HU:=hide (HU.out.under hbel (by omega));replace HL:=hide (HL.out.under hbel (by omega));replace H5:=hide (H5.out.under hbel (by omega));replace R6:=hide (R6.out.on hbel);replace R7:=hide (R7.out.on hbel);have hsz127:=hbel.size;have q1_4:wC.cell? ⟨w.heap.size,4,none⟩=some (.slice AU nU cU):=R1.out.cell 4;have q6_2:wC.cell? ⟨wr.heap.size,2,none⟩=some (.int .i64 ((m:Int)+1)):=R6.out.cell 2;have q6_0:wC.cell? ⟨wr.heap.size,0,none⟩=some (.int .i64 fc):=R6.out.cell 0;have q7_4:wC.cell? ⟨wH.heap.size,4,none⟩=some (.slice AU nU cU):=R7.out.cell 4;have H8:=hide h8;clear h8;clear hbel)|(refine wpList_storeV rfl 24 (.tmp 76) (.tmp 74) rfl nods_size21 (wH.heap.size) 4 29 rfl (.slice A8 nU c8) rfl rfl rfl (stkC g (.slice AU nU cU) (.slice AL nL cL)) R7.out (by show 4 < 6;omega) ?_;intro wS128 hr128 hg128 hs128;replace hr128:RowL wS128 (wH.heap.size) 29 [.int .i64 g.a,.int .i64 g.b,.int .i64 g.c,.int .i64 g.d,.slice A8 nU c8,.slice AL nL cL]:=hr128;clear q1_4 q6_2 q6_0 q7_4;replace HBQ:=hide (HBQ.out.grown hg128 (by omega) (pu4 (by omega)));replace R1:=hide (R1.out.grown hg128 (pu5 (by omega)));replace HU:=hide (und_grown HU.out hg128 (by omega) (by omega));replace HL:=hide (und_grown HL.out hg128 (by omega) (by omega));replace H5:=hide (und_grown H5.out hg128 (by omega) (by omega));replace R6:=hide (R6.out.grown hg128 (pu5 (by omega)));replace H8:=hide (H8.out.grown hg128 (fun k hk=>by have:=Option.some.inj hk;subst this;exact ⟨by unfold Under;omega,fun a ha=>by have:=H8.out.base8 a ha;omega⟩));have hsz129:=hg128.size;replace R7:=hide hr128;have q1_4:wS128.cell? ⟨w.heap.size,4,none⟩=some (.slice AU nU cU):=R1.out.cell 4;have q6_2:wS128.cell? ⟨wr.heap.size,2,none⟩=some (.int .i64 ((m:Int)+1)):=R6.out.cell 2;have q6_0:wS128.cell? ⟨wr.heap.size,0,none⟩=some (.int .i64 fc):=R6.out.cell 0;have q7_4:wS128.cell? ⟨wH.heap.size,4,none⟩=some (.slice A8 nU c8):=R7.out.cell 4;clear hr128 hg128 hs128))
    obtain ⟨g8,hA8,hg8,hg8l⟩:=H8.out.some_ (by omega)
    subst hA8
    obtain ⟨cur,cs,hcur,hRn,htk,hlen⟩:=H8.out.at HX.out
    obtain ⟨A0,n0,k0,C0,m0,d0,rfl,-⟩:=hRn
    have hlen':m*13+13≤cur.length:=hlen
    have HCUR:=hide hcur
    have HCA:=hide (fun k v (hv:(attC x.att)[k]?=some v)=>show wS128.cell? ⟨g8,m*13+6+k,none⟩=some v from by rw [show m*13+6+k=m*13+(k+6) from by omega];exact (hcur.cell (m*13+(k+6))).trans (sub_cell (cs:=nodC x (.slice A0 n0 k0) (.slice C0 m0 d0)) (k:=13) htk (show (nodC x (.slice A0 n0 k0) (.slice C0 m0 d0))[k+6]?=some v from hv)))
    clear hcur htk hlen
    go_upto_region 16 with (first|(refine wpList_loadX rfl 63 (.tmp 86) rfl 7 att_agg att_size g8 (m*13+6) rfl (attC x.att) HCA.out rfl ?_)|(go_at_call 27;refine (RHas2_b hxh.1 hxh.2 HRX.out wS128).mono ?_;rintro e130 wHs ⟨rfl,hbel⟩;clear q1_4 q6_2 q6_0 q7_4;replace HBQ:=hide (HBQ.out.trans (hbel.mono (by omega)));replace R1:=hide (R1.out.on hbel);replace HU:=hide (HU.out.under hbel (by omega));replace HL:=hide (HL.out.under hbel (by omega));replace H5:=hide (H5.out.under hbel (by omega));replace R6:=hide (R6.out.on hbel);replace R7:=hide (R7.out.on hbel);replace H8:=hide (H8.out.grown (grown_below hbel) (by simp));replace HCUR:=hide (HCUR.out.on hbel);replace HCA:=hide ((fun k v hv=>(hbel.cell (p:=⟨g8,m*13+6+k,none⟩) (by show g8 < _;omega)).trans (HCA.out k v hv)));have hsz131:=hbel.size;have q1_4:wHs.cell? ⟨w.heap.size,4,none⟩=some (.slice AU nU cU):=R1.out.cell 4;have q6_2:wHs.cell? ⟨wr.heap.size,2,none⟩=some (.int .i64 ((m:Int)+1)):=R6.out.cell 2;have q6_0:wHs.cell? ⟨wr.heap.size,0,none⟩=some (.int .i64 fc):=R6.out.cell 0;have q7_4:wHs.cell? ⟨wH.heap.size,4,none⟩=some (.slice (some ⟨g8,0,none⟩) nU c8):=R7.out.cell 4;clear hbel)|(refine wpList_loadX rfl 63 (.tmp 93) rfl 7 att_agg att_size g8 (m*13+6) rfl (attC x.att) HCA.out rfl ?_)|(go_at_call 28;refine (RDrop_any x.att 2 (by omega) wHs rfl).mono ?_;rintro e132 wDr ⟨rfl,hbel⟩;clear q1_4 q6_2 q6_0 q7_4;replace HBQ:=hide (HBQ.out.trans (hbel.mono (by omega)));replace R1:=hide (R1.out.on hbel);replace HU:=hide (HU.out.under hbel (by omega));replace HL:=hide (HL.out.under hbel (by omega));replace H5:=hide (H5.out.under hbel (by omega));replace R6:=hide (R6.out.on hbel);replace R7:=hide (R7.out.on hbel);replace H8:=hide (H8.out.grown (grown_below hbel) (by simp));replace HCUR:=hide (HCUR.out.on hbel);replace HCA:=hide ((fun k v hv=>(hbel.cell (p:=⟨g8,m*13+6+k,none⟩) (by show g8 < _;omega)).trans (HCA.out k v hv)));have hsz133:=hbel.size;have q1_4:wDr.cell? ⟨w.heap.size,4,none⟩=some (.slice AU nU cU):=R1.out.cell 4;have q6_2:wDr.cell? ⟨wr.heap.size,2,none⟩=some (.int .i64 ((m:Int)+1)):=R6.out.cell 2;have q6_0:wDr.cell? ⟨wr.heap.size,0,none⟩=some (.int .i64 fc):=R6.out.cell 0;have q7_4:wDr.cell? ⟨wH.heap.size,4,none⟩=some (.slice (some ⟨g8,0,none⟩) nU c8):=R7.out.cell 4;clear hbel)|(refine wpList_storeC rfl 63 (.tmp 97) (.tmp 95) rfl 7 att_size g8 (m*13+6) 65 rfl cur (attC (dropA x.att 2)) rfl HCUR.out rfl (by omega) (attC_one21 _) ?_;intro w7 hr7 hg7 hs7;have HP:=hide (attputR H8.out HX.out HCUR.out hr7 hg7);clear q1_4 q6_2 q6_0 q7_4;replace HBQ:=hide (HBQ.out.grown hg7 (by omega) (pu4 (by omega)));replace R1:=hide (R1.out.grown hg7 (pu5 (by omega)));replace HU:=hide (und_grown HU.out hg7 (by omega) (by omega));replace HL:=hide (und_grown HL.out hg7 (by omega) (by omega));replace H5:=hide (und_grown H5.out hg7 (by omega) (by omega));replace R6:=hide (R6.out.grown hg7 (pu5 (by omega)));replace R7:=hide (R7.out.grown hg7 (pu5 (by omega)));have hsz134:=hg7.size;clear hr7 hg7 hs7 HCUR HCA H8;have q1_4:w7.cell? ⟨w.heap.size,4,none⟩=some (.slice AU nU cU):=R1.out.cell 4;have q6_2:w7.cell? ⟨wr.heap.size,2,none⟩=some (.int .i64 ((m:Int)+1)):=R6.out.cell 2;have q6_0:w7.cell? ⟨wr.heap.size,0,none⟩=some (.int .i64 fc):=R6.out.cell 0;have q7_4:w7.cell? ⟨wH.heap.size,4,none⟩=some (.slice (some ⟨g8,0,none⟩) nU c8):=R7.out.cell 4))
    obtain ⟨R9,hR9⟩:∃R9,allR (up.set m (noR x)) ls=R9:=⟨_,rfl⟩
    obtain ⟨n9,hn9⟩:∃n9,R9.length=n9:=⟨_,rfl⟩
    have HNT:=hide (show R9.any (fun f=>f.i==(m:Int)+1)=false from by rw [←hR9];exact noR_not HFU.out HX.out)
    have hn924:n9≤24:=by rw [←hn9,←hR9];exact Nat.le_trans (findR_len _ _ _ _ _) (by rw [List.length_set];omega)
    have HFU9:=hide (noR_few HFU.out HX.out)
    have HR9:=hide hR9
    have HN9:=hide hn9
    have HUP:=hide (show RdE nodEn w7 (Under w7.heap.size) (some ⟨g8,0,none⟩) nU (up.set m (noR x)) from HP.out.rd)
    clear hR9 hn9 HP
    go_wp2_with (first|(refine wpList_loadW rfl 29 (.tmp 7) rfl 6 stk_agg stk_size (wH.heap.size) 29 rfl [.int .i64 g.a,.int .i64 g.b,.int .i64 g.c,.int .i64 g.d,.slice (some ⟨g8,0,none⟩) nU c8,.slice AL nL cL] R7.out rfl ?_)|(go_at_call 18;refine (RFinds21_p (B:=w7.heap.size) HR9.out HN9.out w7 HUP.out (und_up HL.out (by omega)) (Nat.le_refl _) HF.out HFU9.out).mono ?_;rintro e135 wF9 ⟨A9,c9,rfl,h9,hbel⟩;clear q1_4 q6_2 q6_0 q7_4;replace HBQ:=hide (HBQ.out.trans (hbel.mono (by omega)));replace R1:=hide (R1.out.on hbel);replace HU:=hide (HU.out.under hbel (by omega));replace HL:=hide (HL.out.under hbel (by omega));replace H5:=hide (H5.out.under hbel (by omega));replace R6:=hide (R6.out.on hbel);replace R7:=hide (R7.out.on hbel);have hsz136:=hbel.size;have q1_4:wF9.cell? ⟨w.heap.size,4,none⟩=some (.slice AU nU cU):=R1.out.cell 4;have q6_2:wF9.cell? ⟨wr.heap.size,2,none⟩=some (.int .i64 ((m:Int)+1)):=R6.out.cell 2;have q6_0:wF9.cell? ⟨wr.heap.size,0,none⟩=some (.int .i64 fc):=R6.out.cell 0;have q7_4:wF9.cell? ⟨wH.heap.size,4,none⟩=some (.slice (some ⟨g8,0,none⟩) nU c8):=R7.out.cell 4;have H9:=hide h9;clear h9;clear hbel)|(go_at_call 29;have hcon:=OncHas_any (c:=c9) (gT:=wr.heap.size) (p:=fun f=>f.i==(m:Int)+1) wF9 H9.out (by omega) (fun W2 y hy hb=>Onc1_any y rfl W2 ((hb.cell (p:=⟨wr.heap.size,2,none⟩) (by show wr.heap.size < _;omega)).trans (R6.out.cell 2)) (by have:=hb.size;omega));rw [HNT.out] at hcon;refine hcon.mono ?_;rintro e8 wK ⟨rfl,hbel⟩;clear hcon;clear q1_4 q6_2 q6_0 q7_4;replace HBQ:=hide (HBQ.out.trans (hbel.mono (by omega)));replace R1:=hide (R1.out.on hbel);replace HU:=hide (HU.out.under hbel (by omega));replace HL:=hide (HL.out.under hbel (by omega));replace H5:=hide (H5.out.under hbel (by omega));replace R6:=hide (R6.out.on hbel);replace R7:=hide (R7.out.on hbel);replace H9:=hide (H9.out.under hbel (by omega));have hsz137:=hbel.size;have q1_4:wK.cell? ⟨w.heap.size,4,none⟩=some (.slice AU nU cU):=R1.out.cell 4;have q6_2:wK.cell? ⟨wr.heap.size,2,none⟩=some (.int .i64 ((m:Int)+1)):=R6.out.cell 2;have q6_0:wK.cell? ⟨wr.heap.size,0,none⟩=some (.int .i64 fc):=R6.out.cell 0;have q7_4:wK.cell? ⟨wH.heap.size,4,none⟩=some (.slice (some ⟨g8,0,none⟩) nU c8):=R7.out.cell 4;clear hbel))
    go_roundw
    case rel=>exact ⟨j+1,by omega,by go_num,HBQ.out⟩
    case measure=>simp [intOf];omega
  ·obtain rfl:n5=j:=by omega
   have hnlt:¬((n5:Int) < (n5:Int)):=by omega
   replace HB:=hide (HB.out.trans (HBQ.out.mono (by have:=HB.out.size;omega)))
   clear HBQ hbr
   go_wp2_with (go_at_call 16;refine (awake21_any _).mono ?_;rintro e98 wz ⟨rfl,hbz⟩;replace HB:=hide (HB.out.trans (hbz.mono HB.out.size));clear hbz)
   go_ret
   exact LawOk.of HB.out
end Go.Proofs.YtggnbflbbfdohaaGreat

