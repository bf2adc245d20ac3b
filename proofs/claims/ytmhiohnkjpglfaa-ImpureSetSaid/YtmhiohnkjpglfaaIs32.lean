import Derived.Test.YtmhiohnkjpglfaaIs30
import Derived.Test.YtmhiohnkjpglfaaIs31

namespace Go.Proofs.Ytmhiohnkjpglfaa
open Go.RowKit Go.Shelf Plain

def imtC (U R:Value):List Value:=[U,R]
theorem imtC_one (A C:Option Addr) (n c k e:Nat):∀v∈imtC (.slice A n c) (.slice C k e),v.oneCell'=true:=by simp [imtC,Value.oneCell']
set_option maxRecDepth 100000 in
theorem imt_agg:∀w,(isAgg 56).run Try.prog w=.ok true w:=fun w=>by kernel_rfl
set_option maxRecDepth 100000 in
theorem imt_size:∀w,(Go.sizeOf 56).run Try.prog w=.ok 2 w:=fun w=>by kernel_rfl
theorem bit_isI4:∀h:Fin 32,(bits .and .i64 (h.1:Int) 4==4)=decide ((h.1:Int) / 4 % 2=1):=by decide +kernel
theorem bit_isI4' {h:Int} (h0:0≤h) (h1:h≤31):(bits .and .i64 h 4==4)=decide (h / 4 % 2=1):=by
 obtain ⟨n,rfl⟩:=Int.eq_ofNat_of_zero_le h0
 exact bit_isI4 ⟨n,by omega⟩
def IntI (w:World) (k:Int) (e:Ending) (w':World):Prop:=e=.returned (.int .i64 k)∧Below w.heap.size w w'
set_option maxRecDepth 100000 in
set_option maxHeartbeats 1600000 in
theorem IDir_any {AU AR:Option Addr} {nU cU nR cR B:Nat} {up:List NodV} {i:Int} {b:Bool} (hd:isDir up i=b) (w:World) (hu:RdE nodEn w (Under B) AU nU up) (hB:B≤w.heap.size) (hup:FewU up):Calls Try.prog 29 #[.agg (imtC (.slice AU nU cU) (.slice AR nR cR)).toArray,.int .i64 i] w (BoolB w b):=by
 obtain ⟨W1,hW1⟩:∃W1,(w.alloc (.cells (imtC (.slice AU nU cU) (.slice AR nR cR)).toArray 56))=W1:=⟨_,rfl⟩
 obtain ⟨r0,hb1,hs1⟩:=rowA1 w _ _ hW1
 have hW1':(w.alloc (.cells #[.slice AU nU cU,.slice AR nR cR] 56))=W1:=hW1
 have R2:=hide r0
 have HB:=hide hb1
 have hsz0:=hb1.size
 have HU:=hide (hu.under hb1 hB)
 have HFU:=hide hup
 obtain ⟨x,hx⟩:∃x,nodAt up i=x:=⟨_,rfl⟩
 have HX:=hide hx
 have hbq:(x.k==1)=b:=by rw [←hd,←hx];unfold isDir;rfl
 have HBQ:=hide hbq
 have q2_0:W1.cell? ⟨w.heap.size,0,none⟩=some (.slice AU nU cU):=R2.out.cell 0
 unfold imtC
 clear r0 hb1 hW1 hu hup hx hd hbq
 go_enter Try.func29,Try.ntmps29
 go_wp2_with (first|(refine wpList_loadC rfl 26 (.tmp 5) rfl 1 lay_agg lay_size (w.heap.size) 0 56 rfl (imtC (.slice AU nU cU) (.slice AR nR cR)) [.slice AU nU cU] R2.out rfl rfl ?_)|(go_at_call 32;refine (Of_e HX.out W1 HU.out (by omega) (by have:=HFU.out.1;omega)).mono ?_;rintro e1 wO ⟨D0,n0,k0,C0,m0,d0,rfl,-,-,-,-,hbel⟩;clear q2_0;replace HB:=hide (HB.out.trans (hbel.mono HB.out.size));replace R2:=hide (R2.out.on hbel);replace HU:=hide (HU.out.under hbel (by omega));have hsz2:=hbel.size;have q2_0:wO.cell? ⟨w.heap.size,0,none⟩=some (.slice AU nU cU):=R2.out.cell 0;have hf0:=fun W=>nod_f0 x (.slice D0 n0 k0) (.slice C0 m0 d0) W;clear hbel))
 go_ret
 exact BoolB.eq HBQ.out HB.out
set_option maxRecDepth 100000 in
set_option maxHeartbeats 1600000 in
theorem CopF_any (y:EntV) {AU AR:Option Addr} {nU cU nR cR B:Nat} {up:List NodV} {gT:Nat} {b:Bool} (hb:copI up y=b) (w:World) (hu:RdE nodEn w (Under B) AU nU up) (hB:B≤w.heap.size) (hup:FewU up) (rt:RowL w gT 56 (imtC (.slice AU nU cU) (.slice AR nR cR))):Calls Try.prog 30 #[.agg (cellsE y).toArray,.pointer (some ⟨gT,0,none⟩)] w (BoolB w b):=by
 obtain ⟨W1,hW1⟩:∃W1,(w.alloc (.cells (cellsE y).toArray 53))=W1:=⟨_,rfl⟩
 obtain ⟨r0,hb1,hs1⟩:=rowA1 w _ _ hW1
 have hW1':(w.alloc (.cells #[.int .i64 y.slot,.int .i64 y.ino,.string ⟨y.name.toArray⟩] 53))=W1:=hW1
 have R2:=hide r0
 have HB:=hide hb1
 have hsz0:=hb1.size
 have HU:=hide (hu.under hb1 hB)
 have RT:=hide (rt.on hb1)
 have HFU:=hide hup
 obtain ⟨x,hx⟩:∃x,nodAt up y.ino=x:=⟨_,rfl⟩
 have HX:=hide hx
 have hpl:=(nodAt_plain hup.2 y.ino).2.2.1
 rw [hx] at hpl
 have HBQ:=hide (show (bits .and .i64 x.att.h 4==4)=b from by rw [bit_isI4' hpl.1 hpl.2,←hb,←hx];rfl)
 have q1_0:W1.cell? ⟨gT,0,none⟩=some (.slice AU nU cU):=RT.out.cell 0
 have q2_1:W1.cell? ⟨w.heap.size,1,none⟩=some (.int .i64 y.ino):=R2.out.cell 1
 unfold cellsE
 clear r0 hb1 hW1 hu hup hx hb hpl rt
 go_enter Try.func30,Try.ntmps30
 go_wp2_with (first|(refine wpList_loadC rfl 26 (.tmp 4) rfl 1 lay_agg lay_size gT 0 56 rfl (imtC (.slice AU nU cU) (.slice AR nR cR)) [.slice AU nU cU] RT.out rfl rfl ?_)|(go_at_call 32;refine (Of_e HX.out W1 HU.out (by omega) (by have:=HFU.out.1;omega)).mono ?_;rintro e1 wO ⟨D0,n0,k0,C0,m0,d0,rfl,-,-,-,-,hbel⟩;clear q1_0 q2_1;replace HB:=hide (HB.out.trans (hbel.mono HB.out.size));replace R2:=hide (R2.out.on hbel);replace HU:=hide (HU.out.under hbel (by omega));replace RT:=hide (RT.out.on hbel);have hsz2:=hbel.size;have q1_0:wO.cell? ⟨gT,0,none⟩=some (.slice AU nU cU):=RT.out.cell 0;have q2_1:wO.cell? ⟨w.heap.size,1,none⟩=some (.int .i64 y.ino):=R2.out.cell 1;clear hbel)|(go_at_call 31;refine (NHas_b HBQ.out wO).mono ?_;rintro e3 wH ⟨rfl,hbel⟩;clear q1_0 q2_1;replace HB:=hide (HB.out.trans (hbel.mono HB.out.size));replace R2:=hide (R2.out.on hbel);replace HU:=hide (HU.out.under hbel (by omega));replace RT:=hide (RT.out.on hbel);have hsz4:=hbel.size;have q1_0:wH.cell? ⟨gT,0,none⟩=some (.slice AU nU cU):=RT.out.cell 0;have q2_1:wH.cell? ⟨w.heap.size,1,none⟩=some (.int .i64 y.ino):=R2.out.cell 1;clear hbel))
 go_ret
 exact BoolB.of HB.out
set_option maxRecDepth 100000 in
set_option maxHeartbeats 1600000 in
theorem CopIdx_any {A:Option Addr} {n c:Nat} {gT:Nat} {l:List EntV} {p:EntV→Bool} (w:World) (h:RdE entEn w (Under w.heap.size) A n l) (hm:n≤1000000000) (hp:∀(W:World) (y:EntV),y∈l→Below w.heap.size w W→Calls Try.prog 30 #[.agg (cellsE y).toArray,.pointer (some ⟨gT,0,none⟩)] W (BoolB W (p y))) :
  Calls Try.prog 40 #[.slice A n c,.func (.func 30) #[] #[.pointer (some ⟨gT,0,none⟩)]] w (fun e w'=>∃r:Int,e=.returned (.int .i64 r)∧Below w.heap.size w w'∧((r = -1∧∀x∈l,p x=false)∨(0≤r∧∃x∈l,p x=true))):=by
 have H:=hide h
 have hn:=h.1
 have HP:=hide hp
 clear h hp
 go_enter Try.func40,Try.ntmps40
 go_wp2_with fail
 go_loopw [8] (fun iv wr=>∃j:Nat,j≤n∧iv=.int .i64 j∧Below w.heap.size w wr∧∀i x,i < j→l[i]?=some x→p x=false) (fun iv _=>n - (intOf iv).toNat)
 case atStart=>exact ⟨0,by omega,rfl,below_self _,fun i x hi=>by omega⟩
 case round =>
  obtain ⟨j,hj,rfl,hbr,hall⟩:=hrel
  have HBR:=hide hbr
  have HALL:=hide hall
  have hbs:=hbr.size
  clear hbr hall
  by_cases hlt:j < n
  ·obtain ⟨x,hx⟩:∃x,l[j]?=some x:=⟨_,List.getElem?_eq_getElem (by omega)⟩
   obtain ⟨b,o,rfl,-,hc⟩:=ent_get (H.out.on HBR.out) hx
   have HC:=hide hc
   have HX:=hide hx
   have hjn:(j:Int) < (n:Int):=by omega
   clear hc hx
   go_wp2_with (refine wpList_loadX rfl 53 (.tmp 14) rfl 3 entw_agg entw_size b (o+j*3) rfl (cellsE x) HC.out rfl ?_)
   obtain ⟨r,hr⟩:∃r,p x=r:=⟨_,rfl⟩
   have hcall:=HP.out wr x (List.mem_of_getElem? HX.out) HBR.out
   rw [hr] at hcall
   have HR:=hide hr
   clear hr
   refine hcall.mono ?_
   rintro e w3 ⟨rfl,hb3⟩
   have HB3:=hide (HBR.out.trans (hb3.mono hbs))
   clear hb3 hcall
   cases r with
   | true =>
    go_wp2_with fail
    go_ret
    exact ⟨(j:Int),rfl,HB3.out,.inr ⟨by omega,x,List.mem_of_getElem? HX.out,HR.out⟩⟩
   | false =>
    go_wp2_with fail
    go_roundw
    case rel=>exact ⟨j+1,by omega,by go_num,HB3.out,fun i y hi hy=>by
     by_cases e:i=j
     ·subst e
      have:=HX.out.symm.trans hy
      cases this
      exact HR.out
     ·exact HALL.out i y (by omega) hy⟩
    case measure=>simp [intOf];omega
  ·obtain rfl:j=n:=by omega
   go_wp2_with fail
   go_ret
   exact ⟨-1,rfl,HBR.out,.inl ⟨rfl,fun x hx=>by
    obtain ⟨i,hi,rfl⟩:=List.mem_iff_getElem.1 hx
    exact HALL.out i _ (by omega) (List.getElem?_eq_getElem hi)⟩⟩
set_option maxRecDepth 100000 in
theorem CopHas_any {A:Option Addr} {n c:Nat} {gT:Nat} {l:List EntV} {p:EntV→Bool} (w:World) (h:RdE entEn w (Under w.heap.size) A n l) (hm:n≤1000000000) (hp:∀(W:World) (y:EntV),y∈l→Below w.heap.size w W→Calls Try.prog 30 #[.agg (cellsE y).toArray,.pointer (some ⟨gT,0,none⟩)] W (BoolB W (p y))) :
  Calls Try.prog 33 #[.slice A n c,.func (.func 30) #[] #[.pointer (some ⟨gT,0,none⟩)]] w (BoolB w (l.any p)):=by
 have H:=hide h
 have HQ:=hide hp
 clear h hp
 go_enter Try.func33,Try.ntmps33
 go_wp2_with (go_at_call 40;refine (CopIdx_any w H.out hm HQ.out).mono ?_;rintro e w3 ⟨r,rfl,hb3,hp⟩;have HP:=hide hp;have HB3:=hide hb3;clear hp hb3)
 go_ret
 refine BoolB.eq ?_ HB3.out
 rcases HP.out with ⟨h1,h2⟩|⟨h1,ns,h2,h3⟩
 ·subst h1
  have:l.any p=false:=by rw [List.any_eq_false];exact fun x hx=>by rw [h2 x hx];simp
  rw [this]
  rfl
 ·have:l.any p=true:=List.any_eq_true.2 ⟨ns,h2,h3⟩
  rw [this]
  simpa using h1
set_option maxRecDepth 100000 in
set_option maxHeartbeats 3200000 in
theorem IWantT_any {AU AR:Option Addr} {nU cU nR cR B:Nat} {up:List NodV} {rs:List Bool} {i v:Int} (hv:wantI up rs i=v) (w:World) (hu:RdE nodEn w (Under B) AU nU up) (hB:B≤w.heap.size) (hup:FewU up) (hr:Rd Value.bool w w.heap.size AR nR rs) (hrl:rs.length=up.length):Calls Try.prog 19 #[.agg (imtC (.slice AU nU cU) (.slice AR nR cR)).toArray,.int .i64 i] w (IntI w v):=by
 obtain ⟨W1,hW1⟩:∃W1,(w.alloc (.cells (imtC (.slice AU nU cU) (.slice AR nR cR)).toArray 56))=W1:=⟨_,rfl⟩
 obtain ⟨r0,hb1,hs1⟩:=rowA1 w _ _ hW1
 have hW1':(w.alloc (.cells #[.slice AU nU cU,.slice AR nR cR] 56))=W1:=hW1
 have R2:=hide r0
 have HB:=hide hb1
 have hsz0:=hb1.size
 have HU:=hide (hu.under hb1 hB)
 have HR:=hide (hr.on hb1)
 have HFU:=hide hup
 have HV:=hide hv
 have hnR:rs.length=nR:=hr.1
 have q2_1:W1.cell? ⟨w.heap.size,1,none⟩=some (.slice AR nR cR):=R2.out.cell 1
 have q2_0:W1.cell? ⟨w.heap.size,0,none⟩=some (.slice AU nU cU):=R2.out.cell 0
 unfold imtC
 clear r0 hb1 hW1 hu hup hr hv
 go_enter Try.func19,Try.ntmps19
 go_wp2_with (first|(refine wpList_loadW rfl 56 (.tmp 2) rfl 2 imt_agg imt_size (w.heap.size) 56 rfl (imtC (.slice AU nU cU) (.slice AR nR cR)) R2.out rfl ?_))
 obtain ⟨b,hb⟩:∃b,isDir up i=b:=⟨_,rfl⟩
 refine (IDir_any hb W1 HU.out (by omega) HFU.out).mono ?_
 rintro e2 w2 ⟨rfl,hb2⟩
 clear q2_1 q2_0
 replace HB:=hide (HB.out.trans (hb2.mono HB.out.size))
 replace R2:=hide (R2.out.on hb2)
 replace HU:=hide (HU.out.under hb2 (by omega))
 replace HR:=hide (HR.out.on hb2)
 have hsz1:=hb2.size
 have q2_1:w2.cell? ⟨w.heap.size,1,none⟩=some (.slice AR nR cR):=R2.out.cell 1
 have q2_0:w2.cell? ⟨w.heap.size,0,none⟩=some (.slice AU nU cU):=R2.out.cell 0
 clear hb2
 cases b with
 | false =>
  go_wp2_with fail
  go_ret
  have e:v=0:=by rw [←HV.out];exact wantI_no rs (by unfold isDir at hb;simpa using hb)
  rw [e]
  exact ⟨rfl,HB.out⟩
 | true =>
  have hin:=isDir_in hb
  obtain ⟨j,x,rfl,hxj,hx⟩:=nodAt_in hin
  have hju:j < up.length:=(List.getElem?_eq_some_iff.1 hxj).1
  have hk1:(nodAt up ((j:Int)+1)).k=1:=by unfold isDir at hb;simpa using hb
  obtain ⟨r,hri⟩:∃r,rs[j]?=some r:=⟨_,List.getElem?_eq_getElem (by omega)⟩
  obtain ⟨c,hc⟩:∃c,x.ents.any (copI up)=c:=⟨_,rfl⟩
  have HW:=hide (wantI_is (rs:=rs) (r:=r) (b:=c) hk1 (by rw [show ((j:Int)+1 - 1).toNat=j from by omega];exact hri) (by rw [hx];exact hc))
  obtain ⟨bR,oR,rfl⟩:=rd_some HR.out (by omega)
  have qb:=rd_cell HR.out hri
  have hw1:IntKind.i64.wrap ((j:Int)+1 - 1)=(j:Int):=by rw [show (j:Int)+1 - 1=(j:Int) from by omega];exact IntWalk.i64_in _ (by have:=HFU.out.1;omega)
  have hwj:IntKind.i64.wrap (j:Int)=(j:Int):=IntWalk.i64_in _ (by have:=HFU.out.1;omega)
  have hjn:(j:Int) < (nR:Int):=by omega
  have HX:=hide hx
  have HC:=hide hc
  have hxe:x.ents.length≤16:=by rw [←hx];exact (nodAt_plain HFU.out.2 _).2.2.2.2.1
  clear hri hc hx hxj hb hk1 hin
  cases r with
  | false =>
   go_wp2_with fail
   go_ret
   have e:v=0:=by rw [←HV.out,HW.out];simp
   rw [e]
   exact ⟨rfl,HB.out⟩
  | true =>
   go_wp2_with (first|(refine wpList_loadC rfl 26 (.tmp 19) rfl 1 lay_agg lay_size (w.heap.size) 0 56 rfl (imtC (.slice AU nU cU) (.slice (some ⟨bR,oR,none⟩) nR cR)) [.slice AU nU cU] R2.out rfl rfl ?_))
   refine (Of_e HX.out w2 HU.out (by omega) (by have:=HFU.out.1;omega)).mono ?_
   rintro e3 w3 ⟨D0,n0,k0,C0,m0,d0,rfl,-,-,-,he,hb3⟩
   have hf5:=fun W=>nod_f5 x D0 C0 n0 k0 m0 d0 W
   clear qb q2_1
   replace HB:=hide (HB.out.trans (hb3.mono HB.out.size))
   have RT:=hide (R2.out.on hb3)
   replace HU:=hide (HU.out.under hb3 (by omega))
   have hs3:=hb3.size
   go_wp2_with fail
   refine (show Calls Try.prog 33 #[.slice C0 m0 d0,.func (.func 30) #[] #[.pointer (some ⟨w.heap.size,0,none⟩)]] w3 (BoolB w3 c) from by rw [←HC.out];exact CopHas_any w3 (und_up he (by omega)) (by have:=he.1;omega) (fun W y _ hb=>CopF_any y (AR:=some ⟨bR,oR,none⟩) (nR:=nR) (cR:=cR) (cU:=cU) rfl W (HU.out.under hb (by omega)) (by have:=hb.size;omega) HFU.out (RT.out.on hb))).mono ?_
   rintro e4 w4 ⟨rfl,hb4⟩
   replace HB:=hide (HB.out.trans (hb4.mono HB.out.size))
   cases c with
   | false =>
    go_wp2_with fail
    go_ret
    have e:v=0:=by rw [←HV.out,HW.out];simp
    rw [e]
    exact ⟨rfl,HB.out⟩
   | true =>
    go_wp2_with fail
    go_ret
    have e:v=121:=by rw [←HV.out,HW.out];simp
    rw [e]
    exact ⟨rfl,HB.out⟩
def ImtRet (w:World) (AU:Option Addr) (nU cU:Nat) (rs:List Bool) (e:Ending) (w':World):Prop:=∃AR nR cR,e=.returned (.agg (imtC (.slice AU nU cU) (.slice AR nR cR)).toArray)∧Rd Value.bool w' w'.heap.size AR nR rs∧Below w.heap.size w w'
set_option maxRecDepth 100000 in
set_option maxHeartbeats 3200000 in
theorem IBegin_any {g:GeoQ} {AU AL:Option Addr} {nU cU nL cL B:Nat} {up:List NodV} {rs:List Bool} (hrs:reachL up (walkW up [1]).1=rs) (w:World) (hu:RdE nodEn w (Under B) AU nU up) (hB:B≤w.heap.size) (hup:FewU up):Calls Try.prog 17 #[.agg (stkC g (.slice AU nU cU) (.slice AL nL cL)).toArray] w (ImtRet w AU nU cU rs):=by
 obtain ⟨W1,hW1⟩:∃W1,((w.alloc (.cells (stkC g (.slice AU nU cU) (.slice AL nL cL)).toArray 29)).alloc (.cells (imtC (.slice none 0 0) (.slice none 0 0)).toArray 56))=W1:=⟨_,rfl⟩
 obtain ⟨r0,r1,hb1,hs1⟩:=rowA2 w _ _ _ _ hW1
 have hW1':((w.alloc (.cells #[.int .i64 g.a,.int .i64 g.b,.int .i64 g.c,.int .i64 g.d,.slice AU nU cU,.slice AL nL cL] 29)).alloc (.cells #[.slice none 0 0,.slice none 0 0] 56))=W1:=hW1
 have R1:=hide r0
 have R2:=hide r1
 have HB:=hide hb1
 have hsz0:=hb1.size
 have HU:=hide (hu.under hb1 hB)
 have HFU:=hide hup
 have HRS:=hide hrs
 have hs1':w.heap.size+2≤W1.heap.size:=by omega
 clear r0 r1 hb1 hW1 hu hup hrs hs1
 unfold stkC
 go_enter Try.func17,Try.ntmps17
 go_wp2_with fail
 refine wp_region_planLN (fun w'=>Below W1.heap.size W1 w') [(0,true),(2,true),(1,true),(3,true),(4,false),(5,false),(6,true)] 7 (by kernel_rfl) (by kernel_rfl) (by kernel_rfl) (by kernel_rfl) (by kernel_rfl) rfl (fun _ _ _ _ _ h=>h) (below_drew (below_self W1)) (fun hHeld=>?_)
 simp only [planOps,List.filterMap_cons,List.filterMap_nil,List.getElem?_toArray,List.getElem?_cons_succ,List.getElem?_cons_zero,Option.map_some]
 iterate 2
  refine wpPlan_take (v:=?_) (by kernel_rfl) (fun wS hSw=>?_) ?_
  rotate_left
  ·(try dsimp only at hSw);go_simp;(try with_reducible rfl)
  (try simp only [Act.put,pu1,pu2,pu3])
 refine wpPlan_take (v:=?_) (by kernel_rfl) (fun wS hSw=>?_) ?_
 rotate_left
 ·refine execOp_load (x:=.tmp 3) (k:=1) (g:=w.heap.size) (off:=4) (cs:=[.slice AU nU cU]) ?_ lay_agg lay_size ?_ (fun j v hv=>((R1.out.on hSw).cell (4+j)).trans (sub_cell (cur:=stkC g (.slice AU nU cU) (.slice AL nL cL)) (k:=1) rfl hv)) rfl <;> rfl
 (try simp only [Act.put,pu1,pu2,pu3])
 refine wpPlan_take (v:=?_) (by kernel_rfl) (fun wS hSw=>?_) ?_
 rotate_left
 ·refine execOp_load (x:=.tmp 5) (k:=1) (g:=w.heap.size) (off:=4) (cs:=[.slice AU nU cU]) ?_ lay_agg lay_size ?_ (fun j v hv=>((R1.out.on hSw).cell (4+j)).trans (sub_cell (cur:=stkC g (.slice AU nU cU) (.slice AL nL cL)) (k:=1) rfl hv)) rfl <;> rfl
 (try simp only [Act.put,pu1,pu2,pu3])
 refine wpPlan_call (by kernel_rfl) (fun K hK=>?_)
 have hOld:=hide hHeld
 clear hHeld
 unfold Oper.wp execOp
 have hlit:=lit_one W1.drew
 go_simp
 have hal:=below_new (below_self W1.drew) (.cells #[.int .i64 1] 3)
 have R12:=hide (RowL.new W1.drew 3 [.int .i64 1])
 refine hK.out _ _ (hOld.out.trans (hal.mono hOld.out.size)) (fun hHeld=>?_)
 clear hK K
 clear hlit hal hOld
 (try simp only [Act.put,pu1,pu2,pu3])
 refine wpPlan_call (by kernel_rfl) (fun K hK=>?_)
 have hOld:=hide hHeld
 clear hHeld
 go_simp
 go_at_call 28
 refine (OReach_any HRS.out _ (und_up (HU.out.under hOld.out (by omega)) (by have:=hOld.out.size;omega)) (one_row R12.out) (plain_many HFU.out.1 HFU.out.2).1).mono ?_
 rintro e w' ⟨AR,nR,cR,lo,hi,rfl,hlo,hr5,hbel⟩
 have HRC:=hide (show RchR w' W1.heap.size w'.heap.size AR nR rs from ⟨⟨hr5.1.1,fun hn=>by obtain ⟨b,o,e,h1,h2,h3⟩:=hr5.1.2 hn;exact ⟨b,o,e,by have:=hOld.out.size;omega,by have:=hr5.2;omega,h3⟩⟩,Nat.le_refl _⟩)
 clear hr5 R12
 refine hK.out _ _ (hOld.out.trans (hbel.mono hOld.out.size)) (fun hHeld=>?_)
 clear hK K
 (try simp only [Act.put,pu1,pu2,pu3])
 refine wpPlan_take (v:=?_) (by kernel_rfl) (fun wS hSw=>?_) ?_
 rotate_left
 ·(try dsimp only at hSw);go_simp;(try with_reducible rfl)
 (try simp only [Act.put,pu1,pu2,pu3])
 refine wpPlan_end ?_
 refine postL_go rfl (by kernel_rfl) ?_
 have hsx:=hHeld.size
 refine wp_storeC 56 (.tmp 2) (.tmp 9) rfl 2 imt_size (w.heap.size+1) 0 56 rfl (imtC (.slice none 0 0) (.slice none 0 0)) (imtC (.slice AU nU cU) (.slice AR nR cR)) rfl (R2.out.on hHeld) rfl (by decide) (imtC_one _ _ _ _ _ _) ?_
 intro w5 hr5 hg5 hs5
 replace hr5:RowL w5 (w.heap.size+1) 56 (imtC (.slice AU nU cU) (.slice AR nR cR)):=hr5
 have HR5:=hide hr5
 have HB5:=hide ((HB.out.trans (hHeld.mono HB.out.size)).grown hg5 (by omega) (pu4 (by omega)))
 have HRD:=hide (rch_rd (rch_grown HRC.out hg5 (by omega)))
 clear hr5 hg5 hs5 hHeld
 (try simp only [Act.put])
 go_wp2_with fail
 exact bodyPost_ret (res_cell Try.results17 rfl imt_agg imt_size HR5.out rfl) rfl ⟨AR,nR,cR,rfl,HRD.out,HB5.out⟩
set_option maxRecDepth 100000 in
set_option maxHeartbeats 3200000 in
theorem IWant_any {g:GeoQ} {AU AL:Option Addr} {nU cU nL cL B:Nat} {up:List NodV} {rs:List Bool} {i v:Int} (hrs:reachL up (walkW up [1]).1=rs) (hv:wantI up rs i=v) (w:World) (hu:RdE nodEn w (Under B) AU nU up) (hB:B≤w.heap.size) (hup:FewU up):Calls Try.prog 10 #[.agg (stkC g (.slice AU nU cU) (.slice AL nL cL)).toArray,.int .i64 i] w (IntI w v):=by
 obtain ⟨W1,hW1⟩:∃W1,(w.alloc (.cells (stkC g (.slice AU nU cU) (.slice AL nL cL)).toArray 29))=W1:=⟨_,rfl⟩
 obtain ⟨r0,hb1,hs1⟩:=rowA1 w _ _ hW1
 have hW1':(w.alloc (.cells #[.int .i64 g.a,.int .i64 g.b,.int .i64 g.c,.int .i64 g.d,.slice AU nU cU,.slice AL nL cL] 29))=W1:=hW1
 have R2:=hide r0
 have HB:=hide hb1
 have hsz0:=hb1.size
 have HU:=hide (hu.under hb1 hB)
 have HFU:=hide hup
 have HRS:=hide hrs
 have HV:=hide hv
 have hrl:rs.length=up.length:=by rw [←hrs,reachL_len]
 unfold stkC
 clear r0 hb1 hW1 hu hup hrs hv
 go_enter Try.func10,Try.ntmps10
 go_wp2_with (first|(refine wpList_loadW rfl 29 (.tmp 2) rfl 6 stk_agg stk_size (w.heap.size) 29 rfl (stkC g (.slice AU nU cU) (.slice AL nL cL)) R2.out rfl ?_)|(go_at_call 17;refine (IBegin_any HRS.out W1 HU.out (by omega) HFU.out).mono ?_;rintro e1 wG ⟨AR,nR,cR,rfl,hrd,hbel⟩;replace HB:=hide (HB.out.trans (hbel.mono HB.out.size));replace R2:=hide (R2.out.on hbel);replace HU:=hide (HU.out.under hbel (by omega));have hsz2:=hbel.size;have HRD:=hide hrd;clear hrd;clear hbel)|(go_at_call 19;refine (IWantT_any HV.out wG HU.out (by omega) HFU.out HRD.out hrl).mono ?_;rintro e3 wV ⟨rfl,hbel⟩;replace HB:=hide (HB.out.trans (hbel.mono HB.out.size));replace R2:=hide (R2.out.on hbel);replace HU:=hide (HU.out.under hbel (by omega));replace HRD:=hide (HRD.out.on hbel);have hsz4:=hbel.size;clear hbel))
 go_ret
 exact ⟨rfl,HB.out⟩
end Go.Proofs.Ytmhiohnkjpglfaa

