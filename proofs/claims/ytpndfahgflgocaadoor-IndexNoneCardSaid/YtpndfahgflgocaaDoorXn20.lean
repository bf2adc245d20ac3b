import Derived.Test.YtpndfahgflgocaaDoorXn19
import Derived.Test.YtpndfahgflgocaaDoorXn17
import Derived.BigQuiet
import Derived.BigRegion
import Derived.Deep.QuietTactic

namespace Go.Proofs.YtpndfahgflgocaaDoor
open Go.RowKit Go.Shelf Plain

def RiseE (l:List EntV) (k:Nat):Prop:=∀i e,i < k→l[i]?=some e→0≤e.slot∧e.slot < 16∧∀p,0 < i→l[i - 1]?=some p→p.slot < e.slot
def PlainN (x:NodV):Prop:=RiseE x.ents x.ents.length∧(0≤x.k∧x.k≤4)∧(0≤x.att.h∧x.att.h≤31)∧x.data.length≤300∧x.ents.length≤16∧x.att.r.length≤40∧∀e∈x.ents,nameB e.name=true
theorem RRight_all (l:List UInt8) (w:World):Calls Tryd.prog 41 #[.string ⟨l.toArray⟩] w fun e w'=>e=.returned (.bool (nameB l))∧w=w':=by
 by_cases hl:l.length≤12
 ·exact RNRight_any l w (by omega)
 ·have hr:nameB l=false:=by
   have:decide (1≤l.length∧l.length≤12)=false:=by simp;omega
   simp [nameB,this]
  rw [hr]
  clear hr
  have d1:decide ((l.length:Int) < 1)=false:=by simp;omega
  have d2:decide ((12:Int) < (l.length:Int))=true:=by simp;omega
  go_enter Tryd.func41,Tryd.ntmps41
  go_wp2
  go_ret
  exact ⟨rfl,rfl⟩
theorem rise_succ {l:List EntV} {j:Nat} {e:EntV} (h:RiseE l j) (he:l[j]?=some e) (h0:0≤e.slot) (h1:e.slot < 16) (h2:∀p,0 < j→l[j - 1]?=some p→p.slot < e.slot):RiseE l (j+1):=by
 intro i x hi hx
 by_cases hij:i=j
 ·subst hij
  rw [he] at hx
  cases hx
  exact ⟨h0,h1,h2⟩
 ·exact h i x (by omega) hx
set_option maxRecDepth 100000 in
theorem odd_any (x:EntV) (w:World):Calls Tryd.prog 30 #[.agg (cellsE x).toArray] w (fun e w'=>∃p:Bool,e=.returned (.bool p)∧Below w.heap.size w w'∧(p=false→nameB x.name=true)):=by
 have r:=RowL.new w 31 (cellsE x)
 have hb:=below_new (below_self w) (.cells (cellsE x).toArray 31)
 have q:(w.alloc (.cells (cellsE x).toArray 31)).cell? ⟨w.heap.size,2,none⟩=some (.string ⟨x.name.toArray⟩):=r.cell 2
 have HB:=hide hb
 clear r hb
 go_enter Tryd.func30,Tryd.ntmps30
 go_wp2_with (go_at_call 41;refine (RRight_all x.name _).mono ?_;rintro e w3 ⟨rfl,rfl⟩)
 go_ret
 exact ⟨_,rfl,HB.out,fun h=>by simpa using h⟩
set_option maxRecDepth 100000 in
set_option maxHeartbeats 1600000 in
theorem EntIdx_any {A:Option Addr} {n c:Nat} {l:List EntV} (w:World) (h:RdE entEn w (Under w.heap.size) A n l) (hm:l.length≤9223372036854775807) :
  Calls Tryd.prog 40 #[.slice A n c,.func (.func 30) #[] #[]] w (fun e w'=>∃r:Int,e=.returned (.int .i64 r)∧Below w.heap.size w w'∧(r < 0→∀x∈l,nameB x.name=true)):=by
 have H:=hide h
 have hn:=h.1
 clear h
 go_enter Tryd.func40,Tryd.ntmps40
 go_wp2
 go_loopw [8] (fun iv wr=>∃j:Nat,j≤n∧iv=.int .i64 j∧Below w.heap.size w wr∧∀i x,i < j→l[i]?=some x→nameB x.name=true) (fun iv _=>n - (intOf iv).toNat)
 case atStart=>exact ⟨0,by omega,rfl,below_self _,fun i x hi=>by omega⟩
 case round =>
  obtain ⟨j,hj,rfl,hbr,hall⟩:=hrel
  have HBR:=hide hbr
  have HALL:=hide hall
  clear hbr hall
  by_cases hlt:j < n
  ·obtain ⟨x,hx⟩:∃x,l[j]?=some x:=⟨_,List.getElem?_eq_getElem (by omega)⟩
   obtain ⟨b,o,rfl,-,hc⟩:=ent_get (H.out.under HBR.out (Nat.le_refl _)) hx
   have HC:=hide hc
   clear hc
   have HX:=hide hx
   clear hx
   go_wp2_with (refine wpList_loadX rfl 31 (.tmp 14) rfl 3 entw_agg entw_size b (o+j*3) rfl (cellsE x) HC.out rfl ?_)
   refine (odd_any x wr).mono ?_
   rintro e w3 ⟨p,rfl,hb3,hp⟩
   have HP:=hide hp
   have HB3:=hide (below_step HBR.out hb3)
   clear hp hb3
   cases p with
   | true =>
    go_wp2
    go_ret
    exact ⟨(j:Int),rfl,HB3.out,fun h=>by omega⟩
   | false =>
    go_wp2
    go_roundw
    case rel=>exact ⟨j+1,by omega,by go_num,HB3.out,fun i y hi hy=>by
     by_cases e:i=j
     ·subst e
      have:=HX.out.symm.trans hy
      cases this
      exact HP.out (by first|rfl|trivial)
     ·exact HALL.out i y (by omega) hy⟩
    case measure=>simp [intOf];omega
  ·obtain rfl:j=n:=by omega
   go_wp2
   go_ret
   exact ⟨-1,rfl,HBR.out,fun _ x hx=>by
    obtain ⟨i,hi,rfl⟩:=List.mem_iff_getElem.1 hx
    exact HALL.out i _ (by omega) (List.getElem?_eq_getElem hi)⟩
set_option maxRecDepth 100000 in
theorem EntHas_any {A:Option Addr} {n c:Nat} {l:List EntV} (w:World) (h:RdE entEn w (Under w.heap.size) A n l) (hm:l.length≤9223372036854775807) :
  Calls Tryd.prog 29 #[.slice A n c,.func (.func 30) #[] #[]] w (fun e w'=>∃r:Bool,e=.returned (.bool r)∧Below w.heap.size w w'∧(r=false→∀x∈l,nameB x.name=true)):=by
 have H:=hide h
 clear h
 go_enter Tryd.func29,Tryd.ntmps29
 go_wp2_with (go_at_call 40;refine (EntIdx_any w H.out hm).mono ?_;rintro e w3 ⟨r,rfl,hb3,hp⟩;have HP:=hide hp;have HB3:=hide hb3;clear hp hb3)
 go_ret
 exact ⟨_,rfl,HB3.out,fun h=>HP.out (by simpa using h)⟩
set_option maxRecDepth 100000 in
set_option maxHeartbeats 16000000 in
theorem PNode_any {D C:Option Addr} {n c m d:Nat} {x:NodV} (w:World) (hD:x.data.length=n) (hC:RdE entEn w (Under w.heap.size) C m x.ents) (hm:m≤9223372036854775807) :
  Calls Tryd.prog 20 #[.agg (nodC x (.slice D n c) (.slice C m d)).toArray] w (fun e w'=>∃p:Bool,e=.returned (.bool p)∧Below w.heap.size w w'∧(p=true→PlainN x)):=by
 have hb:=below_new (below_self w) (.cells (nodC x (.slice D n c) (.slice C m d)).toArray 42)
 obtain ⟨W1,hW1⟩:∃W1,w.alloc (.cells (nodC x (.slice D n c) (.slice C m d)).toArray 42)=W1:=⟨_,rfl⟩
 have r:=RowL.new w 42 (nodC x (.slice D n c) (.slice C m d))
 rw [hW1] at hb r
 have hW1':w.alloc (.cells #[.int .i64 x.k,.int .i64 x.p,.int .i64 x.n,.int .i64 x.g,.slice D n c,.slice C m d,.int .i64 x.att.h,.int .i64 x.att.o,.string ⟨x.att.r.toArray⟩,.int .i64 x.att.l,.int .i64 x.att.i,.int .i64 x.att.g,.int .i64 x.att.s] 42)=W1:=hW1
 have q5:W1.cell? ⟨w.heap.size,5,none⟩=some (.slice C m d):=r.cell 5
 have R:=hide r
 have HB:=hide hb
 have HC:=hide hC
 have HD:=hide hD
 have hml:=hC.1
 unfold nodC
 clear r hb hC hD hW1
 go_enter Tryd.func20,Tryd.ntmps20
 go_wp2
 clear hW1' q5
 go_loopw [8] (fun iv wr=>∃j:Nat,j≤m∧iv=.int .i64 j∧Below W1.heap.size W1 wr∧RiseE x.ents j) (fun iv _=>m - (intOf iv).toNat)
 case atStart=>exact ⟨0,by omega,rfl,below_self _,fun i e hi=>by omega⟩
 case round =>
  obtain ⟨j,hj,rfl,hbr,hall⟩:=hrel
  have HBR:=hide hbr
  have HALL:=hide hall
  have HBW:=hide (HB.out.trans (hbr.mono HB.out.size))
  have hbsz:=HBW.out.size
  have hgl:=(R.out.on hbr).lt
  clear hbr hall
  by_cases hlt:j < m
  ·obtain ⟨e,he⟩:∃e,x.ents[j]?=some e:=⟨_,List.getElem?_eq_getElem (by omega)⟩
   obtain ⟨b,o,hCe,-,hc⟩:=ent_get (HC.out.under HBW.out (Nat.le_refl _)) he
   have HCC:=hide (fun j v hv=>show wr.cell? ⟨b,o+_*3+j,none⟩=some v from hc j v hv)
   have HE:=hide he
   have HP0:Hid (∀p,x.ents[j - 1]?=some p→wr.cell? ⟨b,o+(j - 1)*3,none⟩=some (.int .i64 p.slot)):=hide (fun p hp=>by
    obtain ⟨b',o',e',-,hc'⟩:=ent_get (HC.out.under HBW.out (Nat.le_refl _)) hp
    rw [hCe] at e'
    cases e'
    exact hc' 0 _ rfl)
   have HZ:=hide (RowL.new wr 31 [.int .i64 0,.int .i64 0,.string ⟨#[]⟩])
   have HCN:=hide (HC.out.under HBW.out (Nat.le_refl _))
   subst hCe
   clear hc he
   go_wp2_with (first|(refine wpList_loadX rfl 31 (.tmp 11) rfl 3 entw_agg entw_size b (o+j*3) rfl (cellsE e) HCC.out rfl ?_)|(refine wpList_storeW rfl 31 (.tmp 4) (.tmp 12) rfl 3 entw_size wr.heap.size 31 rfl [.int .i64 0,.int .i64 0,.string ⟨#[]⟩] (cellsE e) rfl HZ.out rfl rfl (cellsE_one e) ?_;intro w3 hr3 hg3 hs3;have HB3:=hide (below_stored' hg3);have HR3:=hide hr3;clear hr3 hg3 hs3))
   simp only [Act.put]
   have qs:w3.cell? ⟨wr.heap.size,0,none⟩=some (.int .i64 e.slot):=HR3.out.cell 0
   have hb3:=HBR.out.trans (HB3.out.mono HBR.out.size)
   have hbe:b < wr.heap.size:=by have h5:=HC.out.2 (by omega);obtain ⟨b5,o5,e5,hlt5,-⟩:=h5;cases e5;have:b < w.heap.size:=hlt5;omega
   have qn:w3.cell? ⟨w.heap.size,5,none⟩=some (.slice (some ⟨b,o,none⟩) m d):=(R.out.on hb3).cell 5
   have HB3w:=hide hb3
   clear hb3
   clear HCC HCN HBW HZ HC
   by_cases h0:e.slot < 0
   ·have d0:decide (e.slot < 0)=true:=by simpa using h0
    go_quiet (fail)
    go_wp2
    go_ret
    first|exact ⟨false,rfl,(HB.out.trans ((below_drewN HB3w.out _).mono HB.out.size)),fun h=>by cases h⟩|exact .inl ⟨rfl,(HB.out.trans ((below_drewN HB3w.out _).mono HB.out.size))⟩
   have d0:decide (e.slot < 0)=false:=by simpa using h0
   by_cases h1:16≤e.slot
   ·have d1:decide (16≤e.slot)=true:=by simpa using h1
    go_quiet (fail)
    go_wp2
    go_ret
    first|exact ⟨false,rfl,(HB.out.trans ((below_drewN HB3w.out _).mono HB.out.size)),fun h=>by cases h⟩|exact .inl ⟨rfl,(HB.out.trans ((below_drewN HB3w.out _).mono HB.out.size))⟩
   have d1:decide (16≤e.slot)=false:=by simpa using h1
   by_cases h2:j=0
   ·have d2:decide (0 < (j:Int))=false:=by simp;omega
    have d2b:decide (0 < j)=false:=by simp;omega
    have HRS:=hide (rise_succ HALL.out HE.out (by omega) (by omega) (fun p hp=>by omega))
    clear h2
    go_quiet (fail)
    go_wp2
    go_roundw
    case rel=>exact ⟨j+1,by omega,by go_num,below_drewN HB3w.out _,HRS.out⟩
    case measure=>simp [intOf];omega
   have d2:decide (0 < (j:Int))=true:=by simp;omega
   have d2b:decide (0 < j)=true:=by simp;omega
   obtain ⟨p,hp⟩:∃p,x.ents[j - 1]?=some p:=⟨_,List.getElem?_eq_getElem (by omega)⟩
   have qp:w3.cell? ⟨b,o+(j - 1)*3,none⟩=some (.int .i64 p.slot):=(HB3.out.cell (p:=⟨b,o+(j - 1)*3,none⟩) hbe).trans (HP0.out p hp)
   have hw:IntKind.i64.wrap ((j:Int) - 1)=((j - 1:Nat):Int):=by rw [show (j:Int) - 1=((j - 1:Nat):Int) from by omega];exact IntWalk.i64_in _ (by omega)
   have hj1:j - 1 < m:=by omega
   have hj2:((j - 1:Nat):Int) < (m:Int):=by omega
   by_cases h3:e.slot≤p.slot
   ·have d3:decide (e.slot≤p.slot)=true:=by simpa using h3
    clear hp
    go_quiet (fail)
    go_wp2
    go_ret
    first|exact ⟨false,rfl,(HB.out.trans ((below_drewN HB3w.out _).mono HB.out.size)),fun h=>by cases h⟩|exact .inl ⟨rfl,(HB.out.trans ((below_drewN HB3w.out _).mono HB.out.size))⟩
   have d3:decide (e.slot≤p.slot)=false:=by simpa using h3
   have HRS:=hide (rise_succ HALL.out HE.out (by omega) (by omega) (fun y hy hy2=>by rw [hp] at hy2;cases hy2;omega))
   clear hp
   go_quiet (fail)
   go_wp2
   go_roundw
   case rel=>exact ⟨j+1,by omega,by go_num,below_drewN HB3w.out _,HRS.out⟩
   case measure=>simp [intOf];omega
  ·obtain rfl:j=m:=by omega
   have q0:wr.cell? ⟨w.heap.size,0,none⟩=some (.int .i64 x.k):=(R.out.on HBR.out).cell 0
   have q4:wr.cell? ⟨w.heap.size,4,none⟩=some (.slice D n c):=(R.out.on HBR.out).cell 4
   have q5:wr.cell? ⟨w.heap.size,5,none⟩=some (.slice C j d):=(R.out.on HBR.out).cell 5
   have q6:wr.cell? ⟨w.heap.size,6,none⟩=some (.int .i64 x.att.h):=(R.out.on HBR.out).cell 6
   have q8:wr.cell? ⟨w.heap.size,8,none⟩=some (.string ⟨x.att.r.toArray⟩):=(R.out.on HBR.out).cell 8
   by_cases k0:0≤x.k
   rotate_left
   ·have c0:decide (0≤x.k)=false:=decide_eq_false k0
    go_wp2_with fail
    go_ret
    first|exact ⟨false,rfl,HBW.out,fun h=>by cases h⟩|exact .inl ⟨rfl,HBW.out⟩
   have c0:decide (0≤x.k)=true:=decide_eq_true k0
   by_cases k1:x.k≤4
   rotate_left
   ·have c1:decide (x.k≤4)=false:=decide_eq_false k1
    go_wp2_with fail
    go_ret
    first|exact ⟨false,rfl,HBW.out,fun h=>by cases h⟩|exact .inl ⟨rfl,HBW.out⟩
   have c1:decide (x.k≤4)=true:=decide_eq_true k1
   by_cases k2:0≤x.att.h
   rotate_left
   ·have c2:decide (0≤x.att.h)=false:=decide_eq_false k2
    go_wp2_with fail
    go_ret
    first|exact ⟨false,rfl,HBW.out,fun h=>by cases h⟩|exact .inl ⟨rfl,HBW.out⟩
   have c2:decide (0≤x.att.h)=true:=decide_eq_true k2
   by_cases k3:x.att.h≤31
   rotate_left
   ·have c3:decide (x.att.h≤31)=false:=decide_eq_false k3
    go_wp2_with fail
    go_ret
    first|exact ⟨false,rfl,HBW.out,fun h=>by cases h⟩|exact .inl ⟨rfl,HBW.out⟩
   have c3:decide (x.att.h≤31)=true:=decide_eq_true k3
   by_cases k4:(n:Int)≤300
   rotate_left
   ·have c4:decide ((n:Int)≤300)=false:=decide_eq_false k4
    go_wp2_with fail
    go_ret
    first|exact ⟨false,rfl,HBW.out,fun h=>by cases h⟩|exact .inl ⟨rfl,HBW.out⟩
   have c4:decide ((n:Int)≤300)=true:=decide_eq_true k4
   by_cases k5:(j:Int)≤16
   rotate_left
   ·have c5:decide ((j:Int)≤16)=false:=decide_eq_false k5
    go_wp2_with fail
    go_ret
    first|exact ⟨false,rfl,HBW.out,fun h=>by cases h⟩|exact .inl ⟨rfl,HBW.out⟩
   have c5:decide ((j:Int)≤16)=true:=decide_eq_true k5
   by_cases k6:(x.att.r.length:Int)≤40
   rotate_left
   ·have c6:decide ((x.att.r.length:Int)≤40)=false:=decide_eq_false k6
    go_wp2_with fail
    go_ret
    first|exact ⟨false,rfl,HBW.out,fun h=>by cases h⟩|exact .inl ⟨rfl,HBW.out⟩
   have c6:decide ((x.att.r.length:Int)≤40)=true:=decide_eq_true k6
   have HCN:=hide (HC.out.under HBW.out (Nat.le_refl _))
   have HCU:=hide (HCN.out.mono (fun _ _=>rfl) (fun b hb=>Nat.lt_of_lt_of_le hb hbsz):RdE entEn wr (Under wr.heap.size) C j x.ents)
   clear HCN
   go_wp2_with (go_at_call 29;refine (EntHas_any wr HCU.out (by omega)).mono ?_;rintro e w3 ⟨r,rfl,hb3,hp⟩;have HP:=hide hp;have HB3:=hide (HBW.out.trans (hb3.mono HBW.out.size));clear hp hb3)
   go_ret
   refine ⟨_,rfl,HB3.out,fun h=>⟨by rw [hml];exact HALL.out,⟨k0,k1⟩,⟨k2,k3⟩,by have:=HD.out;omega,by omega,by omega,HP.out (by simpa using h)⟩⟩
set_option maxRecDepth 100000 in
theorem PBr1_any (x:NodV) {D C:Option Addr} {n c m d:Nat} (w:World) (hD:x.data.length=n) (hC:RdE entEn w (Under w.heap.size) C m x.ents) (hm:m≤9223372036854775807) :
  Calls Tryd.prog 19 #[.agg (nodC x (.slice D n c) (.slice C m d)).toArray] w (fun e w'=>∃p:Bool,e=.returned (.bool p)∧Below w.heap.size w w'∧(p=false→PlainN x)):=by
 have r:=RowL.new w 42 (nodC x (.slice D n c) (.slice C m d))
 have hb:=below_new (below_self w) (.cells (nodC x (.slice D n c) (.slice C m d)).toArray 42)
 have HR:=hide r
 have HB:=hide hb
 have HC:=hide (hC.on hb)
 have HD:=hide hD
 clear r hb hC hD
 go_enter Tryd.func19,Tryd.ntmps19
 go_wp2_with (refine wpList_loadW rfl 42 (.tmp 1) rfl 13 nod_agg nod_size w.heap.size 42 rfl (nodC x (.slice D n c) (.slice C m d)) HR.out rfl ?_)
 refine (PNode_any _ HD.out HC.out hm).mono ?_
 rintro e w3 ⟨p,rfl,hb3,hp⟩
 have HP:=hide hp
 have HB3:=hide (below_step HB.out hb3)
 clear hp hb3
 cases p
 ·go_wp2
  go_ret
  first|exact ⟨true,rfl,HB3.out,fun h=>by cases h⟩|exact .inr ⟨rfl,HB3.out⟩
 ·go_wp2
  go_ret
  have hg:=HP.out (by first|rfl|trivial)
  first|exact ⟨false,rfl,HB3.out,fun _=>hg⟩|exact .inl ⟨rfl,HB3.out,hg⟩|exact .inl ⟨rfl,HB3.out,fun _=>hg⟩
set_option maxRecDepth 100000 in
set_option maxHeartbeats 1600000 in
theorem NodIdx_any {A:Option Addr} {n c:Nat} {l:List NodV} (w:World) (h:RdE nodEn w (Under w.heap.size) A n l) (hm:l.length≤9223372036854775807) (hsm:∀x∈l,x.ents.length≤9223372036854775807) :
  Calls Tryd.prog 28 #[.slice A n c,.func (.func 19) #[] #[]] w (fun e w'=>∃r:Int,e=.returned (.int .i64 r)∧Below w.heap.size w w'∧(r < 0→∀x∈l,PlainN x)):=by
 have H:=hide h
 have hn:=h.1
 clear h
 go_enter Tryd.func28,Tryd.ntmps28
 go_wp2
 go_loopw [8] (fun iv wr=>∃j:Nat,j≤n∧iv=.int .i64 j∧Below w.heap.size w wr∧∀i x,i < j→l[i]?=some x→PlainN x) (fun iv _=>n - (intOf iv).toNat)
 case atStart=>exact ⟨0,by omega,rfl,below_self _,fun i x hi=>by omega⟩
 case round =>
  obtain ⟨j,hj,rfl,hbr,hall⟩:=hrel
  have HBR:=hide hbr
  have HALL:=hide hall
  clear hbr hall
  by_cases hlt:j < n
  ·obtain ⟨x,hx⟩:∃x,l[j]?=some x:=⟨_,List.getElem?_eq_getElem (by omega)⟩
   obtain ⟨b,o,cs,rfl,-,hNd,hc⟩:=(H.out.under HBR.out (Nat.le_refl _)).get_nod hx
   obtain ⟨D,n1,c1,C,m1,d1,rfl,e2,e3,e4,e5⟩:=hNd
   have HC:=hide hc
   have E3:=hide e3.1
   have E5:=hide (e5.mono (fun _ _=>rfl) (fun b hb=>Nat.lt_of_lt_of_le hb HBR.out.size):RdE entEn wr (Under wr.heap.size) C m1 x.ents)
   have hm1:m1≤9223372036854775807:=by rw [←e5.1];exact hsm x (List.mem_of_getElem? hx)
   clear hc e3 e5
   have HX:=hide hx
   clear hx
   go_wp2_with (refine wpList_loadX rfl 42 (.tmp 14) rfl 13 nod_agg nod_size b (o+j*13) rfl (nodC x (.slice D n1 c1) (.slice C m1 d1)) HC.out rfl ?_)
   refine (PBr1_any x wr E3.out E5.out hm1).mono ?_
   rintro e w3 ⟨p,rfl,hb3,hp⟩
   have HP:=hide hp
   have HB3:=hide (below_step HBR.out hb3)
   clear hp hb3
   cases p with
   | true =>
    go_wp2
    go_ret
    exact ⟨(j:Int),rfl,HB3.out,fun h=>by omega⟩
   | false =>
    go_wp2
    go_roundw
    case rel=>exact ⟨j+1,by omega,by go_num,HB3.out,fun i y hi hy=>by
     by_cases e:i=j
     ·subst e
      have:=HX.out.symm.trans hy
      cases this
      exact HP.out (by first|rfl|trivial)
     ·exact HALL.out i y (by omega) hy⟩
    case measure=>simp [intOf];omega
  ·obtain rfl:j=n:=by omega
   go_wp2
   go_ret
   exact ⟨-1,rfl,HBR.out,fun _ x hx=>by
    obtain ⟨i,hi,rfl⟩:=List.mem_iff_getElem.1 hx
    exact HALL.out i _ (by omega) (List.getElem?_eq_getElem hi)⟩
set_option maxRecDepth 100000 in
theorem NodHas_any {A:Option Addr} {n c:Nat} {l:List NodV} (w:World) (h:RdE nodEn w (Under w.heap.size) A n l) (hm:l.length≤9223372036854775807) (hsm:∀x∈l,x.ents.length≤9223372036854775807) :
  Calls Tryd.prog 18 #[.slice A n c,.func (.func 19) #[] #[]] w (fun e w'=>∃r:Bool,e=.returned (.bool r)∧Below w.heap.size w w'∧(r=false→∀x∈l,PlainN x)):=by
 have H:=hide h
 clear h
 go_enter Tryd.func18,Tryd.ntmps18
 go_wp2_with (go_at_call 28;refine (NodIdx_any w H.out hm hsm).mono ?_;rintro e w3 ⟨r,rfl,hb3,hp⟩;have HP:=hide hp;have HB3:=hide hb3;clear hp hb3)
 go_ret
 exact ⟨_,rfl,HB3.out,fun h=>HP.out (by simpa using h)⟩
set_option maxRecDepth 100000 in
theorem PBranch_any {A:Option Addr} {n c:Nat} {many:Int} {ns:List NodV} (w:World) (h:RdE nodEn w (Under w.heap.size) A n ns) (hmany:many≤100000) (hsm:∀x∈ns,x.ents.length≤9223372036854775807) :
  Calls Tryd.prog 10 #[.agg #[.slice A n c],.int .i64 many] w (fun e w'=>∃p:Bool,e=.returned (.bool p)∧Below w.heap.size w w'∧(p=true→(n:Int)≤many∧∀x∈ns,PlainN x)):=by
 have r:=RowL.new w 26 [.slice A n c]
 have hb:=below_new (below_self w) (.cells [.slice A n c].toArray 26)
 have q:(w.alloc (.cells #[.slice A n c] 26)).cell? ⟨w.heap.size,0,none⟩=some (.slice A n c):=r.cell 0
 have HB:=hide hb
 have H:=hide (h.on hb)
 have hl:=h.1
 clear r hb h
 by_cases k0:(n:Int)≤many
 rotate_left
 ·have c0:decide ((n:Int)≤many)=false:=decide_eq_false k0
  go_enter Tryd.func10,Tryd.ntmps10
  go_wp2
  go_ret
  first|exact ⟨false,rfl,HB.out,fun h=>by cases h⟩|exact .inl ⟨rfl,HB.out⟩
 have c0:decide ((n:Int)≤many)=true:=decide_eq_true k0
 have hlm:ns.length≤9223372036854775807:=by omega
 go_enter Tryd.func10,Tryd.ntmps10
 go_wp2_with fail
 refine (NodHas_any _ H.out hlm hsm).mono ?_
 rintro e w3 ⟨p,rfl,hb3,hp⟩
 have HP:=hide hp
 have HB3:=hide (below_step HB.out hb3)
 clear hp hb3
 cases p
 ·go_wp2
  go_ret
  have hg:=HP.out (by first|rfl|trivial)
  first|exact ⟨true,rfl,HB3.out,fun _=>⟨k0,hg⟩⟩|exact .inr ⟨rfl,HB3.out,k0,hg⟩|exact .inr ⟨rfl,HB3.out,fun _=>⟨k0,hg⟩⟩
 ·go_wp2
  go_ret
  first|exact ⟨false,rfl,HB3.out,fun h=>by cases h⟩|exact .inl ⟨rfl,HB3.out⟩
end Go.Proofs.YtpndfahgflgocaaDoor

