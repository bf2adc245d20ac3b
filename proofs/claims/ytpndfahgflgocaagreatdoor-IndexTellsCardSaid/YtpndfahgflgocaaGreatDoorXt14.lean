import Derived.Test.YtpndfahgflgocaaGreatDoorXt13
import Derived.Test.YtpndfahgflgocaaGreatDoorXt11
import Derived.BigQuiet
import Derived.BigRegion
import Derived.Deep.QuietTactic
import Derived.Test.YtpndfahgflgocaaGreatDoorXt1
import Derived.Test.YtpndfahgflgocaaGreatDoorXt2
import Derived.WalkKit
import Derived.OpenShut
import Derived.ChangeArms
import Derived.Lib.SmallJoins
import Derived.ProofKit

namespace Go.Proofs.YtpndfahgflgocaaGreatDoor
open Go.RowKit Go.Shelf Plain

def RiseE (l:List EntV) (k:Nat):Prop:=∀i e,i < k→l[i]?=some e→0≤e.slot∧e.slot < 16∧∀p,0 < i→l[i - 1]?=some p→p.slot < e.slot
def PlainN (x:NodV):Prop:=RiseE x.ents x.ents.length∧(0≤x.k∧x.k≤4)∧(0≤x.att.h∧x.att.h≤31)∧x.data.length≤300∧x.ents.length≤16∧x.att.r.length≤40∧∀e∈x.ents,nameB e.name=true
theorem RRight_all (l:List UInt8) (w:World):Calls Tryz.prog 88 #[.string ⟨l.toArray⟩] w fun e w'=>e=.returned (.bool (nameB l))∧w=w':=by
 by_cases hl:l.length≤12
 ·exact RNRight_any l w (by omega)
 ·have hr:nameB l=false:=by
   have:decide (1≤l.length∧l.length≤12)=false:=by simp;omega
   simp [nameB,this]
  rw [hr]
  clear hr
  have d1:decide ((l.length:Int) < 1)=false:=by simp;omega
  have d2:decide ((12:Int) < (l.length:Int))=true:=by simp;omega
  go_enter Tryz.func88,Tryz.ntmps88
  go_wp2
  go_ret
  exact ⟨rfl,rfl⟩
theorem rise_succ {l:List EntV} {j:Nat} {e:EntV} (h:RiseE l j) (he:l[j]?=some e) (h0:0≤e.slot) (h1:e.slot < 16) (h2:∀p,0 < j→l[j - 1]?=some p→p.slot < e.slot):RiseE l (j+1):=by
 intro i x hi hx
 by_cases hij:i=j
 ·subst hij
  rw [he] at hx
  cases hx
  exact ⟨h0,h1,h2⟩
 ·exact h i x (by omega) hx
set_option maxRecDepth 100000 in
theorem odd_any (x:EntV) (w:World):Calls Tryz.prog 63 #[.agg (cellsE x).toArray] w (fun e w'=>∃p:Bool,e=.returned (.bool p)∧Below w.heap.size w w'∧(p=false→nameB x.name=true)):=by
 have r:=RowL.new w 31 (cellsE x)
 have hb:=below_new (below_self w) (.cells (cellsE x).toArray 31)
 have q:(w.alloc (.cells (cellsE x).toArray 31)).cell? ⟨w.heap.size,2,none⟩=some (.string ⟨x.name.toArray⟩):=r.cell 2
 have HB:=hide hb
 clear r hb
 go_enter Tryz.func63,Tryz.ntmps63
 go_wp2_with (go_at_call 88;refine (RRight_all x.name _).mono ?_;rintro e w3 ⟨rfl,rfl⟩)
 go_ret
 exact ⟨_,rfl,HB.out,fun h=>by simpa using h⟩
set_option maxRecDepth 100000 in
set_option maxHeartbeats 1600000 in
theorem EntIdx_any {A:Option Addr} {n c:Nat} {l:List EntV} (w:World) (h:RdE entEn w (Under w.heap.size) A n l) (hm:l.length≤9223372036854775807) :
  Calls Tryz.prog 87 #[.slice A n c,.func (.func 63) #[] #[]] w (fun e w'=>∃r:Int,e=.returned (.int .i64 r)∧Below w.heap.size w w'∧(r < 0→∀x∈l,nameB x.name=true)):=by
 have H:=hide h
 have hn:=h.1
 clear h
 go_enter Tryz.func87,Tryz.ntmps87
 go_wp2
 go_loopw [8] (fun iv wr=>∃j:Nat,j≤n∧iv=.int .i64 j∧Below w.heap.size w wr∧∀i x,i < j→l[i]?=some x→nameB x.name=true) (fun iv _=>n - (intOf iv).toNat)
 case atStart=>exact ⟨0,by omega,rfl,below_self _,fun i x hi=>by omega⟩
 case round =>
  obtain ⟨j,hj,rfl,hbr,hall⟩:=hrel
  have HBR:=hide hbr
  have HALL:=hide hall
  clear hbr hall
  by_cases hlt:j < n
  ·obtain ⟨x,hx⟩:∃x,l[j]?=some x:=⟨_,List.getElem?_eq_getElem (by omega)⟩
   obtain ⟨b,o,rfl,-,hc⟩:=ent_get (H.out.under HBR.out (Nat.le_refl _)) hx
   have HC:=hide hc
   clear hc
   have HX:=hide hx
   clear hx
   go_wp2_with (refine wpList_loadX rfl 31 (.tmp 14) rfl 3 entw_agg entw_size b (o+j*3) rfl (cellsE x) HC.out rfl ?_)
   refine (odd_any x wr).mono ?_
   rintro e w3 ⟨p,rfl,hb3,hp⟩
   have HP:=hide hp
   have HB3:=hide (below_step HBR.out hb3)
   clear hp hb3
   cases p with
   | true =>
    go_wp2
    go_ret
    exact ⟨(j:Int),rfl,HB3.out,fun h=>by omega⟩
   | false =>
    go_wp2
    go_roundw
    case rel=>exact ⟨j+1,by omega,by go_num,HB3.out,fun i y hi hy=>by
     by_cases e:i=j
     ·subst e
      have:=HX.out.symm.trans hy
      cases this
      exact HP.out (by first|rfl|trivial)
     ·exact HALL.out i y (by omega) hy⟩
    case measure=>simp [intOf];omega
  ·obtain rfl:j=n:=by omega
   go_wp2
   go_ret
   exact ⟨-1,rfl,HBR.out,fun _ x hx=>by
    obtain ⟨i,hi,rfl⟩:=List.mem_iff_getElem.1 hx
    exact HALL.out i _ (by omega) (List.getElem?_eq_getElem hi)⟩
set_option maxRecDepth 100000 in
theorem EntHas_any {A:Option Addr} {n c:Nat} {l:List EntV} (w:World) (h:RdE entEn w (Under w.heap.size) A n l) (hm:l.length≤9223372036854775807) :
  Calls Tryz.prog 62 #[.slice A n c,.func (.func 63) #[] #[]] w (fun e w'=>∃r:Bool,e=.returned (.bool r)∧Below w.heap.size w w'∧(r=false→∀x∈l,nameB x.name=true)):=by
 have H:=hide h
 clear h
 go_enter Tryz.func62,Tryz.ntmps62
 go_wp2_with (go_at_call 87;refine (EntIdx_any w H.out hm).mono ?_;rintro e w3 ⟨r,rfl,hb3,hp⟩;have HP:=hide hp;have HB3:=hide hb3;clear hp hb3)
 go_ret
 exact ⟨_,rfl,HB3.out,fun h=>HP.out (by simpa using h)⟩
set_option maxRecDepth 100000 in
set_option maxHeartbeats 16000000 in
theorem PNode_any {D C:Option Addr} {n c m d:Nat} {x:NodV} (w:World) (hD:x.data.length=n) (hC:RdE entEn w (Under w.heap.size) C m x.ents) (hm:m≤9223372036854775807) :
  Calls Tryz.prog 44 #[.agg (nodC x (.slice D n c) (.slice C m d)).toArray] w (fun e w'=>∃p:Bool,e=.returned (.bool p)∧Below w.heap.size w w'∧(p=true→PlainN x)):=by
 have hb:=below_new (below_self w) (.cells (nodC x (.slice D n c) (.slice C m d)).toArray 51)
 obtain ⟨W1,hW1⟩:∃W1,w.alloc (.cells (nodC x (.slice D n c) (.slice C m d)).toArray 51)=W1:=⟨_,rfl⟩
 have r:=RowL.new w 51 (nodC x (.slice D n c) (.slice C m d))
 rw [hW1] at hb r
 have hW1':w.alloc (.cells #[.int .i64 x.k,.int .i64 x.p,.int .i64 x.n,.int .i64 x.g,.slice D n c,.slice C m d,.int .i64 x.att.h,.int .i64 x.att.o,.string ⟨x.att.r.toArray⟩,.int .i64 x.att.l,.int .i64 x.att.i,.int .i64 x.att.g,.int .i64 x.att.s] 51)=W1:=hW1
 have q5:W1.cell? ⟨w.heap.size,5,none⟩=some (.slice C m d):=r.cell 5
 have R:=hide r
 have HB:=hide hb
 have HC:=hide hC
 have HD:=hide hD
 have hml:=hC.1
 unfold nodC
 clear r hb hC hD hW1
 go_enter Tryz.func44,Tryz.ntmps44
 go_wp2
 clear hW1' q5
 go_loopw [8] (fun iv wr=>∃j:Nat,j≤m∧iv=.int .i64 j∧Below W1.heap.size W1 wr∧RiseE x.ents j) (fun iv _=>m - (intOf iv).toNat)
 case atStart=>exact ⟨0,by omega,rfl,below_self _,fun i e hi=>by omega⟩
 case round =>
  obtain ⟨j,hj,rfl,hbr,hall⟩:=hrel
  have HBR:=hide hbr
  have HALL:=hide hall
  have HBW:=hide (HB.out.trans (hbr.mono HB.out.size))
  have hbsz:=HBW.out.size
  have hgl:=(R.out.on hbr).lt
  clear hbr hall
  by_cases hlt:j < m
  ·obtain ⟨e,he⟩:∃e,x.ents[j]?=some e:=⟨_,List.getElem?_eq_getElem (by omega)⟩
   obtain ⟨b,o,hCe,-,hc⟩:=ent_get (HC.out.under HBW.out (Nat.le_refl _)) he
   have HCC:=hide (fun j v hv=>show wr.cell? ⟨b,o+_*3+j,none⟩=some v from hc j v hv)
   have HE:=hide he
   have HP0:Hid (∀p,x.ents[j - 1]?=some p→wr.cell? ⟨b,o+(j - 1)*3,none⟩=some (.int .i64 p.slot)):=hide (fun p hp=>by
    obtain ⟨b',o',e',-,hc'⟩:=ent_get (HC.out.under HBW.out (Nat.le_refl _)) hp
    rw [hCe] at e'
    cases e'
    exact hc' 0 _ rfl)
   have HZ:=hide (RowL.new wr 31 [.int .i64 0,.int .i64 0,.string ⟨#[]⟩])
   have HCN:=hide (HC.out.under HBW.out (Nat.le_refl _))
   subst hCe
   clear hc he
   go_wp2_with (first|(refine wpList_loadX rfl 31 (.tmp 11) rfl 3 entw_agg entw_size b (o+j*3) rfl (cellsE e) HCC.out rfl ?_)|(refine wpList_storeW rfl 31 (.tmp 4) (.tmp 12) rfl 3 entw_size wr.heap.size 31 rfl [.int .i64 0,.int .i64 0,.string ⟨#[]⟩] (cellsE e) rfl HZ.out rfl rfl (cellsE_one e) ?_;intro w3 hr3 hg3 hs3;have HB3:=hide (below_stored' hg3);have HR3:=hide hr3;clear hr3 hg3 hs3))
   simp only [Act.put]
   have qs:w3.cell? ⟨wr.heap.size,0,none⟩=some (.int .i64 e.slot):=HR3.out.cell 0
   have hb3:=HBR.out.trans (HB3.out.mono HBR.out.size)
   have hbe:b < wr.heap.size:=by have h5:=HC.out.2 (by omega);obtain ⟨b5,o5,e5,hlt5,-⟩:=h5;cases e5;have:b < w.heap.size:=hlt5;omega
   have qn:w3.cell? ⟨w.heap.size,5,none⟩=some (.slice (some ⟨b,o,none⟩) m d):=(R.out.on hb3).cell 5
   have HB3w:=hide hb3
   clear hb3
   clear HCC HCN HBW HZ HC
   by_cases h0:e.slot < 0
   ·have d0:decide (e.slot < 0)=true:=by simpa using h0
    go_quiet (fail)
    go_wp2
    go_ret
    first|exact ⟨false,rfl,(HB.out.trans ((below_drewN HB3w.out _).mono HB.out.size)),fun h=>by cases h⟩|exact .inl ⟨rfl,(HB.out.trans ((below_drewN HB3w.out _).mono HB.out.size))⟩
   have d0:decide (e.slot < 0)=false:=by simpa using h0
   by_cases h1:16≤e.slot
   ·have d1:decide (16≤e.slot)=true:=by simpa using h1
    go_quiet (fail)
    go_wp2
    go_ret
    first|exact ⟨false,rfl,(HB.out.trans ((below_drewN HB3w.out _).mono HB.out.size)),fun h=>by cases h⟩|exact .inl ⟨rfl,(HB.out.trans ((below_drewN HB3w.out _).mono HB.out.size))⟩
   have d1:decide (16≤e.slot)=false:=by simpa using h1
   by_cases h2:j=0
   ·have d2:decide (0 < (j:Int))=false:=by simp;omega
    have d2b:decide (0 < j)=false:=by simp;omega
    have HRS:=hide (rise_succ HALL.out HE.out (by omega) (by omega) (fun p hp=>by omega))
    clear h2
    go_quiet (fail)
    go_wp2
    go_roundw
    case rel=>exact ⟨j+1,by omega,by go_num,below_drewN HB3w.out _,HRS.out⟩
    case measure=>simp [intOf];omega
   have d2:decide (0 < (j:Int))=true:=by simp;omega
   have d2b:decide (0 < j)=true:=by simp;omega
   obtain ⟨p,hp⟩:∃p,x.ents[j - 1]?=some p:=⟨_,List.getElem?_eq_getElem (by omega)⟩
   have qp:w3.cell? ⟨b,o+(j - 1)*3,none⟩=some (.int .i64 p.slot):=(HB3.out.cell (p:=⟨b,o+(j - 1)*3,none⟩) hbe).trans (HP0.out p hp)
   have hw:IntKind.i64.wrap ((j:Int) - 1)=((j - 1:Nat):Int):=by rw [show (j:Int) - 1=((j - 1:Nat):Int) from by omega];exact IntWalk.i64_in _ (by omega)
   have hj1:j - 1 < m:=by omega
   have hj2:((j - 1:Nat):Int) < (m:Int):=by omega
   by_cases h3:e.slot≤p.slot
   ·have d3:decide (e.slot≤p.slot)=true:=by simpa using h3
    clear hp
    go_quiet (fail)
    go_wp2
    go_ret
    first|exact ⟨false,rfl,(HB.out.trans ((below_drewN HB3w.out _).mono HB.out.size)),fun h=>by cases h⟩|exact .inl ⟨rfl,(HB.out.trans ((below_drewN HB3w.out _).mono HB.out.size))⟩
   have d3:decide (e.slot≤p.slot)=false:=by simpa using h3
   have HRS:=hide (rise_succ HALL.out HE.out (by omega) (by omega) (fun y hy hy2=>by rw [hp] at hy2;cases hy2;omega))
   clear hp
   go_quiet (fail)
   go_wp2
   go_roundw
   case rel=>exact ⟨j+1,by omega,by go_num,below_drewN HB3w.out _,HRS.out⟩
   case measure=>simp [intOf];omega
  ·obtain rfl:j=m:=by omega
   have q0:wr.cell? ⟨w.heap.size,0,none⟩=some (.int .i64 x.k):=(R.out.on HBR.out).cell 0
   have q4:wr.cell? ⟨w.heap.size,4,none⟩=some (.slice D n c):=(R.out.on HBR.out).cell 4
   have q5:wr.cell? ⟨w.heap.size,5,none⟩=some (.slice C j d):=(R.out.on HBR.out).cell 5
   have q6:wr.cell? ⟨w.heap.size,6,none⟩=some (.int .i64 x.att.h):=(R.out.on HBR.out).cell 6
   have q8:wr.cell? ⟨w.heap.size,8,none⟩=some (.string ⟨x.att.r.toArray⟩):=(R.out.on HBR.out).cell 8
   by_cases k0:0≤x.k
   rotate_left
   ·have c0:decide (0≤x.k)=false:=decide_eq_false k0
    go_wp2_with fail
    go_ret
    first|exact ⟨false,rfl,HBW.out,fun h=>by cases h⟩|exact .inl ⟨rfl,HBW.out⟩
   have c0:decide (0≤x.k)=true:=decide_eq_true k0
   by_cases k1:x.k≤4
   rotate_left
   ·have c1:decide (x.k≤4)=false:=decide_eq_false k1
    go_wp2_with fail
    go_ret
    first|exact ⟨false,rfl,HBW.out,fun h=>by cases h⟩|exact .inl ⟨rfl,HBW.out⟩
   have c1:decide (x.k≤4)=true:=decide_eq_true k1
   by_cases k2:0≤x.att.h
   rotate_left
   ·have c2:decide (0≤x.att.h)=false:=decide_eq_false k2
    go_wp2_with fail
    go_ret
    first|exact ⟨false,rfl,HBW.out,fun h=>by cases h⟩|exact .inl ⟨rfl,HBW.out⟩
   have c2:decide (0≤x.att.h)=true:=decide_eq_true k2
   by_cases k3:x.att.h≤31
   rotate_left
   ·have c3:decide (x.att.h≤31)=false:=decide_eq_false k3
    go_wp2_with fail
    go_ret
    first|exact ⟨false,rfl,HBW.out,fun h=>by cases h⟩|exact .inl ⟨rfl,HBW.out⟩
   have c3:decide (x.att.h≤31)=true:=decide_eq_true k3
   by_cases k4:(n:Int)≤300
   rotate_left
   ·have c4:decide ((n:Int)≤300)=false:=decide_eq_false k4
    go_wp2_with fail
    go_ret
    first|exact ⟨false,rfl,HBW.out,fun h=>by cases h⟩|exact .inl ⟨rfl,HBW.out⟩
   have c4:decide ((n:Int)≤300)=true:=decide_eq_true k4
   by_cases k5:(j:Int)≤16
   rotate_left
   ·have c5:decide ((j:Int)≤16)=false:=decide_eq_false k5
    go_wp2_with fail
    go_ret
    first|exact ⟨false,rfl,HBW.out,fun h=>by cases h⟩|exact .inl ⟨rfl,HBW.out⟩
   have c5:decide ((j:Int)≤16)=true:=decide_eq_true k5
   by_cases k6:(x.att.r.length:Int)≤40
   rotate_left
   ·have c6:decide ((x.att.r.length:Int)≤40)=false:=decide_eq_false k6
    go_wp2_with fail
    go_ret
    first|exact ⟨false,rfl,HBW.out,fun h=>by cases h⟩|exact .inl ⟨rfl,HBW.out⟩
   have c6:decide ((x.att.r.length:Int)≤40)=true:=decide_eq_true k6
   have HCN:=hide (HC.out.under HBW.out (Nat.le_refl _))
   have HCU:=hide (HCN.out.mono (fun _ _=>rfl) (fun b hb=>Nat.lt_of_lt_of_le hb hbsz):RdE entEn wr (Under wr.heap.size) C j x.ents)
   clear HCN
   go_wp2_with (go_at_call 62;refine (EntHas_any wr HCU.out (by omega)).mono ?_;rintro e w3 ⟨r,rfl,hb3,hp⟩;have HP:=hide hp;have HB3:=hide (HBW.out.trans (hb3.mono HBW.out.size));clear hp hb3)
   go_ret
   refine ⟨_,rfl,HB3.out,fun h=>⟨by rw [hml];exact HALL.out,⟨k0,k1⟩,⟨k2,k3⟩,by have:=HD.out;omega,by omega,by omega,HP.out (by simpa using h)⟩⟩
set_option maxRecDepth 100000 in
theorem PBr1_any (x:NodV) {D C:Option Addr} {n c m d:Nat} (w:World) (hD:x.data.length=n) (hC:RdE entEn w (Under w.heap.size) C m x.ents) (hm:m≤9223372036854775807) :
  Calls Tryz.prog 43 #[.agg (nodC x (.slice D n c) (.slice C m d)).toArray] w (fun e w'=>∃p:Bool,e=.returned (.bool p)∧Below w.heap.size w w'∧(p=false→PlainN x)):=by
 have r:=RowL.new w 51 (nodC x (.slice D n c) (.slice C m d))
 have hb:=below_new (below_self w) (.cells (nodC x (.slice D n c) (.slice C m d)).toArray 51)
 have HR:=hide r
 have HB:=hide hb
 have HC:=hide (hC.on hb)
 have HD:=hide hD
 clear r hb hC hD
 go_enter Tryz.func43,Tryz.ntmps43
 go_wp2_with (refine wpList_loadW rfl 51 (.tmp 1) rfl 13 nod_agg nod_size w.heap.size 51 rfl (nodC x (.slice D n c) (.slice C m d)) HR.out rfl ?_)
 refine (PNode_any _ HD.out HC.out hm).mono ?_
 rintro e w3 ⟨p,rfl,hb3,hp⟩
 have HP:=hide hp
 have HB3:=hide (below_step HB.out hb3)
 clear hp hb3
 cases p
 ·go_wp2
  go_ret
  first|exact ⟨true,rfl,HB3.out,fun h=>by cases h⟩|exact .inr ⟨rfl,HB3.out⟩
 ·go_wp2
  go_ret
  have hg:=HP.out (by first|rfl|trivial)
  first|exact ⟨false,rfl,HB3.out,fun _=>hg⟩|exact .inl ⟨rfl,HB3.out,hg⟩|exact .inl ⟨rfl,HB3.out,fun _=>hg⟩
set_option maxRecDepth 100000 in
set_option maxHeartbeats 1600000 in
theorem NodIdx_any {A:Option Addr} {n c:Nat} {l:List NodV} (w:World) (h:RdE nodEn w (Under w.heap.size) A n l) (hm:l.length≤9223372036854775807) (hsm:∀x∈l,x.ents.length≤9223372036854775807) :
  Calls Tryz.prog 61 #[.slice A n c,.func (.func 43) #[] #[]] w (fun e w'=>∃r:Int,e=.returned (.int .i64 r)∧Below w.heap.size w w'∧(r < 0→∀x∈l,PlainN x)):=by
 have H:=hide h
 have hn:=h.1
 clear h
 go_enter Tryz.func61,Tryz.ntmps61
 go_wp2
 go_loopw [8] (fun iv wr=>∃j:Nat,j≤n∧iv=.int .i64 j∧Below w.heap.size w wr∧∀i x,i < j→l[i]?=some x→PlainN x) (fun iv _=>n - (intOf iv).toNat)
 case atStart=>exact ⟨0,by omega,rfl,below_self _,fun i x hi=>by omega⟩
 case round =>
  obtain ⟨j,hj,rfl,hbr,hall⟩:=hrel
  have HBR:=hide hbr
  have HALL:=hide hall
  clear hbr hall
  by_cases hlt:j < n
  ·obtain ⟨x,hx⟩:∃x,l[j]?=some x:=⟨_,List.getElem?_eq_getElem (by omega)⟩
   obtain ⟨b,o,cs,rfl,-,hNd,hc⟩:=(H.out.under HBR.out (Nat.le_refl _)).get_nod hx
   obtain ⟨D,n1,c1,C,m1,d1,rfl,e2,e3,e4,e5⟩:=hNd
   have HC:=hide hc
   have E3:=hide e3.1
   have E5:=hide (e5.mono (fun _ _=>rfl) (fun b hb=>Nat.lt_of_lt_of_le hb HBR.out.size):RdE entEn wr (Under wr.heap.size) C m1 x.ents)
   have hm1:m1≤9223372036854775807:=by rw [←e5.1];exact hsm x (List.mem_of_getElem? hx)
   clear hc e3 e5
   have HX:=hide hx
   clear hx
   go_wp2_with (refine wpList_loadX rfl 51 (.tmp 14) rfl 13 nod_agg nod_size b (o+j*13) rfl (nodC x (.slice D n1 c1) (.slice C m1 d1)) HC.out rfl ?_)
   refine (PBr1_any x wr E3.out E5.out hm1).mono ?_
   rintro e w3 ⟨p,rfl,hb3,hp⟩
   have HP:=hide hp
   have HB3:=hide (below_step HBR.out hb3)
   clear hp hb3
   cases p with
   | true =>
    go_wp2
    go_ret
    exact ⟨(j:Int),rfl,HB3.out,fun h=>by omega⟩
   | false =>
    go_wp2
    go_roundw
    case rel=>exact ⟨j+1,by omega,by go_num,HB3.out,fun i y hi hy=>by
     by_cases e:i=j
     ·subst e
      have:=HX.out.symm.trans hy
      cases this
      exact HP.out (by first|rfl|trivial)
     ·exact HALL.out i y (by omega) hy⟩
    case measure=>simp [intOf];omega
  ·obtain rfl:j=n:=by omega
   go_wp2
   go_ret
   exact ⟨-1,rfl,HBR.out,fun _ x hx=>by
    obtain ⟨i,hi,rfl⟩:=List.mem_iff_getElem.1 hx
    exact HALL.out i _ (by omega) (List.getElem?_eq_getElem hi)⟩
set_option maxRecDepth 100000 in
theorem NodHas_any {A:Option Addr} {n c:Nat} {l:List NodV} (w:World) (h:RdE nodEn w (Under w.heap.size) A n l) (hm:l.length≤9223372036854775807) (hsm:∀x∈l,x.ents.length≤9223372036854775807) :
  Calls Tryz.prog 42 #[.slice A n c,.func (.func 43) #[] #[]] w (fun e w'=>∃r:Bool,e=.returned (.bool r)∧Below w.heap.size w w'∧(r=false→∀x∈l,PlainN x)):=by
 have H:=hide h
 clear h
 go_enter Tryz.func42,Tryz.ntmps42
 go_wp2_with (go_at_call 61;refine (NodIdx_any w H.out hm hsm).mono ?_;rintro e w3 ⟨r,rfl,hb3,hp⟩;have HP:=hide hp;have HB3:=hide hb3;clear hp hb3)
 go_ret
 exact ⟨_,rfl,HB3.out,fun h=>HP.out (by simpa using h)⟩
set_option maxRecDepth 100000 in
theorem PBranch_any {A:Option Addr} {n c:Nat} {many:Int} {ns:List NodV} (w:World) (h:RdE nodEn w (Under w.heap.size) A n ns) (hmany:many≤100000) (hsm:∀x∈ns,x.ents.length≤9223372036854775807) :
  Calls Tryz.prog 21 #[.agg #[.slice A n c],.int .i64 many] w (fun e w'=>∃p:Bool,e=.returned (.bool p)∧Below w.heap.size w w'∧(p=true→(n:Int)≤many∧∀x∈ns,PlainN x)):=by
 have r:=RowL.new w 26 [.slice A n c]
 have hb:=below_new (below_self w) (.cells [.slice A n c].toArray 26)
 have q:(w.alloc (.cells #[.slice A n c] 26)).cell? ⟨w.heap.size,0,none⟩=some (.slice A n c):=r.cell 0
 have HB:=hide hb
 have H:=hide (h.on hb)
 have hl:=h.1
 clear r hb h
 by_cases k0:(n:Int)≤many
 rotate_left
 ·have c0:decide ((n:Int)≤many)=false:=decide_eq_false k0
  go_enter Tryz.func21,Tryz.ntmps21
  go_wp2
  go_ret
  first|exact ⟨false,rfl,HB.out,fun h=>by cases h⟩|exact .inl ⟨rfl,HB.out⟩
 have c0:decide ((n:Int)≤many)=true:=decide_eq_true k0
 have hlm:ns.length≤9223372036854775807:=by omega
 go_enter Tryz.func21,Tryz.ntmps21
 go_wp2_with fail
 refine (NodHas_any _ H.out hlm hsm).mono ?_
 rintro e w3 ⟨p,rfl,hb3,hp⟩
 have HP:=hide hp
 have HB3:=hide (below_step HB.out hb3)
 clear hp hb3
 cases p
 ·go_wp2
  go_ret
  have hg:=HP.out (by first|rfl|trivial)
  first|exact ⟨true,rfl,HB3.out,fun _=>⟨k0,hg⟩⟩|exact .inr ⟨rfl,HB3.out,k0,hg⟩|exact .inr ⟨rfl,HB3.out,fun _=>⟨k0,hg⟩⟩
 ·go_wp2
  go_ret
  first|exact ⟨false,rfl,HB3.out,fun h=>by cases h⟩|exact .inl ⟨rfl,HB3.out⟩
end Go.Proofs.YtpndfahgflgocaaGreatDoor

namespace Go.Proofs.YtpndfahgflgocaaGreatDoor
open Go.RowKit Plain

def lowAt (ls:List (List NodV)) (la i:Int):NodV:=if 1≤la∧la≤(ls.length:Int) then nodAt ((ls[(la - 1).toNat]?).getD []) i else nod0
theorem low_out {ls:List (List NodV)} {la i:Int} (h:¬(1≤la∧la≤(ls.length:Int))):lowAt ls la i=nod0:=by unfold lowAt;rw [if_neg h]
theorem low_in {ls:List (List NodV)} {la i:Int} (h:1≤la∧la≤(ls.length:Int)):∃(j:Nat) (ns:List NodV),la=(j:Int)+1∧ls[j]?=some ns∧lowAt ls la i=nodAt ns i:=by
 obtain ⟨j,hj⟩:=Int.eq_ofNat_of_zero_le (show 0≤la - 1 by omega)
 have hl:j < ls.length:=by omega
 refine ⟨j,ls[j],by omega,List.getElem?_eq_getElem hl,?_⟩
 unfold lowAt
 rw [if_pos h,hj]
 simp [hl]
def FewL (ls:List (List NodV)):Prop:=ls.length≤3∧∀ns∈ls,ns.length≤24∧∀x∈ns,PlainN x
theorem plain0:PlainN nod0:=by
 refine ⟨fun i e _ h=>by simp [nod0] at h,?_,?_,?_,?_,?_,fun e h=>by simp [nod0] at h⟩ <;> simp [nod0,att0]
theorem nodAt_plain {ns:List NodV} (h:∀x∈ns,PlainN x) (i:Int):PlainN (nodAt ns i):=by
 unfold nodAt
 split
 ·cases hx:ns[(i - 1).toNat]? with
  | none=>exact plain0
  | some x=>exact h x (List.mem_of_getElem? hx)
 ·exact plain0
theorem low_plain {ls:List (List NodV)} (h:FewL ls) (la i:Int):PlainN (lowAt ls la i):=by
 by_cases hh:1≤la∧la≤(ls.length:Int)
 ·obtain ⟨j,ns,-,hn,e⟩:=low_in (i:=i) hh
  rw [e]
  exact nodAt_plain (h.2 ns (List.mem_of_getElem? hn)).2 i
 ·rw [low_out hh]
  exact plain0
def layL (ls:List (List NodV)) (la:Int):List NodV:=if 1≤la∧la≤(ls.length:Int) then (ls[(la - 1).toNat]?).getD [] else []
theorem nodAt_nil (i:Int):nodAt [] i=nod0:=by unfold nodAt;rw [if_neg];simp;omega
theorem lay_at (ls:List (List NodV)) (la i:Int):nodAt (layL ls la) i=lowAt ls la i:=by
 unfold layL lowAt
 split
 ·rfl
 ·exact nodAt_nil i
def entB (ns:List NodV) (i:Int):List EntV:=if (nodAt ns i).k=1 then (nodAt ns i).ents else []
end Go.Proofs.YtpndfahgflgocaaGreatDoor

namespace Go.Proofs.YtpndfahgflgocaaGreatDoor
open Go.RowKit Plain Go.ChangeShapes Go.WideShapes

section
variable {α H : Type} {enc : TypeId × Value → H} {P : Program} {w : World} {spare : Nat → Bool} {held : Bool}
theorem open_rde {t e : TypeId} {fuel : Nat} {cs : List Value} {x : DataW H × List MemPlace} (E : Enc α) (ht : P.underlying t = some (.slice e)) (hc : P.cellsOf e = E.k) (hk : 0 < E.k)
  (hel:∀n cs y,cs.length=E.k→DataW.trod enc P w 0 spare held n e cs=some y→∃x,E.R w (Under w.heap.size) cs x)
  (h:DataW.trod enc P w 0 spare held fuel t cs=some x):∃A n c l,cs=[.slice A n c]∧n≤c∧RdE E w (Under w.heap.size) A n l:=by
 rcases DataW.trod_slice ht h with ⟨rfl,-⟩|⟨a,len,cap,elems,rest,n,-,rfl,-,-,hl,-,hlen,hcel,-,-⟩
 ·exact ⟨_,_,_,[],rfl,Nat.le_refl _,RdE.none_ _ _ _ _⟩
 ·have each:∀i,i < len→∃y,∃cs,w.cells? 0 (a.add (i*E.k)) E.k=some cs∧E.R w (Under w.heap.size) cs y:=by
   intro i hi
   have h1:=hcel i hi
   rw [hc,List.getElem?_eq_getElem (by omega),Option.bind_eq_some_iff] at h1
   obtain ⟨cs',hcs,hy⟩:=h1
   obtain ⟨x,hx⟩:=hel _ _ _ (World.cells?_some hcs).2.1 hy
   exact ⟨x,cs',hcs,hx⟩
  refine ⟨_,_,_,List.ofFn (fun i:Fin len=>Classical.choose (each i.1 i.2)),rfl,hl,by simp,fun hn=>?_⟩
  obtain ⟨y,cs0,hcs0,-⟩:=each 0 hn
  obtain ⟨-,hl0,h0⟩:=World.cells?_some hcs0
  have hcell0:=h0 0 hk
  rw [List.getElem?_eq_getElem (by omega)] at hcell0
  obtain ⟨b,off,spot⟩:=a
  have hspot:spot=none:=by simpa [Addr.add] using World.cell?_spot hcell0
  subst hspot
  have hadd:∀o i,(⟨b,o,none⟩:Addr).add i=⟨b,o+i,none⟩:=by
   intro o i
   unfold Addr.add
   split
   ·rename_i h0;subst h0;rfl
   ·rfl
  refine ⟨b,off,rfl,?_,fun i y hy=>?_⟩
  ·have:=block_lt_of_cell hcell0
   rw [hadd,hadd] at this
   exact this
  ·rw [List.getElem?_ofFn] at hy
   split at hy
   ·next hi =>
    obtain rfl:=Option.some.inj hy
    obtain ⟨cs,hcs,hr⟩:=Classical.choose_spec (each i hi)
    obtain ⟨-,hl1,h1⟩:=World.cells?_some hcs
    refine ⟨cs,hr,fun j v hj=>?_⟩
    have hjl:=(List.getElem?_eq_some_iff.1 hj).1
    have:=h1 j (by omega)
    rw [hadd,hadd,hj] at this
    rw [←this,Nat.add_assoc]
   ·cases hy
end
end Go.Proofs.YtpndfahgflgocaaGreatDoor

namespace Go.Proofs.YtpndfahgflgocaaGreatDoor
open Go.RowKit Go.Shelf Plain Go.WideShapes Go.ChangeShapes

section
variable {H : Type} {enc : TypeId × Value → H} {w : World} {base : Nat} {spare : Nat → Bool} {held : Bool}
theorem cell_i64 {n:Nat} {c:Value} {y:DataW H×List MemPlace} (h:DataW.trod enc Tryz.prog w base spare held n 3 [c]=some y):∃a:Int,c=.int .i64 a:=by
 obtain ⟨a,e,hy,-⟩:=DataW.trod_int Tryz.underlying3 h
 exact ⟨a,by simpa using e⟩
theorem cell_str {n:Nat} {c:Value} {y:DataW H×List MemPlace} (h:DataW.trod enc Tryz.prog w base spare held n 9 [c]=some y):∃l:List UInt8,c=.string ⟨l.toArray⟩:=by
 obtain ⟨s,e,hy,-⟩:=DataW.trod_string Tryz.underlying9 h
 exact ⟨s.data.toList,by simpa using e⟩
theorem three {l:List Value} (h:l.length=3):∃a b c,l=[a,b,c]:=by
 match l,h with
 | [a,b,c],_=>exact ⟨a,b,c,rfl⟩
end
end Go.Proofs.YtpndfahgflgocaaGreatDoor

