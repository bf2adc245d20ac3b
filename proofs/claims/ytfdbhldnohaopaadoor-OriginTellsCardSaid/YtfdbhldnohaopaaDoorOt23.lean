import Derived.Test.YtfdbhldnohaopaaDoorOt22
import Derived.Test.YtfdbhldnohaopaaDoorOt18
import Derived.Deep.Cut
import Derived.Deep.CutRange
import Derived.Test.YtfdbhldnohaopaaDoorOt11

namespace Go.Proofs.YtfdbhldnohaopaaDoor
open Go.RowKit Go.Shelf Plain

set_option maxRecDepth 100000 in
set_option maxHeartbeats 4000000 in
theorem RLower_any {g:GeoQ} {AU AL:Option Addr} {nU cU nL cL:Nat} {ls:List (List NodV)} {la i:Int} {B:Nat} (w:World) (h:RdE layEn w (Under B) AL nL ls) (hB:B≤w.heap.size) (hm:ls.length≤100) (hm2:∀ns∈ls,ns.length≤1000) :
  Calls Tryd.prog 46 #[.agg (stkC g (.slice AU nU cU) (.slice AL nL cL)).toArray,.agg #[.int .i64 la,.int .i64 i]] w (NodRet w B (lowAt ls la i)):=by
 obtain ⟨r0,r1,r2,hb3,hs3⟩:=rows3 w (stkC g (.slice AU nU cU) (.slice AL nL cL)) [.int .i64 la,.int .i64 i] (nodC nod0 (.slice none 0 0) (.slice none 0 0)) 29 85 37
 obtain ⟨W3,hW3⟩:∃W3,((w.alloc (.cells (stkC g (.slice AU nU cU) (.slice AL nL cL)).toArray 29)).alloc (.cells [Value.int .i64 la,.int .i64 i].toArray 85)).alloc (.cells (nodC nod0 (.slice none 0 0) (.slice none 0 0)).toArray 37)=W3:=⟨_,rfl⟩
 rw [hW3] at r0 r1 r2 hb3 hs3
 have hW3':((w.alloc (.cells #[.int .i64 g.a,.int .i64 g.b,.int .i64 g.c,.int .i64 g.d,.slice AU nU cU,.slice AL nL cL] 29)).alloc (.cells #[.int .i64 la,.int .i64 i] 85)).alloc (.cells #[.int .i64 0,.int .i64 0,.int .i64 0,.int .i64 0,.slice none 0 0,.slice none 0 0,.int .i64 0,.int .i64 0,.string ⟨#[]⟩,.int .i64 0,.int .i64 0,.int .i64 0,.int .i64 0] 37)=W3:=hW3
 have hl:=h.1
 have q5:W3.cell? ⟨w.heap.size,5,none⟩=some (.slice AL nL cL):=r0.cell 5
 have p0:W3.cell? ⟨w.heap.size+1,0,none⟩=some (.int .i64 la):=r1.cell 0
 have HQL:=hide (fun W (hb:Below W3.heap.size W3 W)=>show W.cell? ⟨w.heap.size,5,none⟩=some (.slice AL nL cL) from (r0.on hb).cell 5)
 have HQ0:=hide (fun W (hb:Below W3.heap.size W3 W)=>show W.cell? ⟨w.heap.size+1,0,none⟩=some (.int .i64 la) from (r1.on hb).cell 0)
 have HQ1:=hide (fun W (hb:Below W3.heap.size W3 W)=>show W.cell? ⟨w.heap.size+1,1,none⟩=some (.int .i64 i) from (r1.on hb).cell 1)
 have R2:=hide r2
 have HB3:=hide hb3
 have hs3:w.heap.size≤W3.heap.size:=hb3.size
 have HL:=hide (h.under hb3 hB)
 unfold stkC
 by_cases h1:la < 1
 ·have e:lowAt ls la i=nod0:=low_out (by omega)
  have d1:decide (la < 1)=true:=by simpa using h1
  rw [e]
  clear h r0 r1 r2 hb3 hW3 e h1
  go_enter Tryd.func46,Tryd.ntmps46
  go_wp2_with (refine wpList_storeW rfl 37 (.tmp 4) (.tmp 16) rfl 13 nod_size (w.heap.size+1+1) 37 rfl (nodC nod0 (.slice none 0 0) (.slice none 0 0)) (nodC nod0 (.slice none 0 0) (.slice none 0 0)) rfl R2.out rfl rfl (nodC_one nod0 none none 0 0 0 0) ?_;intro w9 hr9 hg9 hs9;have HR9:=hide hr9;have HB9:=hide (HB3.out.grown hg9 HB3.out.size (pu4 (by omega)));clear hr9 hg9)
  exact bodyPost_ret (res_cell Tryd.results46 rfl nod_agg nod_size HR9.out rfl) rfl (NodRet.of (Nat.le_refl _) (RdE.none_ _ _ _ _) (Nat.le_refl _) (RdE.none_ _ _ _ _) HB9.out hB)
 ·have d1:decide (la < 1)=false:=by simpa using h1
  by_cases h2:(nL:Int) < la
  ·have e:lowAt ls la i=nod0:=low_out (by omega)
   have d2:decide ((nL:Int) < la)=true:=by simpa using h2
   rw [e]
   clear h r0 r1 r2 hb3 hW3 e h1 h2
   go_enter Tryd.func46,Tryd.ntmps46
   go_wp2_with (refine wpList_storeW rfl 37 (.tmp 4) (.tmp 16) rfl 13 nod_size (w.heap.size+1+1) 37 rfl (nodC nod0 (.slice none 0 0) (.slice none 0 0)) (nodC nod0 (.slice none 0 0) (.slice none 0 0)) rfl R2.out rfl rfl (nodC_one nod0 none none 0 0 0 0) ?_;intro w9 hr9 hg9 hs9;have HR9:=hide hr9;have HB9:=hide (HB3.out.grown hg9 HB3.out.size (pu4 (by omega)));clear hr9 hg9)
   exact bodyPost_ret (res_cell Tryd.results46 rfl nod_agg nod_size HR9.out rfl) rfl (NodRet.of (Nat.le_refl _) (RdE.none_ _ _ _ _) (Nat.le_refl _) (RdE.none_ _ _ _ _) HB9.out hB)
  ·have d2:decide ((nL:Int) < la)=false:=by simpa using h2
   obtain ⟨j,ns,hla,hns,e⟩:=low_in (ls:=ls) (la:=la) (i:=i) (by omega)
   rw [e]
   obtain ⟨bL,oL,hAL,hbL,A2,n2,c2,hcL,hc2,hN2⟩:=RdE.get_list (F:=nodEn) HL.out hns
   have hjn:j < nL:=by omega
   have hbW:bL < W3.heap.size:=Nat.lt_of_lt_of_le hbL (Nat.le_trans hB hs3)
   have HQB:=hide (fun W (hb:Below W3.heap.size W3 W)=>show W.cell? ⟨bL,oL+j,none⟩=some (.slice A2 n2 c2) from (hb.cell (p:=⟨bL,oL+j,none⟩) hbW).trans hcL)
   have HNS:=hide hN2
   have hnl:ns.length≤1000:=hm2 ns (List.mem_of_getElem? hns)
   subst hla
   subst hAL
   have hw1:IntKind.i64.wrap ((j:Int)+1 - 1)=(j:Int):=by rw [show (j:Int)+1 - 1=j from by omega];exact IntWalk.i64_in _ (by omega)
   have hw2:IntKind.i64.wrap (j:Int)=(j:Int):=IntWalk.i64_in _ (by omega)
   have hjl:(j:Int) < (nL:Int):=by omega
   have hnlL:nL≤100:=by omega
   clear h r0 r1 r2 hb3 hW3 e h1 h2 hcL hN2 hns hl hm2
   go_enter Tryd.func46,Tryd.ntmps46
   go_wp2_with fail
   clear q5 p0 hW3'
   refine wp_region_planL (fun w'=>Below W3.heap.size W3 w') [(0,true),(1,true),(2,true),(3,true),(4,true),(5,true),(6,true),(7,true),(8,true),(9,false)] 10 (by kernel_rfl) (by kernel_rfl) (by kernel_rfl) (by kernel_rfl) (by kernel_rfl) rfl (fun _ _ _ _ _ h=>h) (below_drew (below_self W3)) (fun hHeld=>?_)
   simp only [planOps,List.filterMap_cons,List.filterMap_nil,List.getElem?_toArray,List.getElem?_cons_succ,List.getElem?_cons_zero,Option.map_some]
   refine wpPlan_take (v:=?_) (by kernel_rfl) (fun wS hSw=>?_) ?_
   rotate_left
   ·(try dsimp only at hSw);go_simp;(try with_reducible rfl)
   (try simp only [Act.put,pu1,pu2,pu3])
   refine wpPlan_take (v:=?_) (by kernel_rfl) (fun wS hSw=>?_) ?_
   rotate_left
   ·have qx:=HQL.out wS hSw;go_simp;(try with_reducible rfl)
   (try simp only [Act.put,pu1,pu2,pu3])
   refine wpPlan_take (v:=?_) (by kernel_rfl) (fun wS hSw=>?_) ?_
   rotate_left
   ·(try dsimp only at hSw);go_simp;(try with_reducible rfl)
   (try simp only [Act.put,pu1,pu2,pu3])
   refine wpPlan_take (v:=?_) (by kernel_rfl) (fun wS hSw=>?_) ?_
   rotate_left
   ·have qx:=HQ0.out wS hSw;go_simp;(try with_reducible rfl)
   (try simp only [Act.put,pu1,pu2,pu3])
   iterate 2
    refine wpPlan_take (v:=?_) (by kernel_rfl) (fun wS hSw=>?_) ?_
    rotate_left
    ·(try dsimp only at hSw);go_simp;(try with_reducible rfl)
    (try simp only [Act.put,pu1,pu2,pu3])
   refine wpPlan_take (v:=?_) (by kernel_rfl) (fun wS hSw=>?_) ?_
   rotate_left
   ·have qx:=HQB.out wS hSw;go_simp;(try with_reducible rfl)
   (try simp only [Act.put,pu1,pu2,pu3])
   refine wpPlan_take (v:=?_) (by kernel_rfl) (fun wS hSw=>?_) ?_
   rotate_left
   ·(try dsimp only at hSw);go_simp;(try with_reducible rfl)
   (try simp only [Act.put,pu1,pu2,pu3])
   refine wpPlan_take (v:=?_) (by kernel_rfl) (fun wS hSw=>?_) ?_
   rotate_left
   ·have qx:=HQ1.out wS hSw;go_simp;(try with_reducible rfl)
   (try simp only [Act.put,pu1,pu2,pu3])
   refine wpPlan_call (by kernel_rfl) (fun K hK=>?_)
   have hOld:=hide hHeld
   clear hHeld
   go_simp
   go_at_call 40
   refine (At_anyB (B:=B) _ (HNS.out.under hOld.out (by omega)) (Nat.le_trans hB (Nat.le_trans hs3 hOld.out.size)) (by omega)).mono ?_
   rintro e w' ⟨A1,n1,c1,C1,m1,d1,rfl,e2,e3,e4,e5,hbel⟩
   have E3:=hide e3
   have E5:=hide e5
   clear e3 e5
   refine hK.out _ _ (hOld.out.trans (hbel.mono hOld.out.size)) (fun hHeld=>?_)
   clear hK K
   (try simp only [Act.put,pu1,pu2,pu3])
   refine wpPlan_end ?_
   refine postL_go rfl (by kernel_rfl) ?_
   have R9:=hide (R2.out.on hHeld)
   have HBX:=hide (HB3.out.trans (hHeld.mono hs3))
   have hsX:=hHeld.size
   clear hHeld
   refine wp_storeC 37 (.tmp 4) (.tmp 26) rfl 13 nod_size (w.heap.size+1+1) 0 37 rfl (nodC nod0 (.slice none 0 0) (.slice none 0 0)) (nodC (nodAt ns i) (.slice A1 n1 c1) (.slice C1 m1 d1)) rfl R9.out rfl (by exact Nat.le_refl _) (nodC_one _ _ _ _ _ _ _) ?_
   intro w9 hr9 hg9 hs9
   have e9:splice (nodC nod0 (.slice none 0 0) (.slice none 0 0)) 0 (nodC (nodAt ns i) (.slice A1 n1 c1) (.slice C1 m1 d1))=nodC (nodAt ns i) (.slice A1 n1 c1) (.slice C1 m1 d1):=by simp [splice,nodC]
   rw [e9] at hr9
   have HR9:=hide hr9
   have HG9:=hide hg9
   clear hr9 hg9 e9
   (try simp only [Act.put])
   go_wp2_with fail
   have hk:Kept (Under B) w' w9:=fun b hb=>HG9.out.block b (by unfold Under at hb;omega) (fun e=>by have:=Option.some.inj e;unfold Under at hb;omega)
   exact bodyPost_ret (res_cell Tryd.results46 rfl nod_agg nod_size HR9.out rfl) rfl ⟨A1,n1,c1,C1,m1,d1,rfl,e2,E3.out.mono hk (fun _ h=>h),e4,E5.out.mono hk (fun _ h=>h),HBX.out.grown HG9.out (by omega) (pu4 (by omega))⟩
theorem NLower_e {g:GeoQ} {AU AL:Option Addr} {nU cU nL cL:Nat} {ls:List (List NodV)} {la i:Int} {B:Nat} {x:NodV} (hx:lowAt ls la i=x) (w:World) (h:RdE layEn w (Under B) AL nL ls) (hB:B≤w.heap.size) (hm:ls.length≤100) (hm2:∀ns∈ls,ns.length≤1000) :
  Calls Tryd.prog 42 #[.agg (stkC g (.slice AU nU cU) (.slice AL nL cL)).toArray,.agg #[.int .i64 la,.int .i64 i]] w (NodRet w B x):=by rw [←hx];exact NLower_any w h hB hm hm2
theorem RLower_e {g:GeoQ} {AU AL:Option Addr} {nU cU nL cL:Nat} {ls:List (List NodV)} {la i:Int} {B:Nat} {x:NodV} (hx:lowAt ls la i=x) (w:World) (h:RdE layEn w (Under B) AL nL ls) (hB:B≤w.heap.size) (hm:ls.length≤100) (hm2:∀ns∈ls,ns.length≤1000) :
  Calls Tryd.prog 46 #[.agg (stkC g (.slice AU nU cU) (.slice AL nL cL)).toArray,.agg #[.int .i64 la,.int .i64 i]] w (NodRet w B x):=by rw [←hx];exact RLower_any w h hB hm hm2
end Go.Proofs.YtfdbhldnohaopaaDoor

namespace Go.Proofs.YtfdbhldnohaopaaDoor
open Go.RowKit Go.Shelf Plain

set_option maxHeartbeats 800000 in
theorem rhas_b {h:Int} {r:Bool} (h0:0≤h) (h1:h≤31) (hr:decide (h % 2=1)=r) (w:World):Calls Tryd.prog 41 #[.int .i64 h,.int .i64 1] w fun e w'=>e=.returned (.bool r)∧w=w':=by
 have hv:(h % 2==1)=r:=by
  rw [←hr,Bool.eq_iff_iff]
  simp
 have HV:=hide hv
 clear hr hv
 go_enter Tryd.func41,Tryd.ntmps41
 go_wp2
 go_ret
 exact ⟨by rw [←HV.out];(first|rfl|simp),rfl⟩
set_option maxRecDepth 100000 in
theorem att_agg:∀w,(isAgg 35).run Tryd.prog w=.ok true w:=fun w=>by kernel_rfl
set_option maxRecDepth 100000 in
theorem att_size:∀w,(Go.sizeOf 35).run Tryd.prog w=.ok 7 w:=fun w=>by kernel_rfl
def attC (a:AttV):List Value:=[.int .i64 a.h,.int .i64 a.o,.string ⟨a.r.toArray⟩,.int .i64 a.l,.int .i64 a.i,.int .i64 a.g,.int .i64 a.s]
set_option maxRecDepth 100000 in
set_option maxHeartbeats 1600000 in
theorem RHas_b {a:AttV} {r:Bool} (h0:0≤a.h) (h1:a.h≤31) (hr:decide (a.h % 2=1)=r) (w:World):Calls Tryd.prog 28 #[.agg (attC a).toArray,.int .i64 1] w (BoolB w r):=by
 have r0:=RowL.new w 35 (attC a)
 have hb1:=below_new (below_self w) (.cells (attC a).toArray 35)
 obtain ⟨W1,hW1⟩:∃W1,w.alloc (.cells (attC a).toArray 35)=W1:=⟨_,rfl⟩
 rw [hW1] at r0 hb1
 have hW1':w.alloc (.cells #[.int .i64 a.h,.int .i64 a.o,.string ⟨a.r.toArray⟩,.int .i64 a.l,.int .i64 a.i,.int .i64 a.g,.int .i64 a.s] 35)=W1:=hW1
 have q0:W1.cell? ⟨w.heap.size,0,none⟩=some (.int .i64 a.h):=r0.cell 0
 have HB1:=hide hb1
 have HR:=hide hr
 have d0:decide (0≤a.h)=true:=decide_eq_true h0
 unfold attC
 clear r0 hb1 hW1 hr
 go_enter Tryd.func28,Tryd.ntmps28
 go_wp2_with (go_at_call 41;refine (rhas_b h0 h1 HR.out _).mono ?_;rintro e w' ⟨rfl,rfl⟩)
 go_ret
 exact BoolB.of HB1.out
end Go.Proofs.YtfdbhldnohaopaaDoor

namespace Go.Proofs.YtfdbhldnohaopaaDoor
open Go.RowKit Go.Shelf Plain

section
variable {P : Program} {T T' k k' : Nat}
end
def FirstBS (w9:World) (base ge gn r1 r2:Nat) (ec nc:List Value) (W:World):Prop:=RowL W ge 53 ec∧RowL W gn 37 nc∧(∃cu,RowL W r1 53 cu∧cu.length=3)∧(∃cu,RowL W r2 37 cu∧cu.length=13)∧Below base w9 W
theorem FirstBS.drew {w9:World} {base ge gn r1 r2:Nat} {ec nc:List Value} {W:World} (h:FirstBS w9 base ge gn r1 r2 ec nc W):FirstBS w9 base ge gn r1 r2 ec nc W.drew:=⟨h.1,h.2.1,h.2.2.1,h.2.2.2.1,⟨h.2.2.2.2.os,h.2.2.2.2.tape,h.2.2.2.2.output,h.2.2.2.2.size,h.2.2.2.2.block⟩⟩
end Go.Proofs.YtfdbhldnohaopaaDoor

namespace Go.Proofs.YtfdbhldnohaopaaDoor
open Go.RowKit Go.Shelf Plain

def FirstS (wc:World) (base g8 g9 r2 r3:Nat) (p:Int×Int) (ec nc:List Value) (W:World):Prop:=(RowL W g8 53 ec∧RowL W (base+1) 85 (prC p))∧RowL W g9 37 nc∧(∃cu,RowL W r2 85 cu∧cu.length=2)∧(∃cu,RowL W r3 37 cu∧cu.length=13)∧Below base wc W
theorem FirstS.drew {wc:World} {base g8 g9 r2 r3:Nat} {p:Int×Int} {ec nc:List Value} {W:World} (h:FirstS wc base g8 g9 r2 r3 p ec nc W):FirstS wc base g8 g9 r2 r3 p ec nc W.drew:=⟨h.1,h.2.1,h.2.2.1,h.2.2.2.1,⟨h.2.2.2.2.os,h.2.2.2.2.tape,h.2.2.2.2.output,h.2.2.2.2.size,h.2.2.2.2.block⟩⟩
end Go.Proofs.YtfdbhldnohaopaaDoor

namespace Go.Proofs.YtfdbhldnohaopaaDoor
open Go.RowKit Go.Shelf Plain

section
variable {gS gL : Nat} {p : List UInt8 → Bool} {B0 : Nat}
def DelN (p:List UInt8→Bool) (l:List (List UInt8)) (n c g a b:Nat) (W:World):Prop:=∃cs,RowL W g 9 cs∧cs.length=c∧n≤c∧((l.take b).filter (fun x=>!p x)).length=a∧cs.take a=((l.take b).filter (fun x=>!p x)).map st∧∀i x,b≤i→l[i]?=some x→cs[i]?=some (st x)
theorem DelN.on {l:List (List UInt8)} {n c g a b:Nat} {W W':World} (h:DelN p l n c g a b W) (hb:Below W.heap.size W W'):DelN p l n c g a b W':=by
 obtain ⟨cs,h1,h2⟩:=h
 exact ⟨cs,h1.on hb,h2⟩
theorem DelN.skip {l:List (List UInt8)} {n c g a b:Nat} {W:World} {x:List UInt8} (h:DelN p l n c g a b W) (hx:l[b]?=some x) (hp:p x=true):DelN p l n c g a (b+1) W:=by
 obtain ⟨cs,h1,h2,h3,h4,h5,h6⟩:=h
 have e:(l.take (b+1)).filter (fun x=>!p x)=(l.take b).filter (fun x=>!p x):=by rw [List.take_add_one,hx,List.filter_append];simp [hp]
 exact ⟨cs,h1,h2,h3,by rw [e];exact h4,by rw [e];exact h5,fun i y hi hy=>h6 i y (by omega) hy⟩
theorem DelN.put {l:List (List UInt8)} {n c g a b:Nat} {W:World} {x:List UInt8} (h:DelN p l n c g a b W) (hx:l[b]?=some x) (hp:p x=false) (hab:a < b) (hbc:b < c):DelN p l n c g (a+1) (b+1) (W.setCell ⟨g,a,none⟩ (st x)):=by
 obtain ⟨cs,h1,h2,h3,h4,h5,h6⟩:=h
 have e:(l.take (b+1)).filter (fun x=>!p x)=(l.take b).filter (fun x=>!p x)++[x]:=by rw [List.take_add_one,hx,List.filter_append];simp [hp]
 refine ⟨cs.set a (st x),h1.set_ a _,by rw [List.length_set];exact h2,h3,by rw [e,List.length_append,h4];rfl,?_,fun i y hi hy=>?_⟩
 ·rw [e,List.map_append,←h5,List.take_add_one,List.getElem?_set_self (by omega),List.take_set_of_le (Nat.le_refl _)]
  rfl
 ·rw [List.getElem?_set_ne (by omega)]
  exact h6 i y (by omega) hy
end
end Go.Proofs.YtfdbhldnohaopaaDoor

