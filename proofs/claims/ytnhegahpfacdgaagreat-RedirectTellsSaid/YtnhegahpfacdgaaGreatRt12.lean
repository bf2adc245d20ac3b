import Derived.Test.YtnhegahpfacdgaaGreatRt11

namespace Go.Proofs.YtnhegahpfacdgaaGreat
open Go.RowKit Go.Shelf Plain

set_option maxRecDepth 100000 in
set_option maxHeartbeats 4000000 in
theorem RLower_any {g:GeoQ} {AU AL:Option Addr} {nU cU nL cL:Nat} {ls:List (List NodV)} {la i:Int} {B:Nat} (w:World) (h:RdE layEn w (Under B) AL nL ls) (hB:B≤w.heap.size) (hm:ls.length≤100) (hm2:∀ns∈ls,ns.length≤1000) :
  Calls Tryz.prog 94 #[.agg (stkC g (.slice AU nU cU) (.slice AL nL cL)).toArray,.agg #[.int .i64 la,.int .i64 i]] w (NodRet w B (lowAt ls la i)):=by
 obtain ⟨r0,r1,r2,hb3,hs3⟩:=rows3 w (stkC g (.slice AU nU cU) (.slice AL nL cL)) [.int .i64 la,.int .i64 i] (nodC nod0 (.slice none 0 0) (.slice none 0 0)) 29 41 65
 obtain ⟨W3,hW3⟩:∃W3,((w.alloc (.cells (stkC g (.slice AU nU cU) (.slice AL nL cL)).toArray 29)).alloc (.cells [Value.int .i64 la,.int .i64 i].toArray 41)).alloc (.cells (nodC nod0 (.slice none 0 0) (.slice none 0 0)).toArray 65)=W3:=⟨_,rfl⟩
 rw [hW3] at r0 r1 r2 hb3 hs3
 have hW3':((w.alloc (.cells #[.int .i64 g.a,.int .i64 g.b,.int .i64 g.c,.int .i64 g.d,.slice AU nU cU,.slice AL nL cL] 29)).alloc (.cells #[.int .i64 la,.int .i64 i] 41)).alloc (.cells #[.int .i64 0,.int .i64 0,.int .i64 0,.int .i64 0,.slice none 0 0,.slice none 0 0,.int .i64 0,.int .i64 0,.string ⟨#[]⟩,.int .i64 0,.int .i64 0,.int .i64 0,.int .i64 0] 65)=W3:=hW3
 have hl:=h.1
 have q5:W3.cell? ⟨w.heap.size,5,none⟩=some (.slice AL nL cL):=r0.cell 5
 have p0:W3.cell? ⟨w.heap.size+1,0,none⟩=some (.int .i64 la):=r1.cell 0
 have HQL:=hide (fun W (hb:Below W3.heap.size W3 W)=>show W.cell? ⟨w.heap.size,5,none⟩=some (.slice AL nL cL) from (r0.on hb).cell 5)
 have HQ0:=hide (fun W (hb:Below W3.heap.size W3 W)=>show W.cell? ⟨w.heap.size+1,0,none⟩=some (.int .i64 la) from (r1.on hb).cell 0)
 have HQ1:=hide (fun W (hb:Below W3.heap.size W3 W)=>show W.cell? ⟨w.heap.size+1,1,none⟩=some (.int .i64 i) from (r1.on hb).cell 1)
 have R2:=hide r2
 have HB3:=hide hb3
 have hs3:w.heap.size≤W3.heap.size:=hb3.size
 have HL:=hide (h.under hb3 hB)
 unfold stkC
 by_cases h1:la < 1
 ·have e:lowAt ls la i=nod0:=low_out (by omega)
  have d1:decide (la < 1)=true:=by simpa using h1
  rw [e]
  clear h r0 r1 r2 hb3 hW3 e h1
  go_enter Tryz.func94,Tryz.ntmps94
  go_wp2_with (refine wpList_storeW rfl 65 (.tmp 4) (.tmp 16) rfl 13 nod_size (w.heap.size+1+1) 65 rfl (nodC nod0 (.slice none 0 0) (.slice none 0 0)) (nodC nod0 (.slice none 0 0) (.slice none 0 0)) rfl R2.out rfl rfl (nodC_one nod0 none none 0 0 0 0) ?_;intro w9 hr9 hg9 hs9;have HR9:=hide hr9;have HB9:=hide (HB3.out.grown hg9 HB3.out.size (pu4 (by omega)));clear hr9 hg9)
  exact bodyPost_ret (res_cell Tryz.results94 rfl nod_agg nod_size HR9.out rfl) rfl (NodRet.of (Nat.le_refl _) (RdE.none_ _ _ _ _) (Nat.le_refl _) (RdE.none_ _ _ _ _) HB9.out hB)
 ·have d1:decide (la < 1)=false:=by simpa using h1
  by_cases h2:(nL:Int) < la
  ·have e:lowAt ls la i=nod0:=low_out (by omega)
   have d2:decide ((nL:Int) < la)=true:=by simpa using h2
   rw [e]
   clear h r0 r1 r2 hb3 hW3 e h1 h2
   go_enter Tryz.func94,Tryz.ntmps94
   go_wp2_with (refine wpList_storeW rfl 65 (.tmp 4) (.tmp 16) rfl 13 nod_size (w.heap.size+1+1) 65 rfl (nodC nod0 (.slice none 0 0) (.slice none 0 0)) (nodC nod0 (.slice none 0 0) (.slice none 0 0)) rfl R2.out rfl rfl (nodC_one nod0 none none 0 0 0 0) ?_;intro w9 hr9 hg9 hs9;have HR9:=hide hr9;have HB9:=hide (HB3.out.grown hg9 HB3.out.size (pu4 (by omega)));clear hr9 hg9)
   exact bodyPost_ret (res_cell Tryz.results94 rfl nod_agg nod_size HR9.out rfl) rfl (NodRet.of (Nat.le_refl _) (RdE.none_ _ _ _ _) (Nat.le_refl _) (RdE.none_ _ _ _ _) HB9.out hB)
  ·have d2:decide ((nL:Int) < la)=false:=by simpa using h2
   obtain ⟨j,ns,hla,hns,e⟩:=low_in (ls:=ls) (la:=la) (i:=i) (by omega)
   rw [e]
   obtain ⟨bL,oL,hAL,hbL,A2,n2,c2,hcL,hc2,hN2⟩:=RdE.get_list (F:=nodEn) HL.out hns
   have hjn:j < nL:=by omega
   have hbW:bL < W3.heap.size:=Nat.lt_of_lt_of_le hbL (Nat.le_trans hB hs3)
   have HQB:=hide (fun W (hb:Below W3.heap.size W3 W)=>show W.cell? ⟨bL,oL+j,none⟩=some (.slice A2 n2 c2) from (hb.cell (p:=⟨bL,oL+j,none⟩) hbW).trans hcL)
   have HNS:=hide hN2
   have hnl:ns.length≤1000:=hm2 ns (List.mem_of_getElem? hns)
   subst hla
   subst hAL
   have hw1:IntKind.i64.wrap ((j:Int)+1 - 1)=(j:Int):=by rw [show (j:Int)+1 - 1=j from by omega];exact IntWalk.i64_in _ (by omega)
   have hw2:IntKind.i64.wrap (j:Int)=(j:Int):=IntWalk.i64_in _ (by omega)
   have hjl:(j:Int) < (nL:Int):=by omega
   have hnlL:nL≤100:=by omega
   clear h r0 r1 r2 hb3 hW3 e h1 h2 hcL hN2 hns hl hm2
   go_enter Tryz.func94,Tryz.ntmps94
   go_wp2_with fail
   clear q5 p0 hW3'
   refine wp_region_planL (fun w'=>Below W3.heap.size W3 w') [(0,true),(1,true),(2,true),(3,true),(4,true),(5,true),(6,true),(7,true),(8,true),(9,false)] 10 (by kernel_rfl) (by kernel_rfl) (by kernel_rfl) (by kernel_rfl) (by kernel_rfl) rfl (fun _ _ _ _ _ h=>h) (below_drew (below_self W3)) (fun hHeld=>?_)
   simp only [planOps,List.filterMap_cons,List.filterMap_nil,List.getElem?_toArray,List.getElem?_cons_succ,List.getElem?_cons_zero,Option.map_some]
   refine wpPlan_take (v:=?_) (by kernel_rfl) (fun wS hSw=>?_) ?_
   rotate_left
   ·(try dsimp only at hSw);go_simp;(try with_reducible rfl)
   (try simp only [Act.put,pu1,pu2,pu3])
   refine wpPlan_take (v:=?_) (by kernel_rfl) (fun wS hSw=>?_) ?_
   rotate_left
   ·have qx:=HQL.out wS hSw;go_simp;(try with_reducible rfl)
   (try simp only [Act.put,pu1,pu2,pu3])
   refine wpPlan_take (v:=?_) (by kernel_rfl) (fun wS hSw=>?_) ?_
   rotate_left
   ·(try dsimp only at hSw);go_simp;(try with_reducible rfl)
   (try simp only [Act.put,pu1,pu2,pu3])
   refine wpPlan_take (v:=?_) (by kernel_rfl) (fun wS hSw=>?_) ?_
   rotate_left
   ·have qx:=HQ0.out wS hSw;go_simp;(try with_reducible rfl)
   (try simp only [Act.put,pu1,pu2,pu3])
   iterate 2
    refine wpPlan_take (v:=?_) (by kernel_rfl) (fun wS hSw=>?_) ?_
    rotate_left
    ·(try dsimp only at hSw);go_simp;(try with_reducible rfl)
    (try simp only [Act.put,pu1,pu2,pu3])
   refine wpPlan_take (v:=?_) (by kernel_rfl) (fun wS hSw=>?_) ?_
   rotate_left
   ·have qx:=HQB.out wS hSw;go_simp;(try with_reducible rfl)
   (try simp only [Act.put,pu1,pu2,pu3])
   refine wpPlan_take (v:=?_) (by kernel_rfl) (fun wS hSw=>?_) ?_
   rotate_left
   ·(try dsimp only at hSw);go_simp;(try with_reducible rfl)
   (try simp only [Act.put,pu1,pu2,pu3])
   refine wpPlan_take (v:=?_) (by kernel_rfl) (fun wS hSw=>?_) ?_
   rotate_left
   ·have qx:=HQ1.out wS hSw;go_simp;(try with_reducible rfl)
   (try simp only [Act.put,pu1,pu2,pu3])
   refine wpPlan_call (by kernel_rfl) (fun K hK=>?_)
   have hOld:=hide hHeld
   clear hHeld
   go_simp
   go_at_call 50
   refine (At_anyB (B:=B) _ (HNS.out.under hOld.out (by omega)) (Nat.le_trans hB (Nat.le_trans hs3 hOld.out.size)) (by omega)).mono ?_
   rintro e w' ⟨A1,n1,c1,C1,m1,d1,rfl,e2,e3,e4,e5,hbel⟩
   have E3:=hide e3
   have E5:=hide e5
   clear e3 e5
   refine hK.out _ _ (hOld.out.trans (hbel.mono hOld.out.size)) (fun hHeld=>?_)
   clear hK K
   (try simp only [Act.put,pu1,pu2,pu3])
   refine wpPlan_end ?_
   refine postL_go rfl (by kernel_rfl) ?_
   have R9:=hide (R2.out.on hHeld)
   have HBX:=hide (HB3.out.trans (hHeld.mono hs3))
   have hsX:=hHeld.size
   clear hHeld
   refine wp_storeC 65 (.tmp 4) (.tmp 26) rfl 13 nod_size (w.heap.size+1+1) 0 65 rfl (nodC nod0 (.slice none 0 0) (.slice none 0 0)) (nodC (nodAt ns i) (.slice A1 n1 c1) (.slice C1 m1 d1)) rfl R9.out rfl (by exact Nat.le_refl _) (nodC_one _ _ _ _ _ _ _) ?_
   intro w9 hr9 hg9 hs9
   have e9:splice (nodC nod0 (.slice none 0 0) (.slice none 0 0)) 0 (nodC (nodAt ns i) (.slice A1 n1 c1) (.slice C1 m1 d1))=nodC (nodAt ns i) (.slice A1 n1 c1) (.slice C1 m1 d1):=by simp [splice,nodC]
   rw [e9] at hr9
   have HR9:=hide hr9
   have HG9:=hide hg9
   clear hr9 hg9 e9
   (try simp only [Act.put])
   go_wp2_with fail
   have hk:Kept (Under B) w' w9:=fun b hb=>HG9.out.block b (by unfold Under at hb;omega) (fun e=>by have:=Option.some.inj e;unfold Under at hb;omega)
   exact bodyPost_ret (res_cell Tryz.results94 rfl nod_agg nod_size HR9.out rfl) rfl ⟨A1,n1,c1,C1,m1,d1,rfl,e2,E3.out.mono hk (fun _ h=>h),e4,E5.out.mono hk (fun _ h=>h),HBX.out.grown HG9.out (by omega) (pu4 (by omega))⟩
theorem NLower_e {g:GeoQ} {AU AL:Option Addr} {nU cU nL cL:Nat} {ls:List (List NodV)} {la i:Int} {B:Nat} {x:NodV} (hx:lowAt ls la i=x) (w:World) (h:RdE layEn w (Under B) AL nL ls) (hB:B≤w.heap.size) (hm:ls.length≤100) (hm2:∀ns∈ls,ns.length≤1000) :
  Calls Tryz.prog 102 #[.agg (stkC g (.slice AU nU cU) (.slice AL nL cL)).toArray,.agg #[.int .i64 la,.int .i64 i]] w (NodRet w B x):=by rw [←hx];exact NLower_any w h hB hm hm2
theorem RLower_e {g:GeoQ} {AU AL:Option Addr} {nU cU nL cL:Nat} {ls:List (List NodV)} {la i:Int} {B:Nat} {x:NodV} (hx:lowAt ls la i=x) (w:World) (h:RdE layEn w (Under B) AL nL ls) (hB:B≤w.heap.size) (hm:ls.length≤100) (hm2:∀ns∈ls,ns.length≤1000) :
  Calls Tryz.prog 94 #[.agg (stkC g (.slice AU nU cU) (.slice AL nL cL)).toArray,.agg #[.int .i64 la,.int .i64 i]] w (NodRet w B x):=by rw [←hx];exact RLower_any w h hB hm hm2
end Go.Proofs.YtnhegahpfacdgaaGreat

namespace Go.Proofs.YtnhegahpfacdgaaGreat
open Go.RowKit Go.Shelf Plain

set_option maxHeartbeats 800000 in
theorem rhas_b {h:Int} {r:Bool} (h0:0≤h) (h1:h≤31) (hr:decide (h % 2=1)=r) (w:World):Calls Tryz.prog 77 #[.int .i64 h,.int .i64 1] w fun e w'=>e=.returned (.bool r)∧w=w':=by
 have hv:(h % 2==1)=r:=by
  rw [←hr,Bool.eq_iff_iff]
  simp
 have HV:=hide hv
 clear hr hv
 go_enter Tryz.func77,Tryz.ntmps77
 go_wp2
 go_ret
 exact ⟨by rw [←HV.out];(first|rfl|simp),rfl⟩
set_option maxRecDepth 100000 in
theorem att_agg:∀w,(isAgg 63).run Tryz.prog w=.ok true w:=fun w=>by kernel_rfl
set_option maxRecDepth 100000 in
theorem att_size:∀w,(Go.sizeOf 63).run Tryz.prog w=.ok 7 w:=fun w=>by kernel_rfl
def attC (a:AttV):List Value:=[.int .i64 a.h,.int .i64 a.o,.string ⟨a.r.toArray⟩,.int .i64 a.l,.int .i64 a.i,.int .i64 a.g,.int .i64 a.s]
set_option maxRecDepth 100000 in
set_option maxHeartbeats 1600000 in
theorem RHas_b {a:AttV} {r:Bool} (h0:0≤a.h) (h1:a.h≤31) (hr:decide (a.h % 2=1)=r) (w:World):Calls Tryz.prog 51 #[.agg (attC a).toArray,.int .i64 1] w (BoolB w r):=by
 have r0:=RowL.new w 63 (attC a)
 have hb1:=below_new (below_self w) (.cells (attC a).toArray 63)
 obtain ⟨W1,hW1⟩:∃W1,w.alloc (.cells (attC a).toArray 63)=W1:=⟨_,rfl⟩
 rw [hW1] at r0 hb1
 have hW1':w.alloc (.cells #[.int .i64 a.h,.int .i64 a.o,.string ⟨a.r.toArray⟩,.int .i64 a.l,.int .i64 a.i,.int .i64 a.g,.int .i64 a.s] 63)=W1:=hW1
 have q0:W1.cell? ⟨w.heap.size,0,none⟩=some (.int .i64 a.h):=r0.cell 0
 have HB1:=hide hb1
 have HR:=hide hr
 have d0:decide (0≤a.h)=true:=decide_eq_true h0
 unfold attC
 clear r0 hb1 hW1 hr
 go_enter Tryz.func51,Tryz.ntmps51
 go_wp2_with (go_at_call 77;refine (rhas_b h0 h1 HR.out _).mono ?_;rintro e w' ⟨rfl,rfl⟩)
 go_ret
 exact BoolB.of HB1.out
set_option maxRecDepth 100000 in
set_option maxHeartbeats 1600000 in
theorem ROpq_b {x:NodV} {D C:Option Addr} {n c m d:Nat} {b:Bool} (hb:opq x=b) (h0:0≤x.att.h) (h1:x.att.h≤31) (w:World):Calls Tryz.prog 95 #[.agg (nodC x (.slice D n c) (.slice C m d)).toArray] w (BoolB w b):=by
 have r:=RowL.new w 65 (nodC x (.slice D n c) (.slice C m d))
 have hb1:=below_new (below_self w) (.cells (nodC x (.slice D n c) (.slice C m d)).toArray 65)
 obtain ⟨W1,hW1⟩:∃W1,w.alloc (.cells (nodC x (.slice D n c) (.slice C m d)).toArray 65)=W1:=⟨_,rfl⟩
 rw [hW1] at r hb1
 have hW1':w.alloc (.cells #[.int .i64 x.k,.int .i64 x.p,.int .i64 x.n,.int .i64 x.g,.slice D n c,.slice C m d,.int .i64 x.att.h,.int .i64 x.att.o,.string ⟨x.att.r.toArray⟩,.int .i64 x.att.l,.int .i64 x.att.i,.int .i64 x.att.g,.int .i64 x.att.s] 65)=W1:=hW1
 have HA:=hide (fun (j:Nat) (v:Value) (hv:(attC x.att)[j]?=some v)=>show W1.cell? ⟨w.heap.size,6+j,none⟩=some v from (r.cell (6+j)).trans (by rw [←hv];unfold nodC attC;rw [Nat.add_comm 6 j];rfl))
 have HRR:=hide r
 have HB1:=hide hb1
 obtain ⟨b1,hb1'⟩:∃b1,decide (x.att.h % 2=1)=b1:=⟨_,rfl⟩
 obtain ⟨b2,hb2⟩:∃b2,(x.att.o==121)=b2:=⟨_,rfl⟩
 have e:b=(b1&&b2):=by
  rw [←hb,←hb1',←hb2]
  unfold opq
  congr 1
 have HBB:=hide hb1'
 subst e
 unfold nodC
 clear r hb1 hW1 hb hb1'
 cases b1 <;> cases b2
 all_goals
  go_enter Tryz.func95,Tryz.ntmps95
  go_wp2_with (first|(refine wpList_loadX rfl 63 (.tmp 3) rfl 7 att_agg att_size w.heap.size 6 rfl (attC x.att) HA.out rfl ?_)|(go_at_call 51;refine (RHas_b h0 h1 HBB.out _).mono ?_;rintro e w' ⟨rfl,hb3⟩;have q7:w'.cell? ⟨w.heap.size,7,none⟩=some (.int .i64 x.att.o):=(HRR.out.on hb3).cell 7;have HB3:=hide hb3;clear hb3))
  go_ret
  exact BoolB.of (HB1.out.trans (HB3.out.mono HB1.out.size))
theorem prC_one (q:Int×Int):∀v∈prC q,v.oneCell'=true:=by simp [prC,Value.oneCell']
end Go.Proofs.YtnhegahpfacdgaaGreat

namespace Go.Proofs.YtnhegahpfacdgaaGreat
open Go.RowKit Go.Shelf Plain

section
variable {P : Program} {T T' k k' : Nat}
theorem res_cells {fn : Func} {tmps : Array Value} {w : World} {s g t s' g' t' : Nat} {cs cs' : List Value} (hr : fn.results = #[.cell s T, .cell s' T']) (ht : tmps.getD s undef = .pointer (some ⟨g, 0, none⟩)) (ht' : tmps.getD s' undef = .pointer (some ⟨g', 0, none⟩)) (hag : ∀ w, (isAgg T).run P w = .ok true w) (hsz : ∀ w, (sizeOf T).run P w = .ok k w) (hag' : ∀ w, (isAgg T').run P w = .ok true w) (hsz' : ∀ w, (sizeOf T').run P w = .ok k' w)
  (h:RowL w g t cs) (hk:cs.length=k) (h':RowL w g' t' cs') (hk':cs'.length=k'):(results fn tmps).run P w=.ok (.tuple #[.agg cs.toArray,.agg cs'.toArray]) w:=by
 have hl:=run_loadRow (P:=P) h hk
 have hl':=run_loadRow (P:=P) h' hk'
 have ht1:tmps[s]?.getD undef=.pointer (some ⟨g,0,none⟩):=by simpa using ht
 have ht2:tmps[s']?.getD undef=.pointer (some ⟨g',0,none⟩):=by simpa using ht'
 simp [results,hr,ht1,ht2,hag,hsz,hl,hag',hsz',hl',go_sem]
end
def FirstB (w:World) (B:Nat) (ns:List NodV) (o:Option EntV) (e:Ending) (w':World):Prop:=∃A n c C m d,e=.returned (.tuple #[.agg (cellsE (entO o)).toArray,.agg (nodC (nodB ns o) (.slice A n c) (.slice C m d)).toArray])∧n≤c∧RdE Enc.byte w' (Under B) A n (nodB ns o).data∧m≤d∧RdE entEn w' (Under B) C m (nodB ns o).ents∧Below w.heap.size w w'
def FirstBS (w9:World) (base ge gn r1 r2:Nat) (ec nc:List Value) (W:World):Prop:=RowL W ge 87 ec∧RowL W gn 65 nc∧(∃cu,RowL W r1 87 cu∧cu.length=3)∧(∃cu,RowL W r2 65 cu∧cu.length=13)∧Below base w9 W
theorem FirstBS.drew {w9:World} {base ge gn r1 r2:Nat} {ec nc:List Value} {W:World} (h:FirstBS w9 base ge gn r1 r2 ec nc W):FirstBS w9 base ge gn r1 r2 ec nc W.drew:=⟨h.1,h.2.1,h.2.2.1,h.2.2.2.1,⟨h.2.2.2.2.os,h.2.2.2.2.tape,h.2.2.2.2.output,h.2.2.2.2.size,h.2.2.2.2.block⟩⟩
theorem find_take_none {α:Type} {f:α→Bool} {l:List α} {k:Nat} {x:α} (h:(l.take k).find? f=none) (hx:l[k]?=some x) (hf:f x=false):(l.take (k+1)).find? f=none:=by
 rw [List.take_add_one,hx,List.find?_append,h]
 simp [hf]
theorem find_take_some {α:Type} {f:α→Bool} {l:List α} {k:Nat} {x:α} (h:(l.take k).find? f=none) (hx:l[k]?=some x) (hf:f x=true):l.find? f=some x:=by
 have hk:=(List.getElem?_eq_some_iff.1 hx).1
 have hd:l=l.take k++x::l.drop (k+1):=by
  rw [(List.getElem?_eq_some_iff.1 hx).2.symm,←List.drop_eq_getElem_cons hk,List.take_append_drop]
 rw [hd,List.find?_append,h]
 simp [hf]
set_option maxRecDepth 100000 in
set_option maxHeartbeats 8000000 in
theorem First_any {A:Option Addr} {n c:Nat} {ns:List NodV} {i:Int} {nm:List UInt8} {B:Nat} (w:World) (h:RdE nodEn w (Under B) A n ns) (hB:B≤w.heap.size) (hm:ns.length≤100000) (hel:(entB ns i).length≤100) :
  Calls Tryz.prog 125 #[.agg #[.slice A n c],.int .i64 i,.string ⟨nm.toArray⟩] w (FirstB w B ns (firstB ns i nm)):=by
 obtain ⟨r0,r1,r2,hb4,hs4⟩:=rows3 w [.slice A n c] [.int .i64 0,.int .i64 0,.string ⟨#[]⟩] (nodC nod0 (.slice none 0 0) (.slice none 0 0)) 26 87 65
 obtain ⟨W4,hW4⟩:∃W4,((w.alloc (.cells [Value.slice A n c].toArray 26)).alloc (.cells [Value.int .i64 0,.int .i64 0,.string ⟨#[]⟩].toArray 87)).alloc (.cells (nodC nod0 (.slice none 0 0) (.slice none 0 0)).toArray 65)=W4:=⟨_,rfl⟩
 rw [hW4] at r0 r1 r2 hb4 hs4
 have hW4':((w.alloc (.cells #[.slice A n c] 26)).alloc (.cells #[.int .i64 0,.int .i64 0,.string ⟨#[]⟩] 87)).alloc (.cells #[.int .i64 0,.int .i64 0,.int .i64 0,.int .i64 0,.slice none 0 0,.slice none 0 0,.int .i64 0,.int .i64 0,.string ⟨#[]⟩,.int .i64 0,.int .i64 0,.int .i64 0,.int .i64 0] 65)=W4:=hW4
 have q0:W4.cell? ⟨w.heap.size,0,none⟩=some (.slice A n c):=r0.cell 0
 have R0:=hide r0
 have R1:=hide r1
 have R2:=hide r2
 have HB4:=hide hb4
 have HL:=hide (h.under hb4 hB)
 have hs4l:w.heap.size+3≤W4.heap.size:=by omega
 obtain ⟨EL,hEL⟩:∃EL,entB ns i=EL:=⟨_,rfl⟩
 obtain ⟨FO,hFO⟩:∃FO,firstB ns i nm=FO:=⟨_,rfl⟩
 rw [hFO]
 rw [hEL] at hel
 have HEL:=hide hEL
 have HFO:=hide hFO
 clear r0 r1 r2 hb4 hW4 h hEL hs4 hFO
 go_enter Tryz.func125,Tryz.ntmps125
 go_wp2_with (first|(go_at_call 127;refine (Entries_any W4 HL.out (by omega) hm).mono ?_;rw [HEL.out];rintro e w5 ⟨C,m,d,rfl,hmd,hE,hb5⟩;have HE:=hide hE;have HB5:=hide hb5;clear hE hb5))
 have hEm:=HE.out.1
 have hm16:m≤100:=by omega
 have HEM:=hide hEm
 clear hEm hW4' hel q0
 go_loopw [15] (fun v15 wr=>∃j:Nat,j≤m∧v15=.int .i64 j∧Below w5.heap.size w5 wr∧(EL.take j).find? (useB ns nm)=none) (fun v15 _=>m - (intOf v15).toNat)
 case atStart=>exact ⟨0,by omega,rfl,below_self _,by simp⟩
 case round =>
  obtain ⟨j,hj,rfl,hbr,hnone⟩:=hrel
  have HN:=hide hnone
  have HBR:=hide hbr
  have hbsz:=hbr.size
  have hs5:=HB5.out.size
  have HB4r:=hide (HB5.out.trans (hbr.mono hs5))
  have HBw:=hide (HB4.out.trans (HB4r.out.mono (by omega)))
  clear hnone hbr
  by_cases hlt:j < m
  ·obtain ⟨e,he⟩:∃e,EL[j]?=some e:=⟨_,List.getElem?_eq_getElem (by have:=HEM.out;omega)⟩
   obtain ⟨bE,oE,rfl,hbE,hcE⟩:=ent_get (HE.out.under HBR.out (by omega)) he
   have HCE:=hide hcE
   have HEJ:=hide he
   have HZE:=hide (RowL.new wr 87 [.int .i64 0,.int .i64 0,.string ⟨#[]⟩])
   obtain ⟨x,hx⟩:∃x,nodAt ns e.ino=x:=⟨_,rfl⟩
   have HX:=hide hx
   obtain ⟨b2,hb2⟩:∃b2,(x.k != 0)=b2:=⟨_,rfl⟩
   have hjm:(j:Int) < (m:Int):=by omega
   clear he hcE
   by_cases hnm:e.name=nm
   rotate_left
   ·have HU:=hide (show useB ns nm e=false from by unfold useB;simp [hnm])
    have hnb1:(e.name==nm)=false:=by simpa using hnm
    have hnb2:(e.name != nm)=true:=by simpa using hnm
    have hnb3:¬({data:=e.name.toArray}:ByteArray)={data:=nm.toArray}:=by simpa using hnm
    clear hx
    go_wp2_with (first|(refine wpList_loadX rfl 87 (.tmp 17) rfl 3 entw_agg entw_size bE (oE+j*3) rfl (cellsE e) HCE.out rfl ?_)|(refine wpList_storeW rfl 87 (.tmp 9) (.tmp 18) rfl 3 entw_size wr.heap.size 87 rfl [.int .i64 0,.int .i64 0,.string ⟨#[]⟩] (cellsE e) rfl HZE.out rfl rfl (cellsE_one e) ?_;intro w6 hr6 hg6 hs6;have hb6:=below_stored' hg6;have qe1:w6.cell? ⟨wr.heap.size,1,none⟩=some (.int .i64 e.ino):=hr6.cell 1;have qe2:w6.cell? ⟨wr.heap.size,2,none⟩=some (.string ⟨e.name.toArray⟩):=hr6.cell 2;have qb:w6.cell? ⟨w.heap.size,0,none⟩=some (.slice A n c):=((R0.out.on HB4r.out).on hb6).cell 0;have R6:=hide hr6;have HB6:=hide hb6;clear hr6 hg6 hs6 hb6))
    go_roundw
    case rel=>exact ⟨j+1,by omega,by go_num,HBR.out.trans (HB6.out.mono hbsz),find_take_none HN.out HEJ.out HU.out⟩
    case measure=>simp [intOf];omega
   have HU:=hide (show useB ns nm e=b2 from by
    rw [←hb2,←hx]
    unfold useB
    by_cases hk:(nodAt ns e.ino).k=0 <;> simp [hk,hnm])
   subst hnm
   clear hx
   cases b2
   ·skip
    go_wp2_with (first|(refine wpList_loadX rfl 87 (.tmp 17) rfl 3 entw_agg entw_size bE (oE+j*3) rfl (cellsE e) HCE.out rfl ?_)|(refine wpList_storeW rfl 87 (.tmp 9) (.tmp 18) rfl 3 entw_size wr.heap.size 87 rfl [.int .i64 0,.int .i64 0,.string ⟨#[]⟩] (cellsE e) rfl HZE.out rfl rfl (cellsE_one e) ?_;intro w6 hr6 hg6 hs6;have hb6:=below_stored' hg6;have qe1:w6.cell? ⟨wr.heap.size,1,none⟩=some (.int .i64 e.ino):=hr6.cell 1;have qe2:w6.cell? ⟨wr.heap.size,2,none⟩=some (.string ⟨e.name.toArray⟩):=hr6.cell 2;have qb:w6.cell? ⟨w.heap.size,0,none⟩=some (.slice A n c):=((R0.out.on HB4r.out).on hb6).cell 0;have R6:=hide hr6;have HB6:=hide hb6;clear hr6 hg6 hs6 hb6)|(go_at_call 63;refine (Of_e HX.out w6 (HL.out.under (HB4r.out.trans (HB6.out.mono (by omega))) (by omega)) (by have:=HB6.out.size;omega) hm).mono ?_;rintro ez w8 ⟨A1,n1,c1,C1,m1,d1,rfl,e2,e3,e4,e5,hb8⟩;have E3:=hide e3;have E5:=hide e5;have HB8:=hide hb8;have HZN:=hide (RowL.new w8 65 (nodC nod0 (.slice none 0 0) (.slice none 0 0)));clear e3 e5 hb8)|(refine wpList_storeW rfl 65 (.tmp 10) (.tmp 26) rfl 13 nod_size w8.heap.size 65 rfl (nodC nod0 (.slice none 0 0) (.slice none 0 0)) (nodC x (.slice A1 n1 c1) (.slice C1 m1 d1)) rfl HZN.out rfl rfl (nodC_one _ _ _ _ _ _ _) ?_;intro w9 hr9 hg9 hs9;have hb9:=below_stored' hg9;have qk:w9.cell? ⟨w8.heap.size,0,none⟩=some (.int .i64 x.k):=hr9.cell 0;have R9:=hide hr9;have HB9:=hide (HB6.out.trans ((HB8.out.trans (hb9.mono HB8.out.size)).mono HB6.out.size));have R69:=hide ((R6.out.on HB8.out).on hb9);have hs9l:=hr9.lt;have E39:=hide (E3.out.under hb9 (by have:=HB6.out.size;have:=HB8.out.size;omega));have E59:=hide (E5.out.under hb9 (by have:=HB6.out.size;have:=HB8.out.size;omega));clear hr9 hg9 hs9 hb9))
    go_roundw
    case rel=>exact ⟨j+1,by omega,by go_num,HBR.out.trans (HB9.out.mono hbsz),find_take_none HN.out HEJ.out HU.out⟩
    case measure=>simp [intOf];omega
   ·skip
    go_wp2_with (first|(refine wpList_loadX rfl 87 (.tmp 17) rfl 3 entw_agg entw_size bE (oE+j*3) rfl (cellsE e) HCE.out rfl ?_)|(refine wpList_storeW rfl 87 (.tmp 9) (.tmp 18) rfl 3 entw_size wr.heap.size 87 rfl [.int .i64 0,.int .i64 0,.string ⟨#[]⟩] (cellsE e) rfl HZE.out rfl rfl (cellsE_one e) ?_;intro w6 hr6 hg6 hs6;have hb6:=below_stored' hg6;have qe1:w6.cell? ⟨wr.heap.size,1,none⟩=some (.int .i64 e.ino):=hr6.cell 1;have qe2:w6.cell? ⟨wr.heap.size,2,none⟩=some (.string ⟨e.name.toArray⟩):=hr6.cell 2;have qb:w6.cell? ⟨w.heap.size,0,none⟩=some (.slice A n c):=((R0.out.on HB4r.out).on hb6).cell 0;have R6:=hide hr6;have HB6:=hide hb6;clear hr6 hg6 hs6 hb6)|(go_at_call 63;refine (Of_e HX.out w6 (HL.out.under (HB4r.out.trans (HB6.out.mono (by omega))) (by omega)) (by have:=HB6.out.size;omega) hm).mono ?_;rintro ez w8 ⟨A1,n1,c1,C1,m1,d1,rfl,e2,e3,e4,e5,hb8⟩;have E3:=hide e3;have E5:=hide e5;have HB8:=hide hb8;have HZN:=hide (RowL.new w8 65 (nodC nod0 (.slice none 0 0) (.slice none 0 0)));clear e3 e5 hb8)|(refine wpList_storeW rfl 65 (.tmp 10) (.tmp 26) rfl 13 nod_size w8.heap.size 65 rfl (nodC nod0 (.slice none 0 0) (.slice none 0 0)) (nodC x (.slice A1 n1 c1) (.slice C1 m1 d1)) rfl HZN.out rfl rfl (nodC_one _ _ _ _ _ _ _) ?_;intro w9 hr9 hg9 hs9;have hb9:=below_stored' hg9;have qk:w9.cell? ⟨w8.heap.size,0,none⟩=some (.int .i64 x.k):=hr9.cell 0;have R9:=hide hr9;have HB9:=hide (HB6.out.trans ((HB8.out.trans (hb9.mono HB8.out.size)).mono HB6.out.size));have R69:=hide ((R6.out.on HB8.out).on hb9);have hs9l:=hr9.lt;have E39:=hide (E3.out.under hb9 (by have:=HB6.out.size;have:=HB8.out.size;omega));have E59:=hide (E5.out.under hb9 (by have:=HB6.out.size;have:=HB8.out.size;omega));clear hr9 hg9 hs9 hb9))
    have hsw6:=HB6.out.size
    have hsw8:=HB8.out.size
    have HFS:=hide (show FirstBS w9 w.heap.size wr.heap.size w8.heap.size (w.heap.size+1) (w.heap.size+1+1) (cellsE e) (nodC x (.slice A1 n1 c1) (.slice C1 m1 d1)) w9 from ⟨R69.out,R9.out,⟨_,(R1.out.on HB4r.out).on HB9.out,rfl⟩,⟨_,(R2.out.on HB4r.out).on HB9.out,rfl⟩,Below.refl _ _⟩)
    have hsum:w.heap.size+3≤wr.heap.size:=by omega
    have hs69:w.heap.size≤w9.heap.size:=by omega
    clear qk qe1 qe2 qb
    (try simp only [Act.put])
    refine wp_region_planN (fun w'=>FirstBS w9 w.heap.size wr.heap.size w8.heap.size (w.heap.size+1) (w.heap.size+1+1) (cellsE e) (nodC x (.slice A1 n1 c1) (.slice C1 m1 d1)) w') [(0,true),(1,true),(2,false),(3,false)] (by kernel_rfl) (by kernel_rfl) (by kernel_rfl) (by kernel_rfl) rfl (fun _ _ _ _ _ h=>h) (HFS.out.drew) (fun hHeld=>?_)
    simp only [planOps,List.filterMap_cons,List.filterMap_nil,List.getElem?_toArray,List.getElem?_cons_succ,List.getElem?_cons_zero,Option.map_some]
    refine wpPlan_take (v:=?_) (by kernel_rfl) (fun wS hSw=>?_) ?_
    rotate_left
    ·refine execOp_load (x:=.tmp 9) (k:=3) (g:=wr.heap.size) (off:=0) (cs:=cellsE e) ?_ entw_agg entw_size ?_ (fun j v hv=>by rw [Nat.zero_add];exact (hSw.1.cell j).trans hv) rfl <;> rfl
    (try simp only [Act.put,pu1,pu2,pu3])
    refine wpPlan_take (v:=?_) (by kernel_rfl) (fun wS hSw=>?_) ?_
    rotate_left
    ·refine execOp_load (x:=.tmp 10) (k:=13) (g:=w8.heap.size) (off:=0) (cs:=(nodC x (.slice A1 n1 c1) (.slice C1 m1 d1))) ?_ nod_agg nod_size ?_ (fun j v hv=>by rw [Nat.zero_add];exact (hSw.2.1.cell j).trans hv) rfl <;> rfl
    (try simp only [Act.put,pu1,pu2,pu3])
    refine wpPlan_call (by kernel_rfl) (fun K hK=>?_)
    have hOld:=hide hHeld
    clear hHeld
    obtain ⟨p1,p2,⟨cu3,p3,l3⟩,⟨cu4,p4,l4⟩,p5⟩:=hOld.out
    refine wp_storeC 87 (.tmp 6) (.tmp 30) rfl 3 entw_size (w.heap.size+1) 0 87 rfl cu3 (cellsE e) rfl p3 rfl (by omega) (cellsE_one e) ?_
    intro w' hr' hg' hs'
    rw [splice_all _ _ (by rw [l3];rfl)] at hr'
    refine hK.out _ _ (⟨p1.grown hg' (pu5 (by omega)),p2.grown hg' (pu5 (by omega)),⟨_,hr',rfl⟩,⟨cu4,p4.grown hg' (pu5 (by omega)),l4⟩,p5.grown hg' (by have:=p5.size;omega) (pu4 (by omega))⟩) (fun hHeld=>?_)
    clear hK K
    have HRP:=hide hr'
    clear hr' hg' hs' p1 p2 p3 p4 p5
    (try simp only [Act.put])
    refine wpPlan_call (by kernel_rfl) (fun K hK=>?_)
    have hOld:=hide hHeld
    clear hHeld
    obtain ⟨p1,p2,⟨cu3,p3,l3⟩,⟨cu4,p4,l4⟩,p5⟩:=hOld.out
    refine wp_storeC 65 (.tmp 7) (.tmp 31) rfl 13 nod_size (w.heap.size+1+1) 0 65 rfl cu4 (nodC x (.slice A1 n1 c1) (.slice C1 m1 d1)) rfl p4 rfl (by omega) (nodC_one _ _ _ _ _ _ _) ?_
    intro w' hr' hg' hs'
    rw [splice_all _ _ (by rw [l4];rfl)] at hr'
    refine hK.out _ _ (⟨p1.grown hg' (pu5 (by omega)),p2.grown hg' (pu5 (by omega)),⟨cu3,p3.grown hg' (pu5 (by omega)),l3⟩,⟨_,hr',rfl⟩,p5.grown hg' (by have:=p5.size;omega) (pu4 (by omega))⟩) (fun hHeld=>?_)
    clear hK K
    have HRP2:=hide (HRP.out.grown hg' (pu5 (by omega)))
    have HRN:=hide hr'
    clear hr' hg' hs' p1 p2 p3 p4 p5
    (try simp only [Act.put])
    refine wpPlan_end ?_
    have HSF:=hide hHeld
    clear hHeld
    go_wp2_with fail
    obtain ⟨-,-,-,-,hbF⟩:=HSF.out
    have eFO:FO=some e:=by
     rw [←HFO.out]
     unfold firstB
     rw [HEL.out,find_take_some HN.out HEJ.out HU.out]
    have hkU:Kept (Under B) w9 w':=fun b hb=>hbF.block b (Nat.lt_of_lt_of_le hb hB)
    subst eFO
    have hx2:nodB ns (some e)=x:=HX.out
    refine bodyPost_ret (res_cells Tryz.results125 rfl rfl entw_agg entw_size nod_agg nod_size HRP2.out rfl HRN.out rfl) rfl ⟨A1,n1,c1,C1,m1,d1,by rw [hx2];rfl,e2,by rw [hx2];exact E39.out.mono hkU (fun _ h=>h),e4,by rw [hx2];exact E59.out.mono hkU (fun _ h=>h),(HBw.out.trans (HB9.out.mono (by omega))).trans hbF⟩
  ·obtain rfl:j=m:=by omega
   have HR1:=hide (R1.out.on HB4r.out)
   have HR2:=hide (R2.out.on HB4r.out)
   go_wp2_with (first|(refine wpList_storeW rfl 87 (.tmp 6) (.tmp 33) rfl 3 entw_size (w.heap.size+1) 87 rfl [.int .i64 0,.int .i64 0,.string ⟨#[]⟩] (cellsE ent0) rfl HR1.out rfl rfl (cellsE_one ent0) ?_;intro w6 hr6 hg6 hs6;have R6:=hide hr6;have R36:=hide (HR2.out.grown hg6 (pu5 (by omega)));have HB6:=hide (HBw.out.grown hg6 (by omega) (pu4 (by omega)));clear hr6 hg6)|(refine wpList_storeW rfl 65 (.tmp 7) (.tmp 34) rfl 13 nod_size (w.heap.size+1+1) 65 rfl (nodC nod0 (.slice none 0 0) (.slice none 0 0)) (nodC nod0 (.slice none 0 0) (.slice none 0 0)) rfl R36.out rfl rfl (nodC_one nod0 none none 0 0 0 0) ?_;intro w7 hr7 hg7 hs7;have R7:=hide hr7;have R67:=hide (R6.out.grown hg7 (pu5 (by omega)));have HB7:=hide (HB6.out.grown hg7 (by omega) (pu4 (by omega)));clear hr7 hg7))
   have eFO:FO=none:=by
    rw [←HFO.out]
    unfold firstB
    have h1:=HN.out
    rw [List.take_of_length_le (by have:=HEM.out;omega)] at h1
    rw [HEL.out,h1]
   subst eFO
   exact bodyPost_ret (res_cells Tryz.results125 rfl rfl entw_agg entw_size nod_agg nod_size R67.out rfl R7.out rfl) rfl ⟨none,0,0,none,0,0,rfl,Nat.le_refl _,RdE.none_ _ _ _ _,Nat.le_refl _,RdE.none_ _ _ _ _,HB7.out⟩
end Go.Proofs.YtnhegahpfacdgaaGreat

