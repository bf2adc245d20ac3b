import Derived.Test.YtpndfahgflgocaaGreatDoorXt14
import Derived.Test.YtpndfahgflgocaaGreatDoorXt15
import Derived.Test.YtpndfahgflgocaaGreatDoorXt5

namespace Go.Proofs.YtpndfahgflgocaaGreatDoor
open Go.RowKit Go.Shelf Plain

structure GeoQ where
 (a b c d:Int)
def stkC (g:GeoQ) (U L:Value):List Value:=[.int .i64 g.a,.int .i64 g.b,.int .i64 g.c,.int .i64 g.d,U,L]
def layEn:Enc (List NodV):=Enc.list nodEn
def LayB (w:World) (B:Nat) (ns:List NodV) (e:Ending) (w':World):Prop:=∃A n c,e=.returned (.agg #[.slice A n c])∧n≤c∧RdE nodEn w' (Under B) A n ns∧Below w.heap.size w w'
theorem lay_out {ls:List (List NodV)} {la:Int} (h:¬(1≤la∧la≤(ls.length:Int))):layL ls la=[]:=by unfold layL;rw [if_neg h]
theorem lay_in {ls:List (List NodV)} {la:Int} (h:1≤la∧la≤(ls.length:Int)):∃(j:Nat) (ns:List NodV),la=(j:Int)+1∧ls[j]?=some ns∧layL ls la=ns:=by
 obtain ⟨j,hj⟩:=Int.eq_ofNat_of_zero_le (show 0≤la - 1 by omega)
 have hl:j < ls.length:=by omega
 refine ⟨j,ls[j],by omega,List.getElem?_eq_getElem hl,?_⟩
 unfold layL
 rw [if_pos h,hj]
 simp [hl]
theorem slc_one (A:Option Addr) (n c:Nat):∀v∈[Value.slice A n c],v.oneCell'=true:=by simp [Value.oneCell']
set_option maxRecDepth 100000 in
theorem stk_agg:∀w,(isAgg 29).run Tryz.prog w=.ok true w:=fun w=>by kernel_rfl
set_option maxRecDepth 100000 in
theorem stk_size:∀w,(Go.sizeOf 29).run Tryz.prog w=.ok 6 w:=fun w=>by kernel_rfl
set_option maxRecDepth 100000 in
theorem brn_agg:∀w,(isAgg 26).run Tryz.prog w=.ok true w:=fun w=>by kernel_rfl
set_option maxRecDepth 100000 in
theorem brn_size:∀w,(Go.sizeOf 26).run Tryz.prog w=.ok 1 w:=fun w=>by kernel_rfl
set_option maxRecDepth 100000 in
set_option maxHeartbeats 1600000 in
theorem Beneath_any {g:GeoQ} {AU AL:Option Addr} {nU cU nL cL:Nat} {ls:List (List NodV)} {la:Int} {B:Nat} (w:World) (h:RdE layEn w (Under B) AL nL ls) (hB:B≤w.heap.size) (hm:ls.length≤100) :
  Calls Tryz.prog 119 #[.agg (stkC g (.slice AU nU cU) (.slice AL nL cL)).toArray,.int .i64 la] w (LayB w B (layL ls la)):=by
 obtain ⟨r0,r1,hb2,hs2⟩:=rows2 w (stkC g (.slice AU nU cU) (.slice AL nL cL)) [.slice none 0 0] 29 26
 obtain ⟨W3,hW3⟩:∃W3,(w.alloc (.cells (stkC g (.slice AU nU cU) (.slice AL nL cL)).toArray 29)).alloc (.cells [Value.slice none 0 0].toArray 26)=W3:=⟨_,rfl⟩
 rw [hW3] at r0 r1 hb2 hs2
 have hW3':(w.alloc (.cells #[.int .i64 g.a,.int .i64 g.b,.int .i64 g.c,.int .i64 g.d,.slice AU nU cU,.slice AL nL cL] 29)).alloc (.cells #[.slice none 0 0] 26)=W3:=hW3
 have hl:=h.1
 have q5:W3.cell? ⟨w.heap.size,5,none⟩=some (.slice AL nL cL):=r0.cell 5
 have HZ:=hide r1
 have HB3:=hide hb2
 have hs3:w.heap.size≤W3.heap.size:=hb2.size
 have HL:=hide (h.under hb2 hB)
 unfold stkC
 by_cases h1:la≤0
 ·have e:layL ls la=[]:=lay_out (by omega)
  have d1:decide (la≤0)=true:=by simpa using h1
  rw [e]
  clear h r0 r1 hb2 hW3 e h1
  go_enter Tryz.func119,Tryz.ntmps119
  go_wp2_with (refine wpList_storeW rfl 26 (.tmp 4) (.tmp 14) rfl 1 brn_size (w.heap.size+1) 26 rfl [.slice none 0 0] [.slice none 0 0] rfl HZ.out rfl rfl (slc_one _ _ _) ?_;intro w9 hr9 hg9 hs9;have HR9:=hide hr9;have HB9:=hide (HB3.out.grown hg9 HB3.out.size (pu4 (by omega)));clear hr9 hg9 hs9)
  exact bodyPost_ret (res_cell Tryz.results119 rfl brn_agg brn_size HR9.out rfl) rfl ⟨none,0,0,rfl,Nat.le_refl _,RdE.none_ _ _ _ _,HB9.out⟩
 ·have d1:decide (la≤0)=false:=by simpa using h1
  by_cases h2:(nL:Int) < la
  ·have e:layL ls la=[]:=lay_out (by omega)
   have d2:decide ((nL:Int) < la)=true:=by simpa using h2
   rw [e]
   clear h r0 r1 hb2 hW3 e h1 h2
   go_enter Tryz.func119,Tryz.ntmps119
   go_wp2_with (refine wpList_storeW rfl 26 (.tmp 4) (.tmp 14) rfl 1 brn_size (w.heap.size+1) 26 rfl [.slice none 0 0] [.slice none 0 0] rfl HZ.out rfl rfl (slc_one _ _ _) ?_;intro w9 hr9 hg9 hs9;have HR9:=hide hr9;have HB9:=hide (HB3.out.grown hg9 HB3.out.size (pu4 (by omega)));clear hr9 hg9 hs9)
   exact bodyPost_ret (res_cell Tryz.results119 rfl brn_agg brn_size HR9.out rfl) rfl ⟨none,0,0,rfl,Nat.le_refl _,RdE.none_ _ _ _ _,HB9.out⟩
  ·have d2:decide ((nL:Int) < la)=false:=by simpa using h2
   obtain ⟨j,ns,hla,hns,e⟩:=lay_in (ls:=ls) (la:=la) (by omega)
   rw [e]
   obtain ⟨bL,oL,hAL,hbL,A2,n2,c2,hcL,hc2,hN2⟩:=RdE.get_list (F:=nodEn) HL.out hns
   have hjn:j < nL:=by omega
   have HNS:=hide hN2
   subst hla
   subst hAL
   have hw1:IntKind.i64.wrap ((j:Int)+1 - 1)=(j:Int):=by rw [show (j:Int)+1 - 1=j from by omega];exact IntWalk.i64_in _ (by omega)
   have hw2:IntKind.i64.wrap (j:Int)=(j:Int):=IntWalk.i64_in _ (by omega)
   have hjl:(j:Int) < (nL:Int):=by omega
   clear h r0 r1 hb2 hW3 e h1 h2 hN2 hns hl
   go_enter Tryz.func119,Tryz.ntmps119
   go_wp2_with (first|fail|(refine wpList_storeW rfl 26 (.tmp 4) (.tmp 20) rfl 1 brn_size (w.heap.size+1) 26 rfl [.slice none 0 0] [.slice A2 n2 c2] rfl HZ.out rfl rfl (slc_one _ _ _) ?_;intro w9 hr9 hg9 hs9;have HR9:=hide hr9;have HB9:=hide (HB3.out.grown hg9 HB3.out.size (pu4 (by omega)));have HN9:=hide (HNS.out.mono (show Kept (Under B) W3 w9 from fun b hb=>hg9.block b (by unfold Under at hb;omega) (fun e=>by have:=Option.some.inj e;unfold Under at hb;omega)) (fun _ h=>h));clear hr9 hg9 hs9))
   exact bodyPost_ret (res_cell Tryz.results119 rfl brn_agg brn_size HR9.out rfl) rfl ⟨A2,n2,c2,rfl,hc2,HN9.out,HB9.out⟩
theorem Beneath_e {g:GeoQ} {AU AL:Option Addr} {nU cU nL cL:Nat} {ls:List (List NodV)} {ns:List NodV} {la:Int} {B:Nat} (hx:layL ls la=ns) (w:World) (h:RdE layEn w (Under B) AL nL ls) (hB:B≤w.heap.size) (hm:ls.length≤100) :
  Calls Tryz.prog 119 #[.agg (stkC g (.slice AU nU cU) (.slice AL nL cL)).toArray,.int .i64 la] w (LayB w B ns):=by rw [←hx];exact Beneath_any w h hB hm
theorem Of_e {A:Option Addr} {B:Nat} {n c:Nat} {ns:List NodV} {i:Int} {x:NodV} (hx:nodAt ns i=x) (w:World) (h:RdE nodEn w (Under B) A n ns) (hB:B≤w.heap.size) (hm:ns.length≤100000):Calls Tryz.prog 36 #[.agg #[.slice A n c],.int .i64 i] w (NodRet w B x):=by rw [←hx];exact Of_any w h hB hm
theorem layL_len {ls:List (List NodV)} (h:∀ns∈ls,ns.length≤1000) (la:Int):(layL ls la).length≤1000:=by
 unfold layL
 split
 ·cases hx:ls[(la - 1).toNat]? with
  | none=>simp
  | some ns=>exact h ns (List.mem_of_getElem? hx)
 ·simp
set_option maxRecDepth 100000 in
set_option maxHeartbeats 4000000 in
theorem NLower_any {g:GeoQ} {AU AL:Option Addr} {nU cU nL cL:Nat} {ls:List (List NodV)} {la i:Int} {B:Nat} (w:World) (h:RdE layEn w (Under B) AL nL ls) (hB:B≤w.heap.size) (hm:ls.length≤100) (hm2:∀ns∈ls,ns.length≤1000) :
  Calls Tryz.prog 93 #[.agg (stkC g (.slice AU nU cU) (.slice AL nL cL)).toArray,.agg #[.int .i64 la,.int .i64 i]] w (NodRet w B (lowAt ls la i)):=by
 obtain ⟨r0,r1,r2,hb3,hs3⟩:=rows3 w (stkC g (.slice AU nU cU) (.slice AL nL cL)) [.int .i64 la,.int .i64 i] (nodC nod0 (.slice none 0 0) (.slice none 0 0)) 29 75 51
 obtain ⟨W3,hW3⟩:∃W3,((w.alloc (.cells (stkC g (.slice AU nU cU) (.slice AL nL cL)).toArray 29)).alloc (.cells [Value.int .i64 la,.int .i64 i].toArray 75)).alloc (.cells (nodC nod0 (.slice none 0 0) (.slice none 0 0)).toArray 51)=W3:=⟨_,rfl⟩
 rw [hW3] at r0 r1 r2 hb3 hs3
 have hW3':((w.alloc (.cells #[.int .i64 g.a,.int .i64 g.b,.int .i64 g.c,.int .i64 g.d,.slice AU nU cU,.slice AL nL cL] 29)).alloc (.cells #[.int .i64 la,.int .i64 i] 75)).alloc (.cells #[.int .i64 0,.int .i64 0,.int .i64 0,.int .i64 0,.slice none 0 0,.slice none 0 0,.int .i64 0,.int .i64 0,.string ⟨#[]⟩,.int .i64 0,.int .i64 0,.int .i64 0,.int .i64 0] 51)=W3:=hW3
 have HQ0:=hide (fun W (hb:Below W3.heap.size W3 W)=>show W.cell? ⟨w.heap.size+1,0,none⟩=some (.int .i64 la) from (r1.on hb).cell 0)
 have HQ1:=hide (fun W (hb:Below W3.heap.size W3 W)=>show W.cell? ⟨w.heap.size+1,1,none⟩=some (.int .i64 i) from (r1.on hb).cell 1)
 have R0:=hide r0
 have R2:=hide r2
 have HB3:=hide hb3
 have hs3:w.heap.size≤W3.heap.size:=hb3.size
 have HL:=hide (h.under hb3 hB)
 have hlay:=layL_len hm2 la
 rw [←lay_at]
 obtain ⟨x,hx⟩:∃x,nodAt (layL ls la) i=x:=⟨_,rfl⟩
 obtain ⟨ly,hly⟩:∃ly,layL ls la=ly:=⟨_,rfl⟩
 rw [hly] at hx hlay
 have HLY:=hide hly
 unfold stkC
 clear h r0 r1 r2 hb3 hW3
 rw [hly,hx]
 have HX:=hide hx
 clear hx hly
 go_enter Tryz.func93,Tryz.ntmps93
 go_wp2_with fail
 clear hW3'
 refine wp_region_planL (fun w'=>Below W3.heap.size W3 w') [(0,true),(1,true),(2,true),(4,true),(5,true),(3,false),(6,false)] 7 (by kernel_rfl) (by kernel_rfl) (by kernel_rfl) (by kernel_rfl) (by kernel_rfl) rfl (fun _ _ _ _ _ h=>h) (below_drew (below_self W3)) (fun hHeld=>?_)
 simp only [planOps,List.filterMap_cons,List.filterMap_nil,List.getElem?_toArray,List.getElem?_cons_succ,List.getElem?_cons_zero,Option.map_some]
 refine wpPlan_take (v:=?_) (by kernel_rfl) (fun wS hSw=>?_) ?_
 rotate_left
 ·refine execOp_load (x:=.tmp 2) (k:=6) (g:=w.heap.size) (off:=0) (cs:=stkC g (.slice AU nU cU) (.slice AL nL cL)) ?_ stk_agg stk_size ?_ (fun j v hv=>by rw [Nat.zero_add];exact ((R0.out.on hSw).cell j).trans hv) rfl <;> rfl
 (try simp only [Act.put,pu1,pu2,pu3])
 refine wpPlan_take (v:=?_) (by kernel_rfl) (fun wS hSw=>?_) ?_
 rotate_left
 ·(try dsimp only at hSw);go_simp;(try with_reducible rfl)
 (try simp only [Act.put,pu1,pu2,pu3])
 refine wpPlan_take (v:=?_) (by kernel_rfl) (fun wS hSw=>?_) ?_
 rotate_left
 ·have qx:=HQ0.out wS hSw;go_simp;(try with_reducible rfl)
 (try simp only [Act.put,pu1,pu2,pu3])
 refine wpPlan_take (v:=?_) (by kernel_rfl) (fun wS hSw=>?_) ?_
 rotate_left
 ·(try dsimp only at hSw);go_simp;(try with_reducible rfl)
 (try simp only [Act.put,pu1,pu2,pu3])
 refine wpPlan_take (v:=?_) (by kernel_rfl) (fun wS hSw=>?_) ?_
 rotate_left
 ·have qx:=HQ1.out wS hSw;go_simp;(try with_reducible rfl)
 (try simp only [Act.put,pu1,pu2,pu3])
 refine wpPlan_call (by kernel_rfl) (fun K hK=>?_)
 have hOld:=hide hHeld
 clear hHeld
 go_simp
 go_at_call 119
 refine (Beneath_e HLY.out (B:=B) _ (HL.out.under hOld.out (by omega)) (by have:=hOld.out.size;omega) hm).mono ?_
 rintro e w' ⟨A1,n1,c1,rfl,e2,e3,hbel⟩
 have HN:=hide e3
 clear e3
 refine hK.out _ _ (hOld.out.trans (hbel.mono hOld.out.size)) (fun hHeld=>?_)
 clear hK K
 (try simp only [Act.put,pu1,pu2,pu3])
 refine wpPlan_call (by kernel_rfl) (fun K hK=>?_)
 have hOld:=hide hHeld
 clear hHeld
 go_simp
 go_at_call 36
 refine (Of_e HX.out (B:=B) _ HN.out (by have:=hOld.out.size;omega) (by omega)).mono ?_
 rintro e w' ⟨A2,n2,c2,C2,m2,d2,rfl,f2,f3,f4,f5,hbel⟩
 have E3:=hide f3
 have E5:=hide f5
 clear f3 f5
 refine hK.out _ _ (hOld.out.trans (hbel.mono hOld.out.size)) (fun hHeld=>?_)
 clear hK K
 (try simp only [Act.put,pu1,pu2,pu3])
 refine wpPlan_end ?_
 refine postL_go rfl (by kernel_rfl) ?_
 have R9:=hide (R2.out.on hHeld)
 have HBX:=hide (HB3.out.trans (hHeld.mono hs3))
 have hsX:=hHeld.size
 clear hHeld
 refine wp_storeC 51 (.tmp 4) (.tmp 11) rfl 13 nod_size (w.heap.size+1+1) 0 51 rfl (nodC nod0 (.slice none 0 0) (.slice none 0 0)) (nodC x (.slice A2 n2 c2) (.slice C2 m2 d2)) rfl R9.out rfl (by exact Nat.le_refl _) (nodC_one _ _ _ _ _ _ _) ?_
 intro w9 hr9 hg9 hs9
 have e9:splice (nodC nod0 (.slice none 0 0) (.slice none 0 0)) 0 (nodC x (.slice A2 n2 c2) (.slice C2 m2 d2))=nodC x (.slice A2 n2 c2) (.slice C2 m2 d2):=by simp [splice,nodC]
 rw [e9] at hr9
 have HR9:=hide hr9
 have HG9:=hide hg9
 clear hr9 hg9 e9
 (try simp only [Act.put])
 go_wp2_with fail
 have hk:Kept (Under B) w' w9:=fun b hb=>HG9.out.block b (by unfold Under at hb;omega) (fun e=>by have:=Option.some.inj e;unfold Under at hb;omega)
 exact bodyPost_ret (res_cell Tryz.results93 rfl nod_agg nod_size HR9.out rfl) rfl ⟨A2,n2,c2,C2,m2,d2,rfl,f2,E3.out.mono hk (fun _ h=>h),f4,E5.out.mono hk (fun _ h=>h),HBX.out.grown HG9.out (by omega) (pu4 (by omega))⟩
end Go.Proofs.YtpndfahgflgocaaGreatDoor

namespace Go.Proofs.YtpndfahgflgocaaGreatDoor
open Go.RowKit Go.Shelf Plain

set_option maxRecDepth 100000 in
set_option maxHeartbeats 1600000 in
theorem NHas_b {x:NodV} {D C:Option Addr} {n c m d:Nat} {q:Int} {b:Bool} (hb:(bits .and .i64 x.att.h q==q)=b) (w:World):Calls Tryz.prog 60 #[.agg (nodC x (.slice D n c) (.slice C m d)).toArray,.int .i64 q] w (BoolB w b):=by
 have r:=RowL.new w 51 (nodC x (.slice D n c) (.slice C m d))
 have hb1:=below_new (below_self w) (.cells (nodC x (.slice D n c) (.slice C m d)).toArray 51)
 obtain ⟨W1,hW1⟩:∃W1,w.alloc (.cells (nodC x (.slice D n c) (.slice C m d)).toArray 51)=W1:=⟨_,rfl⟩
 rw [hW1] at r hb1
 have hW1':w.alloc (.cells #[.int .i64 x.k,.int .i64 x.p,.int .i64 x.n,.int .i64 x.g,.slice D n c,.slice C m d,.int .i64 x.att.h,.int .i64 x.att.o,.string ⟨x.att.r.toArray⟩,.int .i64 x.att.l,.int .i64 x.att.i,.int .i64 x.att.g,.int .i64 x.att.s] 51)=W1:=hW1
 have q6:W1.cell? ⟨w.heap.size,6,none⟩=some (.int .i64 x.att.h):=r.cell 6
 have HB1:=hide hb1
 have HBB:=hide hb
 unfold nodC
 clear r hb1 hW1
 go_enter Tryz.func60,Tryz.ntmps60
 go_wp2
 go_ret
 exact BoolB.of HB1.out
def EntsRet (w:World) (B:Nat) (l:List EntV) (e:Ending) (w':World):Prop:=∃C m d,e=.returned (.slice C m d)∧m≤d∧RdE entEn w' (Under B) C m l∧Below w.heap.size w w'
set_option maxRecDepth 100000 in
set_option maxHeartbeats 4000000 in
theorem Entries_any {A:Option Addr} {n c:Nat} {ns:List NodV} {i:Int} {B:Nat} (w:World) (h:RdE nodEn w (Under B) A n ns) (hB:B≤w.heap.size) (hm:ns.length≤100000) :
  Calls Tryz.prog 46 #[.agg #[.slice A n c],.int .i64 i] w (EntsRet w B (entB ns i)):=by
 have r0:=RowL.new w 26 [.slice A n c]
 have hb1:=below_new (below_self w) (.cells [Value.slice A n c].toArray 26)
 obtain ⟨W1,hW1⟩:∃W1,w.alloc (.cells [Value.slice A n c].toArray 26)=W1:=⟨_,rfl⟩
 rw [hW1] at r0 hb1
 have hW1':w.alloc (.cells #[.slice A n c] 26)=W1:=hW1
 have q0:W1.cell? ⟨w.heap.size,0,none⟩=some (.slice A n c):=r0.cell 0
 have HB1:=hide hb1
 have HL:=hide (h.under hb1 hB)
 have hs1:w.heap.size≤W1.heap.size:=hb1.size
 obtain ⟨x,hx⟩:∃x,nodAt ns i=x:=⟨_,rfl⟩
 have HX:=hide hx
 obtain ⟨bk,hbk⟩:∃bk,(x.k != 1)=bk:=⟨_,rfl⟩
 have HE:=hide (show entB ns i=if bk=true then [] else x.ents from by
  unfold entB
  rw [hx,←hbk]
  by_cases hk:x.k=1 <;> simp [hk])
 clear r0 hb1 hW1 h hx
 rw [HE.out]
 go_enter Tryz.func46,Tryz.ntmps46
 cases bk
 all_goals
  go_wp2_with (first|(go_at_call 36;refine (Of_e HX.out W1 HL.out (Nat.le_trans hB hs1) hm).mono ?_;rintro e w3 ⟨A1,n1,c1,C1,m1,d1,rfl,e2,e3,e4,e5,hb3⟩;have E5:=hide e5;have HB3:=hide (HB1.out.trans (hb3.mono hs1));have hs3:=hb3.size;have HZ:=hide (RowL.new w3 51 (nodC nod0 (.slice none 0 0) (.slice none 0 0)));clear e3 e5 hb3)|(refine wpList_storeW rfl 51 (.tmp 5) (.tmp 8) rfl 13 nod_size w3.heap.size 51 rfl (nodC nod0 (.slice none 0 0) (.slice none 0 0)) (nodC x (.slice A1 n1 c1) (.slice C1 m1 d1)) rfl HZ.out rfl rfl (nodC_one _ _ _ _ _ _ _) ?_;intro w4 hr4 hg4 hs4;have hb4:=below_stored' hg4;have q0:w4.cell? ⟨w3.heap.size,0,none⟩=some (.int .i64 x.k):=hr4.cell 0;have q5:w4.cell? ⟨w3.heap.size,5,none⟩=some (.slice C1 m1 d1):=hr4.cell 5;have HB4:=hide (HB3.out.trans (hb4.mono HB3.out.size));have E6:=hide (E5.out.under hb4 (by omega));clear hr4 hg4 hs4 hb4))
  go_ret
  first|exact ⟨C1,m1,d1,rfl,e4,E6.out,HB4.out⟩|exact ⟨none,0,0,rfl,Nat.le_refl _,RdE.none_ _ _ _ _,HB4.out⟩
end Go.Proofs.YtpndfahgflgocaaGreatDoor

namespace Go.Proofs.YtpndfahgflgocaaGreatDoor
open Go.RowKit Go.Shelf Plain

set_option maxRecDepth 100000 in
set_option maxHeartbeats 4000000 in
theorem RLower_any {g:GeoQ} {AU AL:Option Addr} {nU cU nL cL:Nat} {ls:List (List NodV)} {la i:Int} {B:Nat} (w:World) (h:RdE layEn w (Under B) AL nL ls) (hB:B≤w.heap.size) (hm:ls.length≤100) (hm2:∀ns∈ls,ns.length≤1000) :
  Calls Tryz.prog 52 #[.agg (stkC g (.slice AU nU cU) (.slice AL nL cL)).toArray,.agg #[.int .i64 la,.int .i64 i]] w (NodRet w B (lowAt ls la i)):=by
 obtain ⟨r0,r1,r2,hb3,hs3⟩:=rows3 w (stkC g (.slice AU nU cU) (.slice AL nL cL)) [.int .i64 la,.int .i64 i] (nodC nod0 (.slice none 0 0) (.slice none 0 0)) 29 75 51
 obtain ⟨W3,hW3⟩:∃W3,((w.alloc (.cells (stkC g (.slice AU nU cU) (.slice AL nL cL)).toArray 29)).alloc (.cells [Value.int .i64 la,.int .i64 i].toArray 75)).alloc (.cells (nodC nod0 (.slice none 0 0) (.slice none 0 0)).toArray 51)=W3:=⟨_,rfl⟩
 rw [hW3] at r0 r1 r2 hb3 hs3
 have hW3':((w.alloc (.cells #[.int .i64 g.a,.int .i64 g.b,.int .i64 g.c,.int .i64 g.d,.slice AU nU cU,.slice AL nL cL] 29)).alloc (.cells #[.int .i64 la,.int .i64 i] 75)).alloc (.cells #[.int .i64 0,.int .i64 0,.int .i64 0,.int .i64 0,.slice none 0 0,.slice none 0 0,.int .i64 0,.int .i64 0,.string ⟨#[]⟩,.int .i64 0,.int .i64 0,.int .i64 0,.int .i64 0] 51)=W3:=hW3
 have hl:=h.1
 have q5:W3.cell? ⟨w.heap.size,5,none⟩=some (.slice AL nL cL):=r0.cell 5
 have p0:W3.cell? ⟨w.heap.size+1,0,none⟩=some (.int .i64 la):=r1.cell 0
 have HQL:=hide (fun W (hb:Below W3.heap.size W3 W)=>show W.cell? ⟨w.heap.size,5,none⟩=some (.slice AL nL cL) from (r0.on hb).cell 5)
 have HQ0:=hide (fun W (hb:Below W3.heap.size W3 W)=>show W.cell? ⟨w.heap.size+1,0,none⟩=some (.int .i64 la) from (r1.on hb).cell 0)
 have HQ1:=hide (fun W (hb:Below W3.heap.size W3 W)=>show W.cell? ⟨w.heap.size+1,1,none⟩=some (.int .i64 i) from (r1.on hb).cell 1)
 have R2:=hide r2
 have HB3:=hide hb3
 have hs3:w.heap.size≤W3.heap.size:=hb3.size
 have HL:=hide (h.under hb3 hB)
 unfold stkC
 by_cases h1:la < 1
 ·have e:lowAt ls la i=nod0:=low_out (by omega)
  have d1:decide (la < 1)=true:=by simpa using h1
  rw [e]
  clear h r0 r1 r2 hb3 hW3 e h1
  go_enter Tryz.func52,Tryz.ntmps52
  go_wp2_with (refine wpList_storeW rfl 51 (.tmp 4) (.tmp 16) rfl 13 nod_size (w.heap.size+1+1) 51 rfl (nodC nod0 (.slice none 0 0) (.slice none 0 0)) (nodC nod0 (.slice none 0 0) (.slice none 0 0)) rfl R2.out rfl rfl (nodC_one nod0 none none 0 0 0 0) ?_;intro w9 hr9 hg9 hs9;have HR9:=hide hr9;have HB9:=hide (HB3.out.grown hg9 HB3.out.size (pu4 (by omega)));clear hr9 hg9)
  exact bodyPost_ret (res_cell Tryz.results52 rfl nod_agg nod_size HR9.out rfl) rfl (NodRet.of (Nat.le_refl _) (RdE.none_ _ _ _ _) (Nat.le_refl _) (RdE.none_ _ _ _ _) HB9.out hB)
 ·have d1:decide (la < 1)=false:=by simpa using h1
  by_cases h2:(nL:Int) < la
  ·have e:lowAt ls la i=nod0:=low_out (by omega)
   have d2:decide ((nL:Int) < la)=true:=by simpa using h2
   rw [e]
   clear h r0 r1 r2 hb3 hW3 e h1 h2
   go_enter Tryz.func52,Tryz.ntmps52
   go_wp2_with (refine wpList_storeW rfl 51 (.tmp 4) (.tmp 16) rfl 13 nod_size (w.heap.size+1+1) 51 rfl (nodC nod0 (.slice none 0 0) (.slice none 0 0)) (nodC nod0 (.slice none 0 0) (.slice none 0 0)) rfl R2.out rfl rfl (nodC_one nod0 none none 0 0 0 0) ?_;intro w9 hr9 hg9 hs9;have HR9:=hide hr9;have HB9:=hide (HB3.out.grown hg9 HB3.out.size (pu4 (by omega)));clear hr9 hg9)
   exact bodyPost_ret (res_cell Tryz.results52 rfl nod_agg nod_size HR9.out rfl) rfl (NodRet.of (Nat.le_refl _) (RdE.none_ _ _ _ _) (Nat.le_refl _) (RdE.none_ _ _ _ _) HB9.out hB)
  ·have d2:decide ((nL:Int) < la)=false:=by simpa using h2
   obtain ⟨j,ns,hla,hns,e⟩:=low_in (ls:=ls) (la:=la) (i:=i) (by omega)
   rw [e]
   obtain ⟨bL,oL,hAL,hbL,A2,n2,c2,hcL,hc2,hN2⟩:=RdE.get_list (F:=nodEn) HL.out hns
   have hjn:j < nL:=by omega
   have hbW:bL < W3.heap.size:=Nat.lt_of_lt_of_le hbL (Nat.le_trans hB hs3)
   have HQB:=hide (fun W (hb:Below W3.heap.size W3 W)=>show W.cell? ⟨bL,oL+j,none⟩=some (.slice A2 n2 c2) from (hb.cell (p:=⟨bL,oL+j,none⟩) hbW).trans hcL)
   have HNS:=hide hN2
   have hnl:ns.length≤1000:=hm2 ns (List.mem_of_getElem? hns)
   subst hla
   subst hAL
   have hw1:IntKind.i64.wrap ((j:Int)+1 - 1)=(j:Int):=by rw [show (j:Int)+1 - 1=j from by omega];exact IntWalk.i64_in _ (by omega)
   have hw2:IntKind.i64.wrap (j:Int)=(j:Int):=IntWalk.i64_in _ (by omega)
   have hjl:(j:Int) < (nL:Int):=by omega
   have hnlL:nL≤100:=by omega
   clear h r0 r1 r2 hb3 hW3 e h1 h2 hcL hN2 hns hl hm2
   go_enter Tryz.func52,Tryz.ntmps52
   go_wp2_with fail
   clear q5 p0 hW3'
   refine wp_region_planL (fun w'=>Below W3.heap.size W3 w') [(0,true),(1,true),(2,true),(3,true),(4,true),(5,true),(6,true),(7,true),(8,true),(9,false)] 10 (by kernel_rfl) (by kernel_rfl) (by kernel_rfl) (by kernel_rfl) (by kernel_rfl) rfl (fun _ _ _ _ _ h=>h) (below_drew (below_self W3)) (fun hHeld=>?_)
   simp only [planOps,List.filterMap_cons,List.filterMap_nil,List.getElem?_toArray,List.getElem?_cons_succ,List.getElem?_cons_zero,Option.map_some]
   refine wpPlan_take (v:=?_) (by kernel_rfl) (fun wS hSw=>?_) ?_
   rotate_left
   ·(try dsimp only at hSw);go_simp;(try with_reducible rfl)
   (try simp only [Act.put,pu1,pu2,pu3])
   refine wpPlan_take (v:=?_) (by kernel_rfl) (fun wS hSw=>?_) ?_
   rotate_left
   ·have qx:=HQL.out wS hSw;go_simp;(try with_reducible rfl)
   (try simp only [Act.put,pu1,pu2,pu3])
   refine wpPlan_take (v:=?_) (by kernel_rfl) (fun wS hSw=>?_) ?_
   rotate_left
   ·(try dsimp only at hSw);go_simp;(try with_reducible rfl)
   (try simp only [Act.put,pu1,pu2,pu3])
   refine wpPlan_take (v:=?_) (by kernel_rfl) (fun wS hSw=>?_) ?_
   rotate_left
   ·have qx:=HQ0.out wS hSw;go_simp;(try with_reducible rfl)
   (try simp only [Act.put,pu1,pu2,pu3])
   iterate 2
    refine wpPlan_take (v:=?_) (by kernel_rfl) (fun wS hSw=>?_) ?_
    rotate_left
    ·(try dsimp only at hSw);go_simp;(try with_reducible rfl)
    (try simp only [Act.put,pu1,pu2,pu3])
   refine wpPlan_take (v:=?_) (by kernel_rfl) (fun wS hSw=>?_) ?_
   rotate_left
   ·have qx:=HQB.out wS hSw;go_simp;(try with_reducible rfl)
   (try simp only [Act.put,pu1,pu2,pu3])
   refine wpPlan_take (v:=?_) (by kernel_rfl) (fun wS hSw=>?_) ?_
   rotate_left
   ·(try dsimp only at hSw);go_simp;(try with_reducible rfl)
   (try simp only [Act.put,pu1,pu2,pu3])
   refine wpPlan_take (v:=?_) (by kernel_rfl) (fun wS hSw=>?_) ?_
   rotate_left
   ·have qx:=HQ1.out wS hSw;go_simp;(try with_reducible rfl)
   (try simp only [Act.put,pu1,pu2,pu3])
   refine wpPlan_call (by kernel_rfl) (fun K hK=>?_)
   have hOld:=hide hHeld
   clear hHeld
   go_simp
   go_at_call 31
   refine (At_anyB (B:=B) _ (HNS.out.under hOld.out (by omega)) (Nat.le_trans hB (Nat.le_trans hs3 hOld.out.size)) (by omega)).mono ?_
   rintro e w' ⟨A1,n1,c1,C1,m1,d1,rfl,e2,e3,e4,e5,hbel⟩
   have E3:=hide e3
   have E5:=hide e5
   clear e3 e5
   refine hK.out _ _ (hOld.out.trans (hbel.mono hOld.out.size)) (fun hHeld=>?_)
   clear hK K
   (try simp only [Act.put,pu1,pu2,pu3])
   refine wpPlan_end ?_
   refine postL_go rfl (by kernel_rfl) ?_
   have R9:=hide (R2.out.on hHeld)
   have HBX:=hide (HB3.out.trans (hHeld.mono hs3))
   have hsX:=hHeld.size
   clear hHeld
   refine wp_storeC 51 (.tmp 4) (.tmp 26) rfl 13 nod_size (w.heap.size+1+1) 0 51 rfl (nodC nod0 (.slice none 0 0) (.slice none 0 0)) (nodC (nodAt ns i) (.slice A1 n1 c1) (.slice C1 m1 d1)) rfl R9.out rfl (by exact Nat.le_refl _) (nodC_one _ _ _ _ _ _ _) ?_
   intro w9 hr9 hg9 hs9
   have e9:splice (nodC nod0 (.slice none 0 0) (.slice none 0 0)) 0 (nodC (nodAt ns i) (.slice A1 n1 c1) (.slice C1 m1 d1))=nodC (nodAt ns i) (.slice A1 n1 c1) (.slice C1 m1 d1):=by simp [splice,nodC]
   rw [e9] at hr9
   have HR9:=hide hr9
   have HG9:=hide hg9
   clear hr9 hg9 e9
   (try simp only [Act.put])
   go_wp2_with fail
   have hk:Kept (Under B) w' w9:=fun b hb=>HG9.out.block b (by unfold Under at hb;omega) (fun e=>by have:=Option.some.inj e;unfold Under at hb;omega)
   exact bodyPost_ret (res_cell Tryz.results52 rfl nod_agg nod_size HR9.out rfl) rfl ⟨A1,n1,c1,C1,m1,d1,rfl,e2,E3.out.mono hk (fun _ h=>h),e4,E5.out.mono hk (fun _ h=>h),HBX.out.grown HG9.out (by omega) (pu4 (by omega))⟩
theorem NLower_e {g:GeoQ} {AU AL:Option Addr} {nU cU nL cL:Nat} {ls:List (List NodV)} {la i:Int} {B:Nat} {x:NodV} (hx:lowAt ls la i=x) (w:World) (h:RdE layEn w (Under B) AL nL ls) (hB:B≤w.heap.size) (hm:ls.length≤100) (hm2:∀ns∈ls,ns.length≤1000) :
  Calls Tryz.prog 93 #[.agg (stkC g (.slice AU nU cU) (.slice AL nL cL)).toArray,.agg #[.int .i64 la,.int .i64 i]] w (NodRet w B x):=by rw [←hx];exact NLower_any w h hB hm hm2
theorem RLower_e {g:GeoQ} {AU AL:Option Addr} {nU cU nL cL:Nat} {ls:List (List NodV)} {la i:Int} {B:Nat} {x:NodV} (hx:lowAt ls la i=x) (w:World) (h:RdE layEn w (Under B) AL nL ls) (hB:B≤w.heap.size) (hm:ls.length≤100) (hm2:∀ns∈ls,ns.length≤1000) :
  Calls Tryz.prog 52 #[.agg (stkC g (.slice AU nU cU) (.slice AL nL cL)).toArray,.agg #[.int .i64 la,.int .i64 i]] w (NodRet w B x):=by rw [←hx];exact RLower_any w h hB hm hm2
end Go.Proofs.YtpndfahgflgocaaGreatDoor

