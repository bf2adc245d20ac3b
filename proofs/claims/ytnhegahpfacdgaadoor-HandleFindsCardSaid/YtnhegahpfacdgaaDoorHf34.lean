import Derived.Test.YtnhegahpfacdgaaDoorHf21

namespace Go.Proofs.YtnhegahpfacdgaaDoor
open Go.RowKit Go.Shelf Plain

set_option maxRecDepth 100000 in
set_option maxHeartbeats 1600000 in
theorem neq_entw (a:Int×Int×List UInt8) (W:World):(binOp .neq 76 (.agg #[.int .i64 a.1,.int .i64 a.2.1,.string ⟨a.2.2.toArray⟩]) (.agg #[.int .i64 a.1,.int .i64 a.2.1,.string ⟨a.2.2.toArray⟩])).run Tryd.prog W=.ok (.bool false) W:=by
 simp [go_sem]
set_option maxRecDepth 100000 in
set_option maxHeartbeats 1600000 in
theorem eq_attw (a:AttV) (W:World):(binOp .eql 42 (.agg #[.int .i64 a.h,.int .i64 a.o,.string ⟨a.r.toArray⟩,.int .i64 a.l,.int .i64 a.i,.int .i64 a.g,.int .i64 a.s]) (.agg #[.int .i64 a.h,.int .i64 a.o,.string ⟨a.r.toArray⟩,.int .i64 a.l,.int .i64 a.i,.int .i64 a.g,.int .i64 a.s])).run Tryd.prog W=.ok (.bool true) W:=by
 simp [go_sem]
theorem ent_cs {w:World} {D:Nat→Prop} {cs:List Value} {x:EntV} (h:entEn.R w D cs x):cs=cellsE x:=by
 obtain ⟨a,b,rfl,h1,c,d,rfl,h2,h3⟩:=h
 rw [show a=[.int .i64 x.slot] from h1,show c=[.int .i64 x.ino] from h2,show d=[.string ⟨x.name.toArray⟩] from h3]
 rfl
set_option maxRecDepth 100000 in
set_option maxHeartbeats 1600000 in
theorem SamE_same {A B:Option Addr} {n m c d:Nat} {L:List EntV} {D D':Nat→Prop} (w:World) (ha:RdE entEn w D A n L) (hb:RdE entEn w D' B m L) (hn:n≤140737488355328) :
  Calls Tryd.prog 31 #[.slice A n c,.slice B m d] w (BoolB w true):=by
 obtain rfl:n=m:=by rw [←ha.1,←hb.1]
 have HA:=hide ha
 have HB:=hide hb
 clear ha hb
 have hd:((n:Int) != (n:Int))=false:=by simp
 go_enter Tryd.func31,Tryd.ntmps31
 go_wp2
 go_loopw [5] (fun i wr=>∃j q:Nat,j≤n∧i=.int .i64 j∧wr=w.drewN q) (fun i _=>n - (intOf i).toNat)
 case atStart=>exact ⟨0,0,by omega,rfl,rfl⟩
 case round =>
  obtain ⟨j,q,hj,rfl,rfl⟩:=hrel
  by_cases hlt:j < n
  ·have hl1:j < L.length:=by rw [HA.out.1];exact hlt
   obtain ⟨b1,o1,rfl,hc1⟩:=HA.out.cellsR (by omega)
   obtain ⟨b2,o2,rfl,hc2⟩:=HB.out.cellsR (by omega)
   obtain ⟨cs1,hcs1,hc1⟩:=hc1 j _ (List.getElem?_eq_getElem hl1)
   obtain ⟨cs2,hcs2,hc2⟩:=hc2 j _ (List.getElem?_eq_getElem hl1)
   obtain rfl:cs1=cellsE L[j]:=ent_cs hcs1
   obtain rfl:cs2=cellsE L[j]:=ent_cs hcs2
   generalize L[j]=y at hc1 hc2
   obtain ⟨ys,yi,yn⟩:=y
   have hL1:∀q,(Instr.loadAt 76 (.pointer (some ⟨b1,o1+j*3,none⟩))).run Tryd.prog (w.drewN q)=.ok (.agg #[.int .i64 ys,.int .i64 yi,.string ⟨yn.toArray⟩]) (w.drewN q):=fun q=>run_loadAt_cells (w:=w.drewN q) entw_agg entw_size hc1 rfl
   have hL2:∀q,(Instr.loadAt 76 (.pointer (some ⟨b2,o2+j*3,none⟩))).run Tryd.prog (w.drewN q)=.ok (.agg #[.int .i64 ys,.int .i64 yi,.string ⟨yn.toArray⟩]) (w.drewN q):=fun q=>run_loadAt_cells (w:=w.drewN q) entw_agg entw_size hc2 rfl
   have hne:=fun W=>neq_entw (ys,yi,yn) W
   clear hc1 hc2 hl1 hcs1 hcs2
   go_wp2
   refine wp_region_quiet_lit (by kernel_rfl) (by kernel_rfl) ?_
   iterate 3 (quiet_step (fail))
   refine Go.BigFrame.wpQuiet_want rfl (fun K hK=>?_)
   refine quietL 76 (.tmp 19) rfl _ _ rfl (by rintro _ ⟨n',rfl⟩;rw [World.drewN_drewN];exact hL1 _) (hK _ ?_)
   clear hK K
   iterate 3 (quiet_step (fail))
   refine Go.BigFrame.wpQuiet_want rfl (fun K hK=>?_)
   refine quietL 76 (.tmp 23) rfl _ _ rfl (by rintro _ ⟨n',rfl⟩;rw [World.drewN_drewN];exact hL2 _) (hK _ ?_)
   clear hK K
   iterate 1 (quiet_step (fail))
   refine wpQuiet_nil ?_
   rintro _ ⟨nq,rfl⟩
   go_wp2
   go_roundw
   case rel=>exact ⟨j+1,_,by omega,by go_num,rfl⟩
   case measure=>simp [intOf];omega
  ·obtain rfl:j=n:=by omega
   go_wp2
   go_ret
   exact BoolB.of (below_drewN (below_self w) _)
set_option maxRecDepth 100000 in
set_option maxHeartbeats 1600000 in
theorem SamB_same {A B:Option Addr} {n m c d:Nat} {L:List UInt8} {D D':Nat→Prop} (w:World) (ha:RdE Enc.byte w D A n L) (hb:RdE Enc.byte w D' B m L) (hn:n≤140737488355328) :
  Calls Tryd.prog 30 #[.slice A n c,.slice B m d] w (BoolB w true):=by
 obtain rfl:n=m:=by rw [←ha.1,←hb.1]
 have HA:=hide ha
 have HB:=hide hb
 clear ha hb
 have hd:((n:Int) != (n:Int))=false:=by simp
 go_enter Tryd.func30,Tryd.ntmps30
 go_wp2
 go_loopw [5] (fun i wr=>∃j q:Nat,j≤n∧i=.int .i64 j∧wr=w.drewN q) (fun i _=>n - (intOf i).toNat)
 case atStart=>exact ⟨0,0,by omega,rfl,rfl⟩
 case round =>
  obtain ⟨j,q,hj,rfl,rfl⟩:=hrel
  by_cases hlt:j < n
  ·have hl1:j < L.length:=by rw [HA.out.1];exact hlt
   obtain ⟨b1,o1,rfl,hc1⟩:=HA.out.cellsR (by omega)
   obtain ⟨b2,o2,rfl,hc2⟩:=HB.out.cellsR (by omega)
   obtain ⟨cs1,hcs1,hc1⟩:=hc1 j _ (List.getElem?_eq_getElem hl1)
   obtain ⟨cs2,hcs2,hc2⟩:=hc2 j _ (List.getElem?_eq_getElem hl1)
   obtain rfl:cs1=[bv L[j]]:=hcs1
   obtain rfl:cs2=[bv L[j]]:=hcs2
   generalize L[j]=y at hc1 hc2
   have q1:w.cell? ⟨b1,o1+j,none⟩=some (bv y):=by have:=hc1 0 _ rfl;rwa [show o1+j*Enc.byte.k+0=o1+j from by show o1+j*1+0=o1+j;omega] at this
   have q2:w.cell? ⟨b2,o2+j,none⟩=some (bv y):=by have:=hc2 0 _ rfl;rwa [show o2+j*Enc.byte.k+0=o2+j from by show o2+j*1+0=o2+j;omega] at this
   unfold bv at q1 q2
   have hjn:(j:Int) < (n:Int):=by omega
   clear hc1 hc2 hl1
   go_wp2
   go_quiet (fail)
   go_wp2
   go_roundw
   case rel=>exact ⟨j+1,_,by omega,by go_num,rfl⟩
   case measure=>simp [intOf];omega
  ·obtain rfl:j=n:=by omega
   go_wp2
   go_ret
   exact BoolB.of (below_drewN (below_self w) _)
set_option maxRecDepth 100000 in
set_option maxHeartbeats 8000000 in
theorem SamN_same {D C D' C':Option Addr} {n c m d n' c' m' d':Nat} {x:NodV} (w:World) (hD:RdE Enc.byte w (Under w.heap.size) D n x.data) (hC:RdE entEn w (Under w.heap.size) C m x.ents) (hD':RdE Enc.byte w (Under w.heap.size) D' n' x.data) (hC':RdE entEn w (Under w.heap.size) C' m' x.ents) (hn:n≤1000) (hm:m≤1000) :
  Calls Tryd.prog 13 #[.agg (nodC x (.slice D n c) (.slice C m d)).toArray,.agg (nodC x (.slice D' n' c') (.slice C' m' d')).toArray] w (BoolB w true):=by
 obtain ⟨r0,r1,hb2,hs2⟩:=rows2 w (nodC x (.slice D n c) (.slice C m d)) (nodC x (.slice D' n' c') (.slice C' m' d')) 44 44
 have HD:=hide (hD.on hb2)
 have HC:=hide (hC.on hb2)
 have HD':=hide (hD'.on hb2)
 have HC':=hide (hC'.on hb2)
 obtain ⟨W2,hW2⟩:∃W2,(w.alloc (.cells (nodC x (.slice D n c) (.slice C m d)).toArray 44)).alloc (.cells (nodC x (.slice D' n' c') (.slice C' m' d')).toArray 44)=W2:=⟨_,rfl⟩
 rw [hW2] at r0 r1 hb2 HD HC HD' HC'
 have hW2':(w.alloc (.cells #[.int .i64 x.k,.int .i64 x.p,.int .i64 x.n,.int .i64 x.g,.slice D n c,.slice C m d,.int .i64 x.att.h,.int .i64 x.att.o,.string ⟨x.att.r.toArray⟩,.int .i64 x.att.l,.int .i64 x.att.i,.int .i64 x.att.g,.int .i64 x.att.s] 44)).alloc (.cells #[.int .i64 x.k,.int .i64 x.p,.int .i64 x.n,.int .i64 x.g,.slice D' n' c',.slice C' m' d',.int .i64 x.att.h,.int .i64 x.att.o,.string ⟨x.att.r.toArray⟩,.int .i64 x.att.l,.int .i64 x.att.i,.int .i64 x.att.g,.int .i64 x.att.s] 44)=W2:=hW2
 have qa0:W2.cell? ⟨w.heap.size,0,none⟩=some (.int .i64 x.k):=r0.cell 0
 have qa1:W2.cell? ⟨w.heap.size,1,none⟩=some (.int .i64 x.p):=r0.cell 1
 have qa2:W2.cell? ⟨w.heap.size,2,none⟩=some (.int .i64 x.n):=r0.cell 2
 have qa3:W2.cell? ⟨w.heap.size,3,none⟩=some (.int .i64 x.g):=r0.cell 3
 have qa4:W2.cell? ⟨w.heap.size,4,none⟩=some (.slice D n c):=r0.cell 4
 have qa5:W2.cell? ⟨w.heap.size,5,none⟩=some (.slice C m d):=r0.cell 5
 have qa6:W2.cell? ⟨w.heap.size,6,none⟩=some (.int .i64 x.att.h):=r0.cell 6
 have qa7:W2.cell? ⟨w.heap.size,7,none⟩=some (.int .i64 x.att.o):=r0.cell 7
 have qa8:W2.cell? ⟨w.heap.size,8,none⟩=some (.string ⟨x.att.r.toArray⟩):=r0.cell 8
 have qa9:W2.cell? ⟨w.heap.size,9,none⟩=some (.int .i64 x.att.l):=r0.cell 9
 have qa10:W2.cell? ⟨w.heap.size,10,none⟩=some (.int .i64 x.att.i):=r0.cell 10
 have qa11:W2.cell? ⟨w.heap.size,11,none⟩=some (.int .i64 x.att.g):=r0.cell 11
 have qa12:W2.cell? ⟨w.heap.size,12,none⟩=some (.int .i64 x.att.s):=r0.cell 12
 have qb0:W2.cell? ⟨w.heap.size+1,0,none⟩=some (.int .i64 x.k):=r1.cell 0
 have qb1:W2.cell? ⟨w.heap.size+1,1,none⟩=some (.int .i64 x.p):=r1.cell 1
 have qb2:W2.cell? ⟨w.heap.size+1,2,none⟩=some (.int .i64 x.n):=r1.cell 2
 have qb3:W2.cell? ⟨w.heap.size+1,3,none⟩=some (.int .i64 x.g):=r1.cell 3
 have qb4:W2.cell? ⟨w.heap.size+1,4,none⟩=some (.slice D' n' c'):=r1.cell 4
 have qb5:W2.cell? ⟨w.heap.size+1,5,none⟩=some (.slice C' m' d'):=r1.cell 5
 have qb6:W2.cell? ⟨w.heap.size+1,6,none⟩=some (.int .i64 x.att.h):=r1.cell 6
 have qb7:W2.cell? ⟨w.heap.size+1,7,none⟩=some (.int .i64 x.att.o):=r1.cell 7
 have qb8:W2.cell? ⟨w.heap.size+1,8,none⟩=some (.string ⟨x.att.r.toArray⟩):=r1.cell 8
 have qb9:W2.cell? ⟨w.heap.size+1,9,none⟩=some (.int .i64 x.att.l):=r1.cell 9
 have qb10:W2.cell? ⟨w.heap.size+1,10,none⟩=some (.int .i64 x.att.i):=r1.cell 10
 have qb11:W2.cell? ⟨w.heap.size+1,11,none⟩=some (.int .i64 x.att.g):=r1.cell 11
 have qb12:W2.cell? ⟨w.heap.size+1,12,none⟩=some (.int .i64 x.att.s):=r1.cell 12
 have R0:=hide r0
 have R1:=hide r1
 have HB:=hide hb2
 have heq:=fun W=>eq_attw x.att W
 unfold nodC
 clear r0 r1 hb2 hs2 hW2 hD hC hD' hC'
 go_enter Tryd.func13,Tryd.ntmps13
 go_wp2_with fail
 refine (SamB_same (L:=x.data) W2 HD.out HD'.out (by omega)).mono ?_
 rintro e w3 ⟨rfl,hb3⟩
 have q5:w3.cell? ⟨w.heap.size,5,none⟩=some (.slice C m d):=(R0.out.on hb3).cell 5
 have q6:w3.cell? ⟨w.heap.size+1,5,none⟩=some (.slice C' m' d'):=(R1.out.on hb3).cell 5
 have HE:=hide (HC.out.on hb3)
 have HE':=hide (HC'.out.on hb3)
 have HB3:=hide (HB.out.trans (hb3.mono HB.out.size))
 clear hb3 heq hW2' qa0 qa1 qa2 qa3 qa4 qa5 qa6 qa7 qa8 qa9 qa10 qa11 qa12 qb0 qb1 qb2 qb3 qb4 qb5 qb6 qb7 qb8 qb9 qb10 qb11 qb12
 go_wp2_with fail
 refine (SamE_same (L:=x.ents) w3 HE.out HE'.out (by omega)).mono ?_
 rintro e w4 ⟨rfl,hb4⟩
 have HB4:=hide (HB3.out.trans (hb4.mono HB3.out.size))
 clear hb4 q5 q6
 go_wp2_with fail
 go_ret
 exact BoolB.of HB4.out
end Go.Proofs.YtnhegahpfacdgaaDoor

