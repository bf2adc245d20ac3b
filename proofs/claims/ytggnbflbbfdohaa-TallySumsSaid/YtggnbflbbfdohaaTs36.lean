import Derived.Test.YtggnbflbbfdohaaTs25
import Derived.Test.YtggnbflbbfdohaaTs35
import Derived.Test.YtggnbflbbfdohaaTs30
import Derived.Test.YtggnbflbbfdohaaTs32

namespace Go.Proofs.Ytggnbflbbfdohaa
open Go.RowKit Go.Shelf Plain

theorem lit_trees (W:World):(Instr.buildSlice 60 3 #[(0,.int .i64 1),(1,.int .i64 3),(2,.int .i64 2)]).run Try.prog W=.ok (.slice (some ⟨W.heap.size,0,none⟩) 3 3) (W.alloc (.cells #[.int .i64 1,.int .i64 3,.int .i64 2] 3)):=by
 obtain ⟨it,hi,hz,hsz,-⟩:=info_parts (show (Try.prog.info? 3).map (fun i=>(i.zero,i.size,i.bytes))=some (some (.int .i64 0),1,8) from by kernel_rfl)
 refine run_buildSlice W _ 3 3 _ _ it (.int .i64 0) Try.underlying60 hi hz (by omega) (by omega) ?_
 rw [hsz]
 have:=Great.fill_whole (s:=1) (by omega) [.int .i64 1,.int .i64 3,.int .i64 2] ((Array.range (3*1)).map ((Value.int .i64 0).cells[· % (Value.int .i64 0).cells.size]!)) (by intro v hv;simp only [List.mem_cons,List.not_mem_nil,or_false] at hv;rcases hv with rfl|rfl|rfl <;> simp [Value.cells]) (by simp)
 simpa [Value.cells] using this
theorem trees_row {w:World} {g:Nat} (h:RowL w g 3 [.int .i64 1,.int .i64 3,.int .i64 2]):RdE Enc.int w (Under w.heap.size) (some ⟨g,0,none⟩) 3 [1,3,2]:=by
 refine ⟨rfl,fun _=>⟨g,0,rfl,h.lt,fun i x hx=>⟨[.int .i64 x],rfl,fun j v hv=>?_⟩⟩⟩
 have hj:j=0:=by have:=(List.getElem?_eq_some_iff.1 hv).1;simpa using this
 subst hj
 obtain rfl:Value.int .i64 x=v:=by simpa using hv
 have hc:=h.cell i
 show w.cell? ⟨g,0+(i*1+0),none⟩=_
 rw [show 0+(i*1+0)=i by omega,hc]
 have hi:i < 3:=(List.getElem?_eq_some_iff.1 hx).1
 rcases i with _|_|_|i
 ·obtain rfl:1=x:=by simpa using hx
  rfl
 ·obtain rfl:3=x:=by simpa using hx
  rfl
 ·obtain rfl:2=x:=by simpa using hx
  rfl
 ·omega
set_option maxRecDepth 100000 in
theorem trees_any (w:World):Calls Try.prog 22 #[] w (fun e w'=>e=.returned (.slice (some ⟨w.heap.size,0,none⟩) 3 3)∧RowL w' w.heap.size 3 [.int .i64 1,.int .i64 3,.int .i64 2]∧Below w.heap.size w w'):=by
 have hlit:=lit_trees w
 go_enter Try.func22,Try.ntmps22
 go_wp2_with fail
 go_ret
 exact ⟨rfl,RowL.new w 3 [.int .i64 1,.int .i64 3,.int .i64 2],below_new (below_self w) _⟩
def waysT (ns:List NodV):List WayV:=(walkW ns [1,3,2]).1
theorem TReach_any {A F:Option Addr} {n c k d:Nat} {ns:List NodV} {rs:List Bool} (hr:reachL ns (waysT ns)=rs) (w:World) (h:RdE nodEn w (Under w.heap.size) A n ns) (hf:RdE Enc.int w (Under w.heap.size) F k [1,3,2]) (hM:Many ns):Calls Try.prog 30 #[.agg #[.slice A n c],.slice F k d] w (ReachO w rs):=by
 refine (Reach_any w h hf hM (by have:=hf.1;simp at this;omega)).mono ?_
 unfold waysT at hr
 rw [hr]
 rintro e w' ⟨A,n,c,rfl,-,hd,hb,hlo⟩
 exact ⟨A,n,c,w.heap.size,w'.heap.size,rfl,Nat.le_refl _,⟨⟨hd.1,fun hn=>by obtain ⟨b,o,e,h1,hc⟩:=hd.2 hn;exact ⟨b,o,e,hlo b o e,h1,hc⟩⟩,Nat.le_refl _⟩,hb⟩
set_option maxRecDepth 100000 in
set_option maxHeartbeats 1600000 in
theorem Cred_any {AU:Option Addr} {nU cU B:Nat} {ns:List NodV} {d:Int} {e:EntV} {v:Int} (hv:credT ns d e=v) (w:World) (hu:RdE nodEn w (Under B) AU nU ns) (hB:B≤w.heap.size) (hM:ns.length≤100000):Calls Try.prog 24 #[.agg #[.slice AU nU cU],.int .i64 d,.agg (cellsE e).toArray] w (fun x w'=>x=.returned (.int .i64 v)∧Below w.heap.size w w'):=by
 obtain ⟨W1,hW1⟩:∃W1,((w.alloc (.cells ([.slice AU nU cU]:List Value).toArray 24)).alloc (.cells (cellsE e).toArray 40))=W1:=⟨_,rfl⟩
 obtain ⟨r0,r1,hb1,hs1⟩:=rowA2 w _ _ _ _ hW1
 have hW1':((w.alloc (.cells #[.slice AU nU cU] 24)).alloc (.cells #[.int .i64 e.slot,.int .i64 e.ino,.string ⟨e.name.toArray⟩] 40))=W1:=hW1
 have R3:=hide r0
 have R5:=hide r1
 have HB:=hide hb1
 have hsz0:=hb1.size
 have HU:=hide (hu.under hb1 hB)
 have HML:=hide hM
 have q5_1:W1.cell? ⟨w.heap.size+1,1,none⟩=some (.int .i64 e.ino):=R5.out.cell 1
 unfold cellsE
 clear r0 r1 hb1 hW1 hu hM
 by_cases hk:(nodAt ns e.ino).k=1
 ·have hvd:v=d:=by rw [←hv];unfold credT isDir;simp [hk]
  subst hvd
  clear hv
  go_enter Try.func24,Try.ntmps24
  go_wp2_with (first|(refine wpList_loadW rfl 24 (.tmp 3) rfl 1 brn_agg brn_size (w.heap.size) 24 rfl [.slice AU nU cU] R3.out rfl ?_)|(go_at_call 31;refine (Of_any W1 HU.out (by omega) HML.out).mono ?_;rintro e1 wN ⟨A8,n8,c8,C8,m8,d8,rfl,-,-,-,-,hbel⟩;clear q5_1;replace HB:=hide (HB.out.trans (hbel.mono HB.out.size));replace R3:=hide (R3.out.on hbel);replace R5:=hide (R5.out.on hbel);replace HU:=hide (HU.out.under hbel (by omega));have hsz2:=hbel.size;have q5_1:wN.cell? ⟨w.heap.size+1,1,none⟩=some (.int .i64 e.ino):=R5.out.cell 1;have hf0:=nod_f0 (nodAt ns e.ino) (.slice A8 n8 c8) (.slice C8 m8 d8);clear hbel))
  go_ret
  exact ⟨rfl,HB.out⟩
 ·have hvd:v=e.ino:=by rw [←hv];unfold credT isDir;simp [hk]
  subst hvd
  clear hv
  go_enter Try.func24,Try.ntmps24
  go_wp2_with (first|(refine wpList_loadW rfl 24 (.tmp 3) rfl 1 brn_agg brn_size (w.heap.size) 24 rfl [.slice AU nU cU] R3.out rfl ?_)|(go_at_call 31;refine (Of_any W1 HU.out (by omega) HML.out).mono ?_;rintro e1 wN ⟨A8,n8,c8,C8,m8,d8,rfl,-,-,-,-,hbel⟩;clear q5_1;replace HB:=hide (HB.out.trans (hbel.mono HB.out.size));replace R3:=hide (R3.out.on hbel);replace R5:=hide (R5.out.on hbel);replace HU:=hide (HU.out.under hbel (by omega));have hsz2:=hbel.size;have q5_1:wN.cell? ⟨w.heap.size+1,1,none⟩=some (.int .i64 e.ino):=R5.out.cell 1;have hf0:=nod_f0 (nodAt ns e.ino) (.slice A8 n8 c8) (.slice C8 m8 d8);clear hbel))
  go_ret
  exact ⟨rfl,HB.out⟩
set_option maxRecDepth 100000 in
theorem cx_info:(Try.prog.info? 54).map (fun i=>(i.zero,i.size,i.bytes))=some (some (.complex .f64 0 0),1,16):=by kernel_rfl
set_option maxRecDepth 100000 in
theorem cx_size:∀w,(Go.sizeOf 54).run Try.prog w=.ok 1 w:=fun w=>by kernel_rfl
theorem cT_zero:cT (0,0)=.complex .f64 0 0:=by unfold cT;rw [F_zero]
def CntRet (w:World) (n:Nat) (cs:List (Nat×Nat)) (e:Ending) (w':World):Prop:=∃g,e=.returned (.slice (some ⟨g,0,none⟩) n n)∧w.heap.size≤g∧RowL w' g 54 (cs.map cT)∧Below w.heap.size w w'
set_option maxRecDepth 100000 in
set_option maxHeartbeats 8000000 in
theorem Said_any {AU:Option Addr} {nU cU B:Nat} {ns:List NodV} {rs:List Bool} (hrs:reachL ns (waysT ns)=rs) (w:World) (hu:RdE nodEn w (Under B) AU nU ns) (hB:B≤w.heap.size) (hM:Many ns):Calls Try.prog 21 #[.agg #[.slice AU nU cU]] w (CntRet w nU (sayT ns rs ns.length)):=by
 obtain ⟨W1,hW1⟩:∃W1,(w.alloc (.cells ([.slice AU nU cU]:List Value).toArray 24))=W1:=⟨_,rfl⟩
 obtain ⟨r0,hb1,hs1⟩:=rowA1 w _ _ hW1
 have hW1':(w.alloc (.cells #[.slice AU nU cU] 24))=W1:=hW1
 have R1:=hide r0
 have HB:=hide hb1
 have hsz0:=hb1.size
 have HU:=hide (hu.under hb1 hB)
 have HMM:=hide hM
 have hm24:=hM.1
 have HRS:=hide hrs
 have hrl:rs.length=ns.length:=by rw [←hrs,reachL_len]
 have hnU:ns.length=nU:=hu.1
 subst hnU
 have q1_0:W1.cell? ⟨w.heap.size,0,none⟩=some (.slice AU ns.length cU):=R1.out.cell 0
 clear r0 hb1 hW1 hu hM hrs
 go_enter Try.func21,Try.ntmps21
 go_wp2_with fail
 go_step3
 go_wp2_with (refine wpList_make_Row' _ rfl _ _ 51 rfl 54 Try.underlying51 (.complex .f64 0 0) rfl 16 cx_info .i64 .i64 _ _ ns.length rfl rfl rfl rfl (by omega) (by omega) ?_;intro w1 hr9 hb9;have HR9:=hide hr9;have HB9:=hide (HB.out.trans (hb9.mono HB.out.size));have R1q:=hide (R1.out.on hb9);have HUq:=hide (HU.out.under hb9 (by omega));have hz1:=hb9.size;have hgl:=hr9.lt;clear q1_0 hr9 hb9)
 go_step3
 go_wp2_with fail
 refine wp_region_planN (fun w'=>Below w1.heap.size w1 w') [(0,true),(4,true),(1,false),(2,false),(3,true)] (by kernel_rfl) (by kernel_rfl) (by kernel_rfl) (by kernel_rfl) rfl (fun _ _ _ _ _ h=>h) (below_drew (below_self w1)) (fun hHeld=>?_)
 simp only [planOps,List.filterMap_cons,List.filterMap_nil,List.getElem?_toArray,List.getElem?_cons_succ,List.getElem?_cons_zero,Option.map_some]
 refine wpPlan_take (v:=?_) (by kernel_rfl) (fun wS hSw=>?_) ?_
 rotate_left
 ·refine execOp_load (x:=.tmp 1) (k:=1) (g:=w.heap.size) (off:=0) (cs:=[.slice AU ns.length cU]) ?_ brn_agg brn_size ?_ (fun j v hv=>by rw [Nat.zero_add];exact ((R1q.out.on hSw).cell j).trans hv) rfl <;> rfl
 (try simp only [Act.put,pu1,pu2,pu3])
 refine wpPlan_take (v:=?_) (by kernel_rfl) (fun wS hSw=>?_) ?_
 rotate_left
 ·(try dsimp only at hSw);go_simp;(try with_reducible rfl)
 (try simp only [Act.put,pu1,pu2,pu3])
 refine wpPlan_call (by kernel_rfl) (fun K hK=>?_)
 have hOld:=hide hHeld
 clear hHeld
 go_simp
 go_at_call 22
 refine (trees_any _).mono ?_
 rintro e w' ⟨rfl,hrt,hbel⟩
 have HRT:=hide hrt
 have hz4:=hOld.out.size
 clear hrt
 refine hK.out _ _ (hOld.out.trans (hbel.mono hOld.out.size)) (fun hHeld=>?_)
 clear hK K
 (try simp only [Act.put,pu1,pu2,pu3])
 refine wpPlan_call (by kernel_rfl) (fun K hK=>?_)
 have hOld:=hide hHeld
 clear hHeld
 go_simp
 go_at_call 30
 refine (TReach_any HRS.out _ (und_up (HUq.out.under hOld.out (by omega)) (by have:=hOld.out.size;omega)) (trees_row HRT.out) HMM.out).mono ?_
 rintro e w' ⟨AR,nR,cR,lo,hi,rfl,hlo,hr5,hbel⟩
 have HRC:=hide hr5
 have hz5:=hOld.out.size
 clear hr5
 refine hK.out _ _ (hOld.out.trans (hbel.mono hOld.out.size)) (fun hHeld=>?_)
 clear hK K
 (try simp only [Act.put,pu1,pu2,pu3])
 refine wpPlan_take (v:=?_) (by kernel_rfl) (fun wS hSw=>?_) ?_
 rotate_left
 ·(try dsimp only at hSw);go_simp;(try with_reducible rfl)
 (try simp only [Act.put,pu1,pu2,pu3])
 refine wpPlan_end ?_
 rename World=>wT
 have hszT:=hHeld.size
 have hlo':w1.heap.size≤lo:=by have:=hz5;omega
 have hnR:rs.length=nR:=HRC.out.1.1
 have hnR2:nR=ns.length:=by omega
 subst hnR2
 have HRT2:=HRC
 have HBT:=hide (HB9.out.trans (hHeld.mono (by omega)))
 have R1T:=hide (R1q.out.on hHeld)
 have HUT:=hide (HUq.out.under hHeld (by omega))
 have R9T:=hide (HR9.out.on hHeld)
 clear HRT hHeld HB HU R1 HB9 R1q HUq HR9 HRC
 rw [hs1] at R9T hgl
 obtain ⟨gC,hgC⟩:∃gC,w.heap.size+1=gC:=⟨_,rfl⟩
 rw [hgC] at R9T hgl ⊢
 have hgw:w.heap.size+1≤gC:=by omega
 clear hgC
 go_wp2_with fail
 go_loopw [15] (fun v15 wr=>∃j:Nat,j≤ns.length∧v15=.int .i64 j∧RowL wr gC 54 ((sayT ns rs j).map cT)∧wT.grownBy wr (some gC)) (fun v15 _=>ns.length - (intOf v15).toNat)
 case atStart=>exact ⟨0,by omega,rfl,by rw [sayT_zero,List.map_replicate,cT_zero];exact R9T.out,World.grownBy.refl _ _⟩
 case round =>
  obtain ⟨j,hj,rfl,hrc,hg⟩:=hrel
  have hgs:=hg.size
  have RC:=hide hrc
  have HG:=hide hg
  have R1:=hide (R1T.out.grown hg (by intro e;have:=Option.some.inj e;omega))
  have HU:=hide (und_grown HUT.out hg (by omega) (by omega))
  have HRC:=hide (rch_grown HRT2.out hg (.inl (by omega)))
  by_cases hlt:j < ns.length
  ·obtain ⟨x,hx⟩:∃x,ns[j]?=some x:=⟨_,List.getElem?_eq_getElem hlt⟩
   obtain ⟨r,hr⟩:∃r,rs[j]?=some r:=⟨_,List.getElem?_eq_getElem (by omega)⟩
   have HST:=hide (sayT_succ hx hr)
   obtain ⟨bU,oU,A0,n0,k0,C0,m0,d0,hAU,hbU,hcx⟩:=nod_cells HU.out hx
   subst hAU
   have HCX:=hide hcx
   obtain ⟨bR,oR,hAR⟩:=rd_some (rch_rd HRC.out) (by omega)
   subst hAR
   have qb:=rd_cell (rch_rd HRC.out) hr
   have hjn:(j:Int) < (ns.length:Int):=by omega
   obtain ⟨z,hz⟩:∃z,(sayT ns rs j)[j]?=some z:=⟨_,List.getElem?_eq_getElem (by rw [sayT_len];exact hlt)⟩
   have hq:wr.cell? ⟨gC,j,none⟩=some (cT z):=by rw [hrc.cell,List.getElem?_map,hz];rfl
   have q1_0:wr.cell? ⟨w.heap.size,0,none⟩=some (.slice (some ⟨bU,oU,none⟩) ns.length cU):=R1.out.cell 0
   have hgl2:=hrc.lt
   clear hrc hg hx hr hcx hz
   cases r with
   | false =>
    go_wp2_with (first|(refine wpList_loadX rfl 38 (.tmp 23) rfl 13 nod_agg nod_size bU (oU+j*13) rfl (nodC x (.slice A0 n0 k0) (.slice C0 m0 d0)) HCX.out rfl ?_)|(refine wpList_storeW rfl 38 (.tmp 6) (.tmp 24) rfl 13 nod_size (wr.heap.size) 38 rfl (nodC nod0 (.slice none 0 0) (.slice none 0 0)) (nodC x (.slice A0 n0 k0) (.slice C0 m0 d0)) rfl (RowL.new wr 38 (nodC nod0 (.slice none 0 0) (.slice none 0 0))) rfl rfl (nodC_one _ _ _ _ _ _ _) ?_;intro wS121 hr121 hg121 hs121;have hzb:=below_stored' hg121;clear q1_0;replace HG:=hide (HG.out.trans ((grown_below hzb).but (some gC)));replace R1:=hide (R1.out.on hzb);replace RC:=hide (RC.out.on hzb);replace HU:=hide (HU.out.under hzb (by omega));replace HRC:=hide (rch_on HRC.out hzb);have hsz122:=hzb.size;have q1_0:wS121.cell? ⟨w.heap.size,0,none⟩=some (.slice (some ⟨bU,oU,none⟩) ns.length cU):=R1.out.cell 0;have R6:=hide hr121;have hlt121:=hr121.lt;have q6_0:wS121.cell? ⟨wr.heap.size,0,none⟩=some (.int .i64 x.k):=R6.out.cell 0;have q6_2:wS121.cell? ⟨wr.heap.size,2,none⟩=some (.int .i64 x.n):=R6.out.cell 2;clear hzb hr121;clear hg121 hs121))
    go_roundw
    case rel=>exact ⟨j+1,by omega,by go_num,by rw [HST.out,if_neg (by simp)];exact RC.out,HG.out⟩
    case measure=>simp [intOf];omega
   | true =>
    by_cases hk:x.k=0
    ·go_wp2_with (first|(refine wpList_loadX rfl 38 (.tmp 23) rfl 13 nod_agg nod_size bU (oU+j*13) rfl (nodC x (.slice A0 n0 k0) (.slice C0 m0 d0)) HCX.out rfl ?_)|(refine wpList_storeW rfl 38 (.tmp 6) (.tmp 24) rfl 13 nod_size (wr.heap.size) 38 rfl (nodC nod0 (.slice none 0 0) (.slice none 0 0)) (nodC x (.slice A0 n0 k0) (.slice C0 m0 d0)) rfl (RowL.new wr 38 (nodC nod0 (.slice none 0 0) (.slice none 0 0))) rfl rfl (nodC_one _ _ _ _ _ _ _) ?_;intro wS121 hr121 hg121 hs121;have hzb:=below_stored' hg121;clear q1_0;replace HG:=hide (HG.out.trans ((grown_below hzb).but (some gC)));replace R1:=hide (R1.out.on hzb);replace RC:=hide (RC.out.on hzb);replace HU:=hide (HU.out.under hzb (by omega));replace HRC:=hide (rch_on HRC.out hzb);have hsz122:=hzb.size;have q1_0:wS121.cell? ⟨w.heap.size,0,none⟩=some (.slice (some ⟨bU,oU,none⟩) ns.length cU):=R1.out.cell 0;have R6:=hide hr121;have hlt121:=hr121.lt;have q6_0:wS121.cell? ⟨wr.heap.size,0,none⟩=some (.int .i64 x.k):=R6.out.cell 0;have q6_2:wS121.cell? ⟨wr.heap.size,2,none⟩=some (.int .i64 x.n):=R6.out.cell 2;clear hzb hr121;clear hg121 hs121))
     go_roundw
     case rel=>exact ⟨j+1,by omega,by go_num,by rw [HST.out,if_neg (by simp [hk])];exact RC.out,HG.out⟩
     case measure=>simp [intOf];omega
    ·go_wp2_with (first|(refine wpList_loadX rfl 38 (.tmp 23) rfl 13 nod_agg nod_size bU (oU+j*13) rfl (nodC x (.slice A0 n0 k0) (.slice C0 m0 d0)) HCX.out rfl ?_)|(refine wpList_storeW rfl 38 (.tmp 6) (.tmp 24) rfl 13 nod_size (wr.heap.size) 38 rfl (nodC nod0 (.slice none 0 0) (.slice none 0 0)) (nodC x (.slice A0 n0 k0) (.slice C0 m0 d0)) rfl (RowL.new wr 38 (nodC nod0 (.slice none 0 0) (.slice none 0 0))) rfl rfl (nodC_one _ _ _ _ _ _ _) ?_;intro wS121 hr121 hg121 hs121;have hzb:=below_stored' hg121;clear q1_0;replace HG:=hide (HG.out.trans ((grown_below hzb).but (some gC)));replace R1:=hide (R1.out.on hzb);replace RC:=hide (RC.out.on hzb);replace HU:=hide (HU.out.under hzb (by omega));replace HRC:=hide (rch_on HRC.out hzb);have hsz122:=hzb.size;have q1_0:wS121.cell? ⟨w.heap.size,0,none⟩=some (.slice (some ⟨bU,oU,none⟩) ns.length cU):=R1.out.cell 0;have R6:=hide hr121;have hlt121:=hr121.lt;have q6_0:wS121.cell? ⟨wr.heap.size,0,none⟩=some (.int .i64 x.k):=R6.out.cell 0;have q6_2:wS121.cell? ⟨wr.heap.size,2,none⟩=some (.int .i64 x.n):=R6.out.cell 2;clear hzb hr121;clear hg121 hs121)|(refine wpList_storeV rfl 54 (.tmp 38) (.tmp 37) rfl cx_size gC j 54 rfl (.complex .f64 0 (floatOfInt .f64 x.n)) rfl rfl rfl ((sayT ns rs j).map cT) RC.out (by rw [List.length_map,sayT_len];exact hlt) ?_;intro wE hrE hgE hsE;have RE:=hide hrE;have HGE:=hide (HG.out.trans hgE);clear hrE hgE hsE))
     go_roundw
     case rel =>
      refine ⟨j+1,by omega,by go_num,?_,HGE.out⟩
      rw [HST.out,if_pos ⟨rfl,hk⟩,List.map_set]
      have h2:cT (0,fI x.n)=.complex .f64 0 (fI x.n):=by unfold cT;rw [F_zero]
      rw [h2]
      exact RE.out
     case measure=>simp [intOf];omega
  ·obtain rfl:j=ns.length:=by omega
   go_wp2_with fail
   go_ret
   exact ⟨gC,rfl,by omega,hrc,HBT.out.grown hg (by omega) (pu4 (by omega))⟩
end Go.Proofs.Ytggnbflbbfdohaa

