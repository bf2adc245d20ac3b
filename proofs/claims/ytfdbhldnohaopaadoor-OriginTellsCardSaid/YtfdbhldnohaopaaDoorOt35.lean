import Derived.Test.YtfdbhldnohaopaaDoorOt30
import Derived.Test.YtfdbhldnohaopaaDoorOt34
import Derived.Test.YtfdbhldnohaopaaDoorOt33

namespace Go.Proofs.YtfdbhldnohaopaaDoor
open Go.RowKit Go.Shelf Plain

def treC (g:GeoQ) (U L R:Value):List Value:=[.int .i64 g.a,.int .i64 g.b,.int .i64 g.c,.int .i64 g.d,U,L,R]
theorem treC_one (g:GeoQ) (A B C:Option Addr) (n c m d k e:Nat):∀v∈treC g (.slice A n c) (.slice B m d) (.slice C k e),v.oneCell'=true:=by simp [treC,Value.oneCell']
set_option maxRecDepth 100000 in
theorem tre_size:∀w,(Go.sizeOf 60).run Tryd.prog w=.ok 7 w:=fun w=>by kernel_rfl
def clO : Nat → Int
 | 0=>8
 | 1=>13
 | _=>14
def ClW (w:World):Prop:=∀j,j < 3→w.cell? ⟨0,j,none⟩=some (.int .i64 (clO j))
theorem ClW.lt {w:World} (h:ClW w):0 < w.heap.size:=block_lt_of_cell (h 0 (by omega))
theorem ClW.below {w w':World} (h:ClW w) (hb:Below w.heap.size w w'):ClW w':=fun j hj=>(hb.cell (p:=⟨0,j,none⟩) h.lt).trans (h j hj)
theorem cl_is {j:Nat} (h:j < 3):clO j=8∨clO j=13∨clO j=14:=by
 obtain rfl|rfl|rfl:j=0∨j=1∨j=2:=by omega
 all_goals simp [clO]
set_option maxRecDepth 100000 in
theorem cl_index {j:Nat} (h:j < 3) (w:World):(Instr.index 61 (.agg #[.int .i64 8,.int .i64 13,.int .i64 14]) (.int .i64 (j:Int))).run Tryd.prog w=.ok (.int .i64 (clO j)) w:=by
 obtain rfl|rfl|rfl:j=0∨j=1∨j=2:=by omega
 all_goals kernel_rfl
def outF (up : List NodV) (ls : List (List NodV)) (rs : List Bool) : Nat → List FinV
 | 0=>[]
 | k+1=>outF up ls rs k++rowO up ls rs (clO k) up.length
theorem outF_all (up:List NodV) (ls:List (List NodV)) (rs:List Bool):outF up ls rs 3=findO up ls rs:=rfl
def RchR (w:World) (lo hi:Nat) (A:Option Addr) (n:Nat) (rs:List Bool):Prop:=(rs.length=n∧(0 < n→∃b o,A=some ⟨b,o,none⟩∧lo≤b∧b < hi∧∀i x,rs[i]?=some x→w.cell? ⟨b,o+i,none⟩=some (.bool x)))∧hi≤w.heap.size
theorem rch_on {w w':World} {lo hi n:Nat} {A:Option Addr} {rs:List Bool} (h:RchR w lo hi A n rs) (hb:Below w.heap.size w w'):RchR w' lo hi A n rs:=⟨⟨h.1.1,fun hn=>by
 obtain ⟨b,o,e,h1,h2,hc⟩:=h.1.2 hn
 exact ⟨b,o,e,h1,h2,fun i x hx=>(cell_same (hb.block b (Nat.lt_of_lt_of_le h2 h.2))).trans (hc i x hx)⟩⟩,Nat.le_trans h.2 hb.size⟩
theorem rch_grown {w w':World} {lo hi n g:Nat} {A:Option Addr} {rs:List Bool} (h:RchR w lo hi A n rs) (hg:w.grownBy w' (some g)) (hne:g < lo∨hi≤g):RchR w' lo hi A n rs:=⟨⟨h.1.1,fun hn=>by
 obtain ⟨b,o,e,h1,h2,hc⟩:=h.1.2 hn
 exact ⟨b,o,e,h1,h2,fun i x hx=>(cell_same (hg.block b (Nat.lt_of_lt_of_le h2 h.2) (pu5 (by omega)))).trans (hc i x hx)⟩⟩,Nat.le_trans h.2 hg.size⟩
theorem rch_rd {w:World} {lo hi n:Nat} {A:Option Addr} {rs:List Bool} (h:RchR w lo hi A n rs):Rd Value.bool w w.heap.size A n rs:=⟨h.1.1,fun hn=>by
 obtain ⟨b,o,e,h1,h2,hc⟩:=h.1.2 hn
 exact ⟨b,o,e,Nat.lt_of_lt_of_le h2 h.2,hc⟩⟩
def ReachO (w:World) (rs:List Bool) (e:Ending) (w':World):Prop:=∃A n c lo hi,e=.returned (.slice A n c)∧w.heap.size≤lo∧RchR w' lo hi A n rs∧Below w.heap.size w w'
theorem lit_one (W:World):(Instr.buildSlice 64 1 #[(0,.int .i64 1)]).run Tryd.prog W=.ok (.slice (some ⟨W.heap.size,0,none⟩) 1 1) (W.alloc (.cells #[.int .i64 1] 3)):=by
 obtain ⟨it,hi,hz,hsz,-⟩:=info_parts (show (Tryd.prog.info? 3).map (fun i=>(i.zero,i.size,i.bytes))=some (some (.int .i64 0),1,8) from by kernel_rfl)
 refine run_buildSlice W _ 3 1 _ _ it (.int .i64 0) Tryd.underlying64 hi hz (by omega) (by omega) ?_
 rw [hsz]
 have:=Great.fill_whole (s:=1) (by omega) [.int .i64 1] ((Array.range (1*1)).map ((Value.int .i64 0).cells[· % (Value.int .i64 0).cells.size]!)) (by intro v hv;rw [List.mem_singleton] at hv;subst hv;simp [Value.cells]) (by simp)
 simpa [Value.cells] using this
theorem one_row {w:World} {g:Nat} (h:RowL w g 3 [.int .i64 1]):RdE Enc.int w (Under w.heap.size) (some ⟨g,0,none⟩) 1 [1]:=by
 refine ⟨rfl,fun _=>⟨g,0,rfl,h.lt,fun i x hx=>⟨[.int .i64 x],rfl,fun j v hv=>?_⟩⟩⟩
 have hi:i=0:=by have:=(List.getElem?_eq_some_iff.1 hx).1;simpa using this
 subst hi
 obtain rfl:1=x:=by simpa using hx
 have hj:j=0:=by have:=(List.getElem?_eq_some_iff.1 hv).1;simpa using this
 subst hj
 obtain rfl:Value.int .i64 1=v:=by simpa using hv
 exact h.cell 0
theorem nod_cells {w:World} {D:Nat→Prop} {A:Option Addr} {n i:Nat} {l:List NodV} {x:NodV} (h:RdE nodEn w D A n l) (hx:l[i]?=some x):∃b o A0 n0 k0 C0 m0 d0,A=some ⟨b,o,none⟩∧D b∧∀k v,(nodC x (.slice A0 n0 k0) (.slice C0 m0 d0))[k]?=some v→w.cell? ⟨b,o+i*13+k,none⟩=some v:=by
 have hj:i < l.length:=(List.getElem?_eq_some_iff.1 hx).1
 obtain ⟨b,o,e,hD,hc⟩:=h.2 (by have:=h.1;omega)
 obtain ⟨cs,⟨A0,n0,k0,C0,m0,d0,rfl,-⟩,hcs⟩:=hc i x hx
 exact ⟨b,o,A0,n0,k0,C0,m0,d0,e,hD,fun k v hv=>by have h1:=hcs k v hv;rw [show nodEn.k=13 from rfl,←Nat.add_assoc] at h1;exact h1⟩
theorem OReach_any {A F:Option Addr} {n c k d:Nat} {ns:List NodV} {rs:List Bool} (hr:reachL ns (walkW ns [1]).1=rs) (w:World) (h:RdE nodEn w (Under w.heap.size) A n ns) (hf:RdE Enc.int w (Under w.heap.size) F k [1]) (hM:Many ns):Calls Tryd.prog 24 #[.agg #[.slice A n c],.slice F k d] w (ReachO w rs):=by
 refine (Reach_any w h hf hM (by have:=hf.1;simp at this;omega)).mono ?_
 rw [hr]
 rintro e w' ⟨A,n,c,rfl,-,hd,hb,hlo⟩
 exact ⟨A,n,c,w.heap.size,w'.heap.size,rfl,Nat.le_refl _,⟨⟨hd.1,fun hn=>by obtain ⟨b,o,e,h1,hc⟩:=hd.2 hn;exact ⟨b,o,e,hlo b o e,h1,hc⟩⟩,Nat.le_refl _⟩,hb⟩
theorem OFin_R (x:FinV):∀(w:World) (D:Nat→Prop),finEn.R w D (finC x) x:=fun _ _=>rfl
set_option maxRecDepth 100000 in
set_option maxHeartbeats 8000000 in
theorem Viol_any {g:GeoQ} {AU AL:Option Addr} {nU cU nL cL B:Nat} {up:List NodV} {ls:List (List NodV)} {x:NodV} {D C AR:Option Addr} {n c m d nR cR:Nat} {cl:Int} {b:Bool} (hb:violO ls cl x=b) (hcl:cl=8∨cl=13∨cl=14) (h0:0≤x.att.h) (h1:x.att.h≤31) (w:World) (hu:RdE nodEn w (Under B) AU nU up) (h:RdE layEn w (Under B) AL nL ls) (hB:B≤w.heap.size) (hF:FewL ls) (hup:FewU up):Calls Tryd.prog 25 #[.agg (treC g (.slice AU nU cU) (.slice AL nL cL) (.slice AR nR cR)).toArray,.int .i64 cl,.agg (nodC x (.slice D n c) (.slice C m d)).toArray] w (BoolB w b):=by
 obtain ⟨W1,hW1⟩:∃W1,((w.alloc (.cells (treC g (.slice AU nU cU) (.slice AL nL cL) (.slice AR nR cR)).toArray 60)).alloc (.cells (nodC x (.slice D n c) (.slice C m d)).toArray 37))=W1:=⟨_,rfl⟩
 obtain ⟨r0,r1,hb1,hs1⟩:=rowA2 w _ _ _ _ hW1
 have hW1':((w.alloc (.cells #[.int .i64 g.a,.int .i64 g.b,.int .i64 g.c,.int .i64 g.d,.slice AU nU cU,.slice AL nL cL,.slice AR nR cR] 60)).alloc (.cells #[.int .i64 x.k,.int .i64 x.p,.int .i64 x.n,.int .i64 x.g,.slice D n c,.slice C m d,.int .i64 x.att.h,.int .i64 x.att.o,.string ⟨x.att.r.toArray⟩,.int .i64 x.att.l,.int .i64 x.att.i,.int .i64 x.att.g,.int .i64 x.att.s] 37))=W1:=hW1
 have R3:=hide r0
 have R5:=hide r1
 have HB:=hide hb1
 have hsz0:=hb1.size
 have HU:=hide (hu.under hb1 hB)
 have HL:=hide (h.under hb1 hB)
 have HF:=hide hF
 have HFU:=hide hup
 have hh:=And.intro h0 h1
 unfold treC nodC
 clear r0 r1 hb1 hW1 hu h hF hup h0 h1
 rcases hcl with rfl|rfl|rfl
 ·have HV8:=hide (show oddO x=b from by rw [←hb];rfl)
  clear hb
  go_enter Tryd.func25,Tryd.ntmps25
  go_wp2_with (first|(refine wpList_loadW rfl 37 (.tmp 5) rfl 13 nod_agg nod_size (w.heap.size+1) 37 rfl (nodC x (.slice D n c) (.slice C m d)) R5.out rfl ?_)|(go_at_call 11;refine (Odd_any HV8.out hh.1 hh.2 W1).mono ?_;rintro e1 wO ⟨rfl,hbel⟩;replace HB:=hide (HB.out.trans (hbel.mono HB.out.size));replace R3:=hide (R3.out.on hbel);replace R5:=hide (R5.out.on hbel);replace HU:=hide (HU.out.under hbel (by omega));replace HL:=hide (HL.out.under hbel (by omega));have hsz2:=hbel.size;clear hbel)|(refine wpList_loadC rfl 29 (.tmp 14) rfl 6 stk_agg stk_size (w.heap.size) 0 60 rfl (treC g (.slice AU nU cU) (.slice AL nL cL) (.slice AR nR cR)) (stkC g (.slice AU nU cU) (.slice AL nL cL)) R3.out rfl rfl ?_)|(refine wpList_loadW rfl 37 (.tmp 5) rfl 13 nod_agg nod_size (w.heap.size+1) 37 rfl (nodC x (.slice D n c) (.slice C m d)) R5.out rfl ?_)|(refine wpList_loadC rfl 29 (.tmp 18) rfl 6 stk_agg stk_size (w.heap.size) 0 60 rfl (treC g (.slice AU nU cU) (.slice AL nL cL) (.slice AR nR cR)) (stkC g (.slice AU nU cU) (.slice AL nL cL)) R3.out rfl rfl ?_)|(refine wpList_loadW rfl 37 (.tmp 5) rfl 13 nod_agg nod_size (w.heap.size+1) 37 rfl (nodC x (.slice D n c) (.slice C m d)) R5.out rfl ?_))
  go_ret
  exact BoolB.of HB.out
 ·have HV13:=hide (show staleO ls x=b from by rw [←hb];rfl)
  clear hb
  go_enter Tryd.func25,Tryd.ntmps25
  go_wp2_with (first|(refine wpList_loadW rfl 37 (.tmp 5) rfl 13 nod_agg nod_size (w.heap.size+1) 37 rfl (nodC x (.slice D n c) (.slice C m d)) R5.out rfl ?_)|(refine wpList_loadC rfl 29 (.tmp 14) rfl 6 stk_agg stk_size (w.heap.size) 0 60 rfl (treC g (.slice AU nU cU) (.slice AL nL cL) (.slice AR nR cR)) (stkC g (.slice AU nU cU) (.slice AL nL cL)) R3.out rfl rfl ?_)|(refine wpList_loadW rfl 37 (.tmp 5) rfl 13 nod_agg nod_size (w.heap.size+1) 37 rfl (nodC x (.slice D n c) (.slice C m d)) R5.out rfl ?_)|(go_at_call 13;refine (Stale_any HV13.out hh.1 hh.2 W1 HU.out HL.out (by omega) HF.out HFU.out).mono ?_;rintro e1 wO ⟨rfl,hbel⟩;replace HB:=hide (HB.out.trans (hbel.mono HB.out.size));replace R3:=hide (R3.out.on hbel);replace R5:=hide (R5.out.on hbel);replace HU:=hide (HU.out.under hbel (by omega));replace HL:=hide (HL.out.under hbel (by omega));have hsz2:=hbel.size;clear hbel)|(refine wpList_loadC rfl 29 (.tmp 18) rfl 6 stk_agg stk_size (w.heap.size) 0 60 rfl (treC g (.slice AU nU cU) (.slice AL nL cL) (.slice AR nR cR)) (stkC g (.slice AU nU cU) (.slice AL nL cL)) R3.out rfl rfl ?_)|(refine wpList_loadW rfl 37 (.tmp 5) rfl 13 nod_agg nod_size (w.heap.size+1) 37 rfl (nodC x (.slice D n c) (.slice C m d)) R5.out rfl ?_))
  go_ret
  exact BoolB.of HB.out
 ·have HV14:=hide (show lacksO ls x=b from by rw [←hb];rfl)
  clear hb
  go_enter Tryd.func25,Tryd.ntmps25
  go_wp2_with (first|(refine wpList_loadW rfl 37 (.tmp 5) rfl 13 nod_agg nod_size (w.heap.size+1) 37 rfl (nodC x (.slice D n c) (.slice C m d)) R5.out rfl ?_)|(refine wpList_loadC rfl 29 (.tmp 14) rfl 6 stk_agg stk_size (w.heap.size) 0 60 rfl (treC g (.slice AU nU cU) (.slice AL nL cL) (.slice AR nR cR)) (stkC g (.slice AU nU cU) (.slice AL nL cL)) R3.out rfl rfl ?_)|(refine wpList_loadW rfl 37 (.tmp 5) rfl 13 nod_agg nod_size (w.heap.size+1) 37 rfl (nodC x (.slice D n c) (.slice C m d)) R5.out rfl ?_)|(refine wpList_loadC rfl 29 (.tmp 18) rfl 6 stk_agg stk_size (w.heap.size) 0 60 rfl (treC g (.slice AU nU cU) (.slice AL nL cL) (.slice AR nR cR)) (stkC g (.slice AU nU cU) (.slice AL nL cL)) R3.out rfl rfl ?_)|(refine wpList_loadW rfl 37 (.tmp 5) rfl 13 nod_agg nod_size (w.heap.size+1) 37 rfl (nodC x (.slice D n c) (.slice C m d)) R5.out rfl ?_)|(go_at_call 15;refine (Lacks_any HV14.out hh.1 hh.2 W1 HU.out HL.out (by omega) HF.out HFU.out).mono ?_;rintro e1 wO ⟨rfl,hbel⟩;replace HB:=hide (HB.out.trans (hbel.mono HB.out.size));replace R3:=hide (R3.out.on hbel);replace R5:=hide (R5.out.on hbel);replace HU:=hide (HU.out.under hbel (by omega));replace HL:=hide (HL.out.under hbel (by omega));have hsz2:=hbel.size;clear hbel))
  go_ret
  exact BoolB.of HB.out
theorem rd_cell {w:World} {B b o n:Nat} {rs:List Bool} (h:Rd Value.bool w B (some ⟨b,o,none⟩) n rs) {i:Nat} {r:Bool} (hi:rs[i]?=some r):w.cell? ⟨b,o+i,none⟩=some (.bool r):=by
 obtain ⟨b',o',e,-,hc⟩:=h.2 (by have:=(List.getElem?_eq_some_iff.1 hi).1;have:=h.1;omega)
 cases e
 exact hc i r hi
theorem rd_some {w:World} {B n:Nat} {A:Option Addr} {rs:List Bool} (h:Rd Value.bool w B A n rs) (hn:0 < n):∃b o,A=some ⟨b,o,none⟩:=by
 obtain ⟨b',o',e,-⟩:=h.2 hn
 exact ⟨b',o',e⟩
set_option maxRecDepth 100000 in
set_option maxHeartbeats 16000000 in
theorem OFinds_any {g:GeoQ} {AU AL:Option Addr} {nU cU nL cL B:Nat} {up:List NodV} {ls:List (List NodV)} {rs:List Bool} (hrs:reachL up (walkW up [1]).1=rs) (w:World) (hu:RdE nodEn w (Under B) AU nU up) (h:RdE layEn w (Under B) AL nL ls) (hB:B≤w.heap.size) (hF:FewL ls) (hup:FewU up) (hcw:ClW w):Calls Tryd.prog 9 #[.agg (stkC g (.slice AU nU cU) (.slice AL nL cL)).toArray] w (FinsO w (findO up ls rs)):=by
 obtain ⟨W1,hW1⟩:∃W1,(w.alloc (.cells (stkC g (.slice AU nU cU) (.slice AL nL cL)).toArray 29))=W1:=⟨_,rfl⟩
 obtain ⟨r0,hb1,hs1⟩:=rowA1 w _ _ hW1
 have hW1':(w.alloc (.cells #[.int .i64 g.a,.int .i64 g.b,.int .i64 g.c,.int .i64 g.d,.slice AU nU cU,.slice AL nL cL] 29))=W1:=hW1
 have R1:=hide r0
 have HB:=hide hb1
 have hsz0:=hb1.size
 have HU:=hide (hu.under hb1 hB)
 have HL:=hide (h.under hb1 hB)
 have HF:=hide hF
 have HFU:=hide hup
 have HRS:=hide hrs
 have hrl:rs.length=up.length:=by rw [←hrs,reachL_len]
 have HC1:=hide (hcw.below hb1:ClW W1) 
 clear r0 hb1 hW1 hu h hF hup hrs hcw
 unfold stkC
 go_enter Tryd.func9,Tryd.ntmps9
 go_wp2_with fail
 go_upto_region 1 with fail
 go_cut [3] from 9 to 14 (fun v3 wx=>∃(g3:Nat) (AR:Option Addr) (nR cR:Nat),v3=.pointer (some ⟨g3,0,none⟩)∧W1.heap.size≤g3∧RowL wx g3 60 (treC g (.slice AU nU cU) (.slice AL nL cL) (.slice AR nR cR))∧Rd Value.bool wx wx.heap.size AR nR rs∧Below W1.heap.size W1 wx)
 case first =>
  refine wp_region_G (fun w'=>Below (W1.heap.size) W1 w') (.take 0 (.take 1 (.take 2 (.alt 3 (.alt 4 (.take 5 (.alt 6 (.alt 7 .leaf .stop) .stop)) (.alt 6 (.alt 4 (.take 5 (.alt 7 .leaf .stop)) .stop) .stop)) (.alt 6 (.alt 3 (.alt 4 (.take 5 (.alt 7 .leaf .stop)) .stop) .stop) .stop))))) (by kernel_rfl) (by kernel_rfl) (by kernel_rfl) (by kernel_rfl) rfl (fun _ _ _ _ _ h=>h) (below_drew (below_self W1)) (fun hHeld=>?_)
  generalize W1.drew=wd at *
  simp only [PT.map,List.getElem?_toArray,List.getElem?_cons_succ,List.getElem?_cons_zero]
  refine wpPT_take (v:=?_) (by kernel_rfl) (fun wS hSw=>?_) ?_
  rotate_left
  ·refine execOp_load (x:=.tmp 1) (k:=6) (g:=w.heap.size) (off:=0) (cs:=[.int .i64 g.a,.int .i64 g.b,.int .i64 g.c,.int .i64 g.d,.slice AU nU cU,.slice AL nL cL]) ?_ stk_agg stk_size ?_ (fun j v hv=>by rw [Nat.zero_add];exact ((R1.out.on hSw).cell j).trans hv) rfl <;> rfl
  (try simp only [Act.put,pu1,pu2,pu3])
  refine wpPT_take (v:=?_) (by kernel_rfl) (fun wS hSw=>?_) ?_
  rotate_left
  ·(try dsimp only at hSw);go_simp;(try with_reducible rfl)
  (try simp only [Act.put,pu1,pu2,pu3])
  refine wpPT_take (v:=?_) (by kernel_rfl) (fun wS hSw=>?_) ?_
  rotate_left
  ·refine execOp_load (x:=.tmp 10) (k:=1) (g:=w.heap.size) (off:=4) (cs:=[.slice AU nU cU]) ?_ lay_agg lay_size ?_ (fun j v hv=>((R1.out.on hSw).cell (4+j)).trans (sub_cell (cur:=stkC g (.slice AU nU cU) (.slice AL nL cL)) (k:=1) rfl hv)) rfl <;> rfl
  (try simp only [Act.put,pu1,pu2,pu3])
  refine wpPT_alt (by kernel_rfl) (fun K hK=>?_) ?_
  ·skip
   have hOld:=hide hHeld
   clear hHeld
   unfold Oper.wp execOp
   have hlit:=lit_one wd
   go_simp
   have hal:=below_new (below_self wd) (.cells #[.int .i64 1] 3)
   have hb':=hal.mono (B':=W1.heap.size) (by have:=hOld.out.size;omega)
   have HFN:=hide (show RowL (wd.alloc (.cells #[.int .i64 1] 3)) wd.heap.size 3 [.int .i64 1] from RowL.new wd 3 [.int .i64 1])
   have g12l:W1.heap.size≤wd.heap.size:=hOld.out.size
   refine hK.out _ _ (hOld.out.trans hb') (fun hHeld=>?_)
   clear hK K
   have R12:=HFN
   clear hal hb' hOld HFN
   generalize wd.alloc (.cells #[.int .i64 1] 3)=z0 at *
   generalize wd.heap.size=g12 at *
   (try simp only [Act.put,pu1,pu2,pu3])
   refine wpPT_alt (by kernel_rfl) (fun K hK=>?_) ?_
   ·skip
    have hOld:=hide hHeld
    clear hHeld
    go_simp
    go_at_call 24
    refine (OReach_any HRS.out _ (und_up (HU.out.under hOld.out (by omega)) (by have:=hOld.out.size;omega)) (one_row R12.out) (plain_many HFU.out.1 HFU.out.2).1).mono ?_
    rintro e w' ⟨AR,nR,cR,lo,hi,rfl,hlo,hr5,hbel⟩
    have hb':=hbel.mono (B':=W1.heap.size) (by have:=hOld.out.size;omega)
    (try have hgl:=R3.out.lt)
    have HRC:=hide hr5
    have hhi:=hr5.2
    clear hr5
    have R12':=hide (R12.out.on hbel)
    clear R12
    have R12:=R12'
    clear R12'
    clear hbel
    refine hK.out _ _ (hOld.out.trans hb') (fun hHeld=>?_)
    clear hK K
    (try simp only [Act.put,pu1,pu2,pu3])
    refine wpPT_take (v:=?_) (by kernel_rfl) (fun wS hSw=>?_) ?_
    rotate_left
    ·(try dsimp only at hSw);go_simp;(try with_reducible rfl)
    (try simp only [Act.put,pu1,pu2,pu3])
    refine wpPT_alt (by kernel_rfl) (fun K hK=>?_) ?_
    rotate_left
    ·exact wpPT_stop
    have hOld:=hide hHeld
    clear hHeld
    unfold Oper.wp execOp
    go_simp
    have hal:=below_new (below_self w') (.cells #[.int .i64 0,.int .i64 0,.int .i64 0,.int .i64 0,.slice none 0 0,.slice none 0 0,.slice none 0 0] 60)
    have hb':=hal.mono (B':=W1.heap.size) (by have:=hOld.out.size;omega)
    have HFN:=hide (show RowL (w'.alloc (.cells #[.int .i64 0,.int .i64 0,.int .i64 0,.int .i64 0,.slice none 0 0,.slice none 0 0,.slice none 0 0] 60)) w'.heap.size 60 (treC ⟨0,0,0,0⟩ (.slice none 0 0) (.slice none 0 0) (.slice none 0 0)) from RowL.new w' 60 (treC ⟨0,0,0,0⟩ (.slice none 0 0) (.slice none 0 0) (.slice none 0 0)))
    have g3l:W1.heap.size≤w'.heap.size:=hOld.out.size
    have g12ng3:g12 < w'.heap.size:=R12.out.lt
    refine hK.out _ _ (hOld.out.trans hb') (fun hHeld=>?_)
    clear hK K
    have R12':=hide (R12.out.on hal)
    clear R12
    have R12:=R12'
    clear R12'
    have HRC':=hide (rch_on HRC.out hal)
    clear HRC
    have HRC:=HRC'
    clear HRC'
    have R3:=HFN
    clear hal hb' hOld HFN
    generalize w'.alloc (.cells #[.int .i64 0,.int .i64 0,.int .i64 0,.int .i64 0,.slice none 0 0,.slice none 0 0,.slice none 0 0] 60)=z2 at *
    generalize w'.heap.size=g3 at *
    (try simp only [Act.put,pu1,pu2,pu3])
    refine wpPT_alt (by kernel_rfl) (fun K hK=>?_) ?_
    rotate_left
    ·exact wpPT_stop
    have hOld:=hide hHeld
    clear hHeld
    refine wp_storeC 60 (.tmp 3) (.tmp 14) rfl 7 tre_size g3 0 60 rfl (treC ⟨0,0,0,0⟩ (.slice none 0 0) (.slice none 0 0) (.slice none 0 0)) (treC g (.slice AU nU cU) (.slice AL nL cL) (.slice AR nR cR)) rfl R3.out rfl (by exact Nat.le_refl _) (treC_one _ _ _ _ _ _ _ _ _ _) ?_
    intro w' hr' hg' hs'
    rw [splice_all (treC ⟨0,0,0,0⟩ (.slice none 0 0) (.slice none 0 0) (.slice none 0 0)) (treC g (.slice AU nU cU) (.slice AL nL cL) (.slice AR nR cR)) rfl] at hr'
    refine hK.out _ _ (hOld.out.grown hg' (by have:=hOld.out.size;omega) (pu4 (by omega))) (fun hHeld=>?_)
    clear hK K
    have R12':=hide (R12.out.grown hg' (pu5 (by omega)))
    clear R12
    have R12:=R12'
    clear R12'
    have HRC':=hide (rch_grown HRC.out hg' (by first|omega|(have:=hOld.out.size;omega)|(have:=R3.out.lt;omega)))
    clear HRC
    have HRC:=HRC'
    clear HRC'
    clear R3
    have R3:=hide hr'
    clear hg' hs' hr' hOld
    (try simp only [Act.put])
    refine wpPT_leaf ?_
    have HBX:=hide hHeld
    clear hHeld
    go_wp2_with fail
    go_meet
    case rel=>exact ⟨_,_,_,_,rfl,by omega,R3.out,rch_rd HRC.out,HBX.out⟩
   refine wpPT_alt (by kernel_rfl) (fun K hK=>?_) ?_
   ·skip
    have hOld:=hide hHeld
    clear hHeld
    unfold Oper.wp execOp
    go_simp
    have hal:=below_new (below_self z0) (.cells #[.int .i64 0,.int .i64 0,.int .i64 0,.int .i64 0,.slice none 0 0,.slice none 0 0,.slice none 0 0] 60)
    have hb':=hal.mono (B':=W1.heap.size) (by have:=hOld.out.size;omega)
    have HFN:=hide (show RowL (z0.alloc (.cells #[.int .i64 0,.int .i64 0,.int .i64 0,.int .i64 0,.slice none 0 0,.slice none 0 0,.slice none 0 0] 60)) z0.heap.size 60 (treC ⟨0,0,0,0⟩ (.slice none 0 0) (.slice none 0 0) (.slice none 0 0)) from RowL.new z0 60 (treC ⟨0,0,0,0⟩ (.slice none 0 0) (.slice none 0 0) (.slice none 0 0)))
    have g3l:W1.heap.size≤z0.heap.size:=hOld.out.size
    have g12ng3:g12 < z0.heap.size:=R12.out.lt
    refine hK.out _ _ (hOld.out.trans hb') (fun hHeld=>?_)
    clear hK K
    have R12':=hide (R12.out.on hal)
    clear R12
    have R12:=R12'
    clear R12'
    have R3:=HFN
    clear hal hb' hOld HFN
    generalize z0.alloc (.cells #[.int .i64 0,.int .i64 0,.int .i64 0,.int .i64 0,.slice none 0 0,.slice none 0 0,.slice none 0 0] 60)=z1 at *
    generalize z0.heap.size=g3 at *
    (try simp only [Act.put,pu1,pu2,pu3])
    refine wpPT_alt (by kernel_rfl) (fun K hK=>?_) ?_
    rotate_left
    ·exact wpPT_stop
    have hOld:=hide hHeld
    clear hHeld
    go_simp
    go_at_call 24
    refine (OReach_any HRS.out _ (und_up (HU.out.under hOld.out (by omega)) (by have:=hOld.out.size;omega)) (one_row R12.out) (plain_many HFU.out.1 HFU.out.2).1).mono ?_
    rintro e w' ⟨AR,nR,cR,lo,hi,rfl,hlo,hr5,hbel⟩
    have hb':=hbel.mono (B':=W1.heap.size) (by have:=hOld.out.size;omega)
    (try have hgl:=R3.out.lt)
    have HRC:=hide hr5
    have hhi:=hr5.2
    clear hr5
    have R12':=hide (R12.out.on hbel)
    clear R12
    have R12:=R12'
    clear R12'
    have R3':=hide (R3.out.on hbel)
    clear R3
    have R3:=R3'
    clear R3'
    clear hbel
    refine hK.out _ _ (hOld.out.trans hb') (fun hHeld=>?_)
    clear hK K
    (try simp only [Act.put,pu1,pu2,pu3])
    refine wpPT_take (v:=?_) (by kernel_rfl) (fun wS hSw=>?_) ?_
    rotate_left
    ·(try dsimp only at hSw);go_simp;(try with_reducible rfl)
    (try simp only [Act.put,pu1,pu2,pu3])
    refine wpPT_alt (by kernel_rfl) (fun K hK=>?_) ?_
    rotate_left
    ·exact wpPT_stop
    have hOld:=hide hHeld
    clear hHeld
    refine wp_storeC 60 (.tmp 3) (.tmp 14) rfl 7 tre_size g3 0 60 rfl (treC ⟨0,0,0,0⟩ (.slice none 0 0) (.slice none 0 0) (.slice none 0 0)) (treC g (.slice AU nU cU) (.slice AL nL cL) (.slice AR nR cR)) rfl R3.out rfl (by exact Nat.le_refl _) (treC_one _ _ _ _ _ _ _ _ _ _) ?_
    intro w' hr' hg' hs'
    rw [splice_all (treC ⟨0,0,0,0⟩ (.slice none 0 0) (.slice none 0 0) (.slice none 0 0)) (treC g (.slice AU nU cU) (.slice AL nL cL) (.slice AR nR cR)) rfl] at hr'
    refine hK.out _ _ (hOld.out.grown hg' (by have:=hOld.out.size;omega) (pu4 (by omega))) (fun hHeld=>?_)
    clear hK K
    have R12':=hide (R12.out.grown hg' (pu5 (by omega)))
    clear R12
    have R12:=R12'
    clear R12'
    have HRC':=hide (rch_grown HRC.out hg' (by first|omega|(have:=hOld.out.size;omega)|(have:=R3.out.lt;omega)))
    clear HRC
    have HRC:=HRC'
    clear HRC'
    clear R3
    have R3:=hide hr'
    clear hg' hs' hr' hOld
    (try simp only [Act.put])
    refine wpPT_leaf ?_
    have HBX:=hide hHeld
    clear hHeld
    go_wp2_with fail
    go_meet
    case rel=>exact ⟨_,_,_,_,rfl,by omega,R3.out,rch_rd HRC.out,HBX.out⟩
   exact wpPT_stop
  refine wpPT_alt (by kernel_rfl) (fun K hK=>?_) ?_
  ·skip
   have hOld:=hide hHeld
   clear hHeld
   unfold Oper.wp execOp
   go_simp
   have hal:=below_new (below_self wd) (.cells #[.int .i64 0,.int .i64 0,.int .i64 0,.int .i64 0,.slice none 0 0,.slice none 0 0,.slice none 0 0] 60)
   have hb':=hal.mono (B':=W1.heap.size) (by have:=hOld.out.size;omega)
   have HFN:=hide (show RowL (wd.alloc (.cells #[.int .i64 0,.int .i64 0,.int .i64 0,.int .i64 0,.slice none 0 0,.slice none 0 0,.slice none 0 0] 60)) wd.heap.size 60 (treC ⟨0,0,0,0⟩ (.slice none 0 0) (.slice none 0 0) (.slice none 0 0)) from RowL.new wd 60 (treC ⟨0,0,0,0⟩ (.slice none 0 0) (.slice none 0 0) (.slice none 0 0)))
   have g3l:W1.heap.size≤wd.heap.size:=hOld.out.size
   refine hK.out _ _ (hOld.out.trans hb') (fun hHeld=>?_)
   clear hK K
   have R3:=HFN
   clear hal hb' hOld HFN
   generalize wd.alloc (.cells #[.int .i64 0,.int .i64 0,.int .i64 0,.int .i64 0,.slice none 0 0,.slice none 0 0,.slice none 0 0] 60)=z0 at *
   generalize wd.heap.size=g3 at *
   (try simp only [Act.put,pu1,pu2,pu3])
   refine wpPT_alt (by kernel_rfl) (fun K hK=>?_) ?_
   rotate_left
   ·exact wpPT_stop
   have hOld:=hide hHeld
   clear hHeld
   unfold Oper.wp execOp
   have hlit:=lit_one z0
   go_simp
   have hal:=below_new (below_self z0) (.cells #[.int .i64 1] 3)
   have hb':=hal.mono (B':=W1.heap.size) (by have:=hOld.out.size;omega)
   have HFN:=hide (show RowL (z0.alloc (.cells #[.int .i64 1] 3)) z0.heap.size 3 [.int .i64 1] from RowL.new z0 3 [.int .i64 1])
   have g12l:W1.heap.size≤z0.heap.size:=hOld.out.size
   have g3ng12:g3 < z0.heap.size:=R3.out.lt
   refine hK.out _ _ (hOld.out.trans hb') (fun hHeld=>?_)
   clear hK K
   have R3':=hide (R3.out.on hal)
   clear R3
   have R3:=R3'
   clear R3'
   have R12:=HFN
   clear hal hb' hOld HFN
   generalize z0.alloc (.cells #[.int .i64 1] 3)=z1 at *
   generalize z0.heap.size=g12 at *
   (try simp only [Act.put,pu1,pu2,pu3])
   refine wpPT_alt (by kernel_rfl) (fun K hK=>?_) ?_
   rotate_left
   ·exact wpPT_stop
   have hOld:=hide hHeld
   clear hHeld
   go_simp
   go_at_call 24
   refine (OReach_any HRS.out _ (und_up (HU.out.under hOld.out (by omega)) (by have:=hOld.out.size;omega)) (one_row R12.out) (plain_many HFU.out.1 HFU.out.2).1).mono ?_
   rintro e w' ⟨AR,nR,cR,lo,hi,rfl,hlo,hr5,hbel⟩
   have hb':=hbel.mono (B':=W1.heap.size) (by have:=hOld.out.size;omega)
   (try have hgl:=R3.out.lt)
   have HRC:=hide hr5
   have hhi:=hr5.2
   clear hr5
   have R3':=hide (R3.out.on hbel)
   clear R3
   have R3:=R3'
   clear R3'
   have R12':=hide (R12.out.on hbel)
   clear R12
   have R12:=R12'
   clear R12'
   clear hbel
   refine hK.out _ _ (hOld.out.trans hb') (fun hHeld=>?_)
   clear hK K
   (try simp only [Act.put,pu1,pu2,pu3])
   refine wpPT_take (v:=?_) (by kernel_rfl) (fun wS hSw=>?_) ?_
   rotate_left
   ·(try dsimp only at hSw);go_simp;(try with_reducible rfl)
   (try simp only [Act.put,pu1,pu2,pu3])
   refine wpPT_alt (by kernel_rfl) (fun K hK=>?_) ?_
   rotate_left
   ·exact wpPT_stop
   have hOld:=hide hHeld
   clear hHeld
   refine wp_storeC 60 (.tmp 3) (.tmp 14) rfl 7 tre_size g3 0 60 rfl (treC ⟨0,0,0,0⟩ (.slice none 0 0) (.slice none 0 0) (.slice none 0 0)) (treC g (.slice AU nU cU) (.slice AL nL cL) (.slice AR nR cR)) rfl R3.out rfl (by exact Nat.le_refl _) (treC_one _ _ _ _ _ _ _ _ _ _) ?_
   intro w' hr' hg' hs'
   rw [splice_all (treC ⟨0,0,0,0⟩ (.slice none 0 0) (.slice none 0 0) (.slice none 0 0)) (treC g (.slice AU nU cU) (.slice AL nL cL) (.slice AR nR cR)) rfl] at hr'
   refine hK.out _ _ (hOld.out.grown hg' (by have:=hOld.out.size;omega) (pu4 (by omega))) (fun hHeld=>?_)
   clear hK K
   have R12':=hide (R12.out.grown hg' (pu5 (by omega)))
   clear R12
   have R12:=R12'
   clear R12'
   have HRC':=hide (rch_grown HRC.out hg' (by first|omega|(have:=hOld.out.size;omega)|(have:=R3.out.lt;omega)))
   clear HRC
   have HRC:=HRC'
   clear HRC'
   clear R3
   have R3:=hide hr'
   clear hg' hs' hr' hOld
   (try simp only [Act.put])
   refine wpPT_leaf ?_
   have HBX:=hide hHeld
   clear hHeld
   go_wp2_with fail
   go_meet
   case rel=>exact ⟨_,_,_,_,rfl,by omega,R3.out,rch_rd HRC.out,HBX.out⟩
  exact wpPT_stop
 case rest =>
 clear hW1'
 rename World=>wT
 obtain ⟨g3,AR,nR,cR,rfl,hg3,hr3,hrd,hbx⟩:=hcut
 have hWT:W1.heap.size≤wT.heap.size:=hbx.size
 have hct:=HC1.out.below hbx
 have q0:wT.cell? ⟨0,0,none⟩=some (.int .i64 8):=hct 0 (by omega)
 have q1:wT.cell? ⟨0,1,none⟩=some (.int .i64 13):=hct 1 (by omega)
 have q2:wT.cell? ⟨0,2,none⟩=some (.int .i64 14):=hct 2 (by omega)
 have R3:=hide hr3
 have HRD:=hide hrd
 have hg3l:=hr3.lt
 have hnR:nR=nU:=by have h1:=hrd.1;have h2:=HU.out.1;omega
 subst hnR
 have hn24:nR≤24:=by have h1:=HFU.out.1;have h2:=HU.out.1;omega
 have hul:up.length=nR:=HU.out.1
 replace HU:=hide (und_at HU.out hbx (by omega))
 replace HL:=hide (und_at HL.out hbx (by omega))
 have HBT:=hide (HB.out.trans (hbx.mono HB.out.size))
 clear R1 HB hbx hr3 hrd hct HC1
 go_wp2_with fail
 clear q0 q1 q2
 go_loopw [4,16] (fun v4 v16 wr=>∃(j n3:Nat) (A3:Option Addr) (c3:Nat),j≤3∧v16=.int .i64 j∧v4=.slice A3 n3 c3∧n3≤24*j∧OwE finEn wr wT.heap.size 44 A3 n3 c3 (outF up ls rs j)∧Below wT.heap.size wT wr) (fun _ v16 _=>3 - (intOf v16).toNat)
 case atStart=>exact ⟨0,0,none,0,by omega,rfl,rfl,by omega,OwE.nil_ _ _ _ _,Below.refl _ _⟩
 case round =>
  rename World=>wo
  obtain ⟨j,n3,A3,c3,hj,rfl,rfl,hn3,ho,hbr⟩:=hrel
  have hbsz:=hbr.size
  have HBR:=hide hbr
  have HO:=hide ho
  replace R3:=hide (show RowL wo g3 _ _ from (hbr.block _ (by omega)).trans R3.out)
  replace HU:=hide (und_at HU.out hbr (by omega))
  replace HL:=hide (und_at HL.out hbr (by omega))
  replace HRD:=hide (HRD.out.below hbr)
  clear ho hbr
  by_cases hlt:j < 3
  ·have hix:=fun W=>cl_index hlt W
   have HCL:=hide (cl_is hlt)
   obtain ⟨cl,hcl⟩:∃cl,clO j=cl:=⟨_,rfl⟩
   have HOF:=hide (show outF up ls rs (j+1)=outF up ls rs j++rowO up ls rs cl nR from by rw [←hcl,←hul];rfl)
   rw [hcl] at hix
   replace HCL:=hide (by have h1:=HCL.out;rw [hcl] at h1;exact h1:cl=8∨cl=13∨cl=14)
   have hj3:(j:Int) < 3:=by omega
   have q3_4:wo.cell? ⟨g3,4,none⟩=some (.slice AU nR cU):=R3.out.cell 4
   clear hcl
   go_wp2_with fail
   go_step3
   go_wp2_with fail
   go_step3
   go_wp2_with fail
   clear q3_4 hix
   go_loopw [4,24] (fun v4 v24 wr=>∃(i n6:Nat) (A6:Option Addr) (c6:Nat),i≤nR∧v24=.int .i64 i∧v4=.slice A6 n6 c6∧n6≤n3+i∧OwE finEn wr wT.heap.size 44 A6 n6 c6 (outF up ls rs j++rowO up ls rs cl i)∧Below wT.heap.size wo wr) (fun _ v24 _=>nR - (intOf v24).toNat)
   case atStart=>exact ⟨0,n3,A3,c3,by omega,rfl,rfl,by omega,by rw [show rowO up ls rs cl 0=[] from rfl,List.append_nil];exact HO.out,Below.refl _ _⟩
   case round =>
    obtain ⟨i,n6,A6,c6,hi,rfl,rfl,hn6,ho,hbr⟩:=hrel
    have hbsz2:=hbr.size
    have HBQ:=hide hbr
    have HO2:=hide ho
    replace R3:=hide (show RowL wr g3 _ _ from (hbr.block _ (by omega)).trans R3.out)
    replace HU:=hide (und_at HU.out hbr (by omega))
    replace HL:=hide (und_at HL.out hbr (by omega))
    replace HRD:=hide (HRD.out.below hbr)
    clear ho hbr
    by_cases hlt2:i < nR
    ·obtain ⟨x,hx⟩:∃x,up[i]?=some x:=⟨_,List.getElem?_eq_getElem (by omega)⟩
     obtain ⟨r,hri⟩:∃r,rs[i]?=some r:=⟨_,List.getElem?_eq_getElem (by omega)⟩
     obtain ⟨v,hv⟩:∃v,violO ls cl x=v:=⟨_,rfl⟩
     have HTO:=hide (oneO_is hx hri hv)
     have HTS:=hide (rowO_succ up ls rs cl i)
     have HV:=hide hv
     have hh:=(HFU.out.2 x (List.mem_of_getElem? hx)).2.2.1
     obtain ⟨bU,oU,A0,n0,k0,C0,m0,d0,rfl,hbU,hcx⟩:=nod_cells HU.out hx
     have HCX:=hide hcx
     obtain ⟨bR,oR,rfl⟩:=rd_some HRD.out (by omega)
     have hin:(i:Int) < (nR:Int):=by omega
     have hw1:IntKind.i64.wrap ((i:Int)+1)=(i:Int)+1:=IntWalk.i64_in _ (by omega)
     have q3_4:wr.cell? ⟨g3,4,none⟩=some (.slice (some ⟨bU,oU,none⟩) nR cU):=R3.out.cell 4
     have q3_6:wr.cell? ⟨g3,6,none⟩=some (.slice (some ⟨bR,oR,none⟩) nR cR):=R3.out.cell 6
     have q3_0:wr.cell? ⟨g3,0,none⟩=some (.int .i64 g.a):=R3.out.cell 0
     have q3_1:wr.cell? ⟨g3,1,none⟩=some (.int .i64 g.b):=R3.out.cell 1
     have q3_2:wr.cell? ⟨g3,2,none⟩=some (.int .i64 g.c):=R3.out.cell 2
     have q3_3:wr.cell? ⟨g3,3,none⟩=some (.int .i64 g.d):=R3.out.cell 3
     have q3_5:wr.cell? ⟨g3,5,none⟩=some (.slice AL nL cL):=R3.out.cell 5
     clear hcx hx hv
     cases r with
     | false =>
      go_wp2_with (first|(refine wpList_loadX rfl 37 (.tmp 27) rfl 13 nod_agg nod_size bU (oU+i*13) rfl (nodC x (.slice A0 n0 k0) (.slice C0 m0 d0)) HCX.out rfl ?_)|(refine wpList_storeW rfl 37 (.tmp 8) (.tmp 28) rfl 13 nod_size (wr.heap.size) 37 rfl (nodC nod0 (.slice none 0 0) (.slice none 0 0)) (nodC x (.slice A0 n0 k0) (.slice C0 m0 d0)) rfl (RowL.new wr 37 (nodC nod0 (.slice none 0 0) (.slice none 0 0))) rfl rfl (nodC_one _ _ _ _ _ _ _) ?_;intro wS121 hr121 hg121 hs121;have hzb:=below_stored' hg121;clear q3_4 q3_6 q3_0 q3_1 q3_2 q3_3 q3_5;replace HBQ:=hide (HBQ.out.trans (hzb.mono (by omega)));replace R3:=hide (R3.out.on hzb);replace HU:=hide (HU.out.under hzb (by omega));replace HL:=hide (HL.out.under hzb (by omega));replace HRD:=hide (HRD.out.below (hzb.mono (by omega)));replace HO2:=hide (HO2.out.below hzb);have hsz122:=hzb.size;have q3_4:wS121.cell? ⟨g3,4,none⟩=some (.slice (some ⟨bU,oU,none⟩) nR cU):=R3.out.cell 4;have q3_6:wS121.cell? ⟨g3,6,none⟩=some (.slice (some ⟨bR,oR,none⟩) nR cR):=R3.out.cell 6;have q3_0:wS121.cell? ⟨g3,0,none⟩=some (.int .i64 g.a):=R3.out.cell 0;have q3_1:wS121.cell? ⟨g3,1,none⟩=some (.int .i64 g.b):=R3.out.cell 1;have q3_2:wS121.cell? ⟨g3,2,none⟩=some (.int .i64 g.c):=R3.out.cell 2;have q3_3:wS121.cell? ⟨g3,3,none⟩=some (.int .i64 g.d):=R3.out.cell 3;have q3_5:wS121.cell? ⟨g3,5,none⟩=some (.slice AL nL cL):=R3.out.cell 5;have R8:=hide hr121;have hlt121:=hr121.lt;have q8_0:wS121.cell? ⟨wr.heap.size,0,none⟩=some (.int .i64 x.k):=R8.out.cell 0;have q8_1:wS121.cell? ⟨wr.heap.size,1,none⟩=some (.int .i64 x.p):=R8.out.cell 1;have q8_2:wS121.cell? ⟨wr.heap.size,2,none⟩=some (.int .i64 x.n):=R8.out.cell 2;have q8_3:wS121.cell? ⟨wr.heap.size,3,none⟩=some (.int .i64 x.g):=R8.out.cell 3;have q8_4:wS121.cell? ⟨wr.heap.size,4,none⟩=some (.slice A0 n0 k0):=R8.out.cell 4;have q8_5:wS121.cell? ⟨wr.heap.size,5,none⟩=some (.slice C0 m0 d0):=R8.out.cell 5;have q8_6:wS121.cell? ⟨wr.heap.size,6,none⟩=some (.int .i64 x.att.h):=R8.out.cell 6;have q8_7:wS121.cell? ⟨wr.heap.size,7,none⟩=some (.int .i64 x.att.o):=R8.out.cell 7;have q8_8:wS121.cell? ⟨wr.heap.size,8,none⟩=some (.string ⟨x.att.r.toArray⟩):=R8.out.cell 8;have q8_9:wS121.cell? ⟨wr.heap.size,9,none⟩=some (.int .i64 x.att.l):=R8.out.cell 9;have q8_10:wS121.cell? ⟨wr.heap.size,10,none⟩=some (.int .i64 x.att.i):=R8.out.cell 10;have q8_11:wS121.cell? ⟨wr.heap.size,11,none⟩=some (.int .i64 x.att.g):=R8.out.cell 11;have q8_12:wS121.cell? ⟨wr.heap.size,12,none⟩=some (.int .i64 x.att.s):=R8.out.cell 12;clear hzb hr121;clear hg121 hs121;have qb:=rd_cell HRD.out hri))
      go_roundw
      case rel=>exact ⟨i+1,n6,A6,c6,by omega,by go_num,rfl,by omega,by rw [HTS.out,HTO.out,if_neg (by simp),List.append_nil];exact HO2.out,HBQ.out⟩
      case measure=>simp [intOf];omega
     | true =>
      cases v with
      | false =>
       go_wp2_with (first|(refine wpList_loadX rfl 37 (.tmp 27) rfl 13 nod_agg nod_size bU (oU+i*13) rfl (nodC x (.slice A0 n0 k0) (.slice C0 m0 d0)) HCX.out rfl ?_)|(refine wpList_storeW rfl 37 (.tmp 8) (.tmp 28) rfl 13 nod_size (wr.heap.size) 37 rfl (nodC nod0 (.slice none 0 0) (.slice none 0 0)) (nodC x (.slice A0 n0 k0) (.slice C0 m0 d0)) rfl (RowL.new wr 37 (nodC nod0 (.slice none 0 0) (.slice none 0 0))) rfl rfl (nodC_one _ _ _ _ _ _ _) ?_;intro wS121 hr121 hg121 hs121;have hzb:=below_stored' hg121;clear q3_4 q3_6 q3_0 q3_1 q3_2 q3_3 q3_5;replace HBQ:=hide (HBQ.out.trans (hzb.mono (by omega)));replace R3:=hide (R3.out.on hzb);replace HU:=hide (HU.out.under hzb (by omega));replace HL:=hide (HL.out.under hzb (by omega));replace HRD:=hide (HRD.out.below (hzb.mono (by omega)));replace HO2:=hide (HO2.out.below hzb);have hsz122:=hzb.size;have q3_4:wS121.cell? ⟨g3,4,none⟩=some (.slice (some ⟨bU,oU,none⟩) nR cU):=R3.out.cell 4;have q3_6:wS121.cell? ⟨g3,6,none⟩=some (.slice (some ⟨bR,oR,none⟩) nR cR):=R3.out.cell 6;have q3_0:wS121.cell? ⟨g3,0,none⟩=some (.int .i64 g.a):=R3.out.cell 0;have q3_1:wS121.cell? ⟨g3,1,none⟩=some (.int .i64 g.b):=R3.out.cell 1;have q3_2:wS121.cell? ⟨g3,2,none⟩=some (.int .i64 g.c):=R3.out.cell 2;have q3_3:wS121.cell? ⟨g3,3,none⟩=some (.int .i64 g.d):=R3.out.cell 3;have q3_5:wS121.cell? ⟨g3,5,none⟩=some (.slice AL nL cL):=R3.out.cell 5;have R8:=hide hr121;have hlt121:=hr121.lt;have q8_0:wS121.cell? ⟨wr.heap.size,0,none⟩=some (.int .i64 x.k):=R8.out.cell 0;have q8_1:wS121.cell? ⟨wr.heap.size,1,none⟩=some (.int .i64 x.p):=R8.out.cell 1;have q8_2:wS121.cell? ⟨wr.heap.size,2,none⟩=some (.int .i64 x.n):=R8.out.cell 2;have q8_3:wS121.cell? ⟨wr.heap.size,3,none⟩=some (.int .i64 x.g):=R8.out.cell 3;have q8_4:wS121.cell? ⟨wr.heap.size,4,none⟩=some (.slice A0 n0 k0):=R8.out.cell 4;have q8_5:wS121.cell? ⟨wr.heap.size,5,none⟩=some (.slice C0 m0 d0):=R8.out.cell 5;have q8_6:wS121.cell? ⟨wr.heap.size,6,none⟩=some (.int .i64 x.att.h):=R8.out.cell 6;have q8_7:wS121.cell? ⟨wr.heap.size,7,none⟩=some (.int .i64 x.att.o):=R8.out.cell 7;have q8_8:wS121.cell? ⟨wr.heap.size,8,none⟩=some (.string ⟨x.att.r.toArray⟩):=R8.out.cell 8;have q8_9:wS121.cell? ⟨wr.heap.size,9,none⟩=some (.int .i64 x.att.l):=R8.out.cell 9;have q8_10:wS121.cell? ⟨wr.heap.size,10,none⟩=some (.int .i64 x.att.i):=R8.out.cell 10;have q8_11:wS121.cell? ⟨wr.heap.size,11,none⟩=some (.int .i64 x.att.g):=R8.out.cell 11;have q8_12:wS121.cell? ⟨wr.heap.size,12,none⟩=some (.int .i64 x.att.s):=R8.out.cell 12;clear hzb hr121;clear hg121 hs121;have qb:=rd_cell HRD.out hri)|(go_at_call 25;refine (Viol_any HV.out HCL.out hh.1 hh.2 wS121 HU.out HL.out (by omega) HF.out HFU.out).mono ?_;rintro e161 wH ⟨rfl,hbel⟩;clear qb;clear q3_4 q3_6 q3_0 q3_1 q3_2 q3_3 q3_5 q8_0 q8_1 q8_2 q8_3 q8_4 q8_5 q8_6 q8_7 q8_8 q8_9 q8_10 q8_11 q8_12;replace HBQ:=hide (HBQ.out.trans (hbel.mono (by omega)));replace R3:=hide (R3.out.on hbel);replace HU:=hide (HU.out.under hbel (by omega));replace HL:=hide (HL.out.under hbel (by omega));replace HRD:=hide (HRD.out.below (hbel.mono (by omega)));replace HO2:=hide (HO2.out.below hbel);replace R8:=hide (R8.out.on hbel);have hsz162:=hbel.size;have q3_4:wH.cell? ⟨g3,4,none⟩=some (.slice (some ⟨bU,oU,none⟩) nR cU):=R3.out.cell 4;have q3_6:wH.cell? ⟨g3,6,none⟩=some (.slice (some ⟨bR,oR,none⟩) nR cR):=R3.out.cell 6;have q3_0:wH.cell? ⟨g3,0,none⟩=some (.int .i64 g.a):=R3.out.cell 0;have q3_1:wH.cell? ⟨g3,1,none⟩=some (.int .i64 g.b):=R3.out.cell 1;have q3_2:wH.cell? ⟨g3,2,none⟩=some (.int .i64 g.c):=R3.out.cell 2;have q3_3:wH.cell? ⟨g3,3,none⟩=some (.int .i64 g.d):=R3.out.cell 3;have q3_5:wH.cell? ⟨g3,5,none⟩=some (.slice AL nL cL):=R3.out.cell 5;have q8_0:wH.cell? ⟨wr.heap.size,0,none⟩=some (.int .i64 x.k):=R8.out.cell 0;have q8_1:wH.cell? ⟨wr.heap.size,1,none⟩=some (.int .i64 x.p):=R8.out.cell 1;have q8_2:wH.cell? ⟨wr.heap.size,2,none⟩=some (.int .i64 x.n):=R8.out.cell 2;have q8_3:wH.cell? ⟨wr.heap.size,3,none⟩=some (.int .i64 x.g):=R8.out.cell 3;have q8_4:wH.cell? ⟨wr.heap.size,4,none⟩=some (.slice A0 n0 k0):=R8.out.cell 4;have q8_5:wH.cell? ⟨wr.heap.size,5,none⟩=some (.slice C0 m0 d0):=R8.out.cell 5;have q8_6:wH.cell? ⟨wr.heap.size,6,none⟩=some (.int .i64 x.att.h):=R8.out.cell 6;have q8_7:wH.cell? ⟨wr.heap.size,7,none⟩=some (.int .i64 x.att.o):=R8.out.cell 7;have q8_8:wH.cell? ⟨wr.heap.size,8,none⟩=some (.string ⟨x.att.r.toArray⟩):=R8.out.cell 8;have q8_9:wH.cell? ⟨wr.heap.size,9,none⟩=some (.int .i64 x.att.l):=R8.out.cell 9;have q8_10:wH.cell? ⟨wr.heap.size,10,none⟩=some (.int .i64 x.att.i):=R8.out.cell 10;have q8_11:wH.cell? ⟨wr.heap.size,11,none⟩=some (.int .i64 x.att.g):=R8.out.cell 11;have q8_12:wH.cell? ⟨wr.heap.size,12,none⟩=some (.int .i64 x.att.s):=R8.out.cell 12;clear hbel))
       go_roundw
       case rel=>exact ⟨i+1,n6,A6,c6,by omega,by go_num,rfl,by omega,by rw [HTS.out,HTO.out,if_neg (by simp),List.append_nil];exact HO2.out,HBQ.out⟩
       case measure=>simp [intOf];omega
      | true =>
       go_wp2_with (first|(refine wpList_loadX rfl 37 (.tmp 27) rfl 13 nod_agg nod_size bU (oU+i*13) rfl (nodC x (.slice A0 n0 k0) (.slice C0 m0 d0)) HCX.out rfl ?_)|(refine wpList_storeW rfl 37 (.tmp 8) (.tmp 28) rfl 13 nod_size (wr.heap.size) 37 rfl (nodC nod0 (.slice none 0 0) (.slice none 0 0)) (nodC x (.slice A0 n0 k0) (.slice C0 m0 d0)) rfl (RowL.new wr 37 (nodC nod0 (.slice none 0 0) (.slice none 0 0))) rfl rfl (nodC_one _ _ _ _ _ _ _) ?_;intro wS121 hr121 hg121 hs121;have hzb:=below_stored' hg121;clear q3_4 q3_6 q3_0 q3_1 q3_2 q3_3 q3_5;replace HBQ:=hide (HBQ.out.trans (hzb.mono (by omega)));replace R3:=hide (R3.out.on hzb);replace HU:=hide (HU.out.under hzb (by omega));replace HL:=hide (HL.out.under hzb (by omega));replace HRD:=hide (HRD.out.below (hzb.mono (by omega)));replace HO2:=hide (HO2.out.below hzb);have hsz122:=hzb.size;have q3_4:wS121.cell? ⟨g3,4,none⟩=some (.slice (some ⟨bU,oU,none⟩) nR cU):=R3.out.cell 4;have q3_6:wS121.cell? ⟨g3,6,none⟩=some (.slice (some ⟨bR,oR,none⟩) nR cR):=R3.out.cell 6;have q3_0:wS121.cell? ⟨g3,0,none⟩=some (.int .i64 g.a):=R3.out.cell 0;have q3_1:wS121.cell? ⟨g3,1,none⟩=some (.int .i64 g.b):=R3.out.cell 1;have q3_2:wS121.cell? ⟨g3,2,none⟩=some (.int .i64 g.c):=R3.out.cell 2;have q3_3:wS121.cell? ⟨g3,3,none⟩=some (.int .i64 g.d):=R3.out.cell 3;have q3_5:wS121.cell? ⟨g3,5,none⟩=some (.slice AL nL cL):=R3.out.cell 5;have R8:=hide hr121;have hlt121:=hr121.lt;have q8_0:wS121.cell? ⟨wr.heap.size,0,none⟩=some (.int .i64 x.k):=R8.out.cell 0;have q8_1:wS121.cell? ⟨wr.heap.size,1,none⟩=some (.int .i64 x.p):=R8.out.cell 1;have q8_2:wS121.cell? ⟨wr.heap.size,2,none⟩=some (.int .i64 x.n):=R8.out.cell 2;have q8_3:wS121.cell? ⟨wr.heap.size,3,none⟩=some (.int .i64 x.g):=R8.out.cell 3;have q8_4:wS121.cell? ⟨wr.heap.size,4,none⟩=some (.slice A0 n0 k0):=R8.out.cell 4;have q8_5:wS121.cell? ⟨wr.heap.size,5,none⟩=some (.slice C0 m0 d0):=R8.out.cell 5;have q8_6:wS121.cell? ⟨wr.heap.size,6,none⟩=some (.int .i64 x.att.h):=R8.out.cell 6;have q8_7:wS121.cell? ⟨wr.heap.size,7,none⟩=some (.int .i64 x.att.o):=R8.out.cell 7;have q8_8:wS121.cell? ⟨wr.heap.size,8,none⟩=some (.string ⟨x.att.r.toArray⟩):=R8.out.cell 8;have q8_9:wS121.cell? ⟨wr.heap.size,9,none⟩=some (.int .i64 x.att.l):=R8.out.cell 9;have q8_10:wS121.cell? ⟨wr.heap.size,10,none⟩=some (.int .i64 x.att.i):=R8.out.cell 10;have q8_11:wS121.cell? ⟨wr.heap.size,11,none⟩=some (.int .i64 x.att.g):=R8.out.cell 11;have q8_12:wS121.cell? ⟨wr.heap.size,12,none⟩=some (.int .i64 x.att.s):=R8.out.cell 12;clear hzb hr121;clear hg121 hs121;have qb:=rd_cell HRD.out hri)|(go_at_call 25;refine (Viol_any HV.out HCL.out hh.1 hh.2 wS121 HU.out HL.out (by omega) HF.out HFU.out).mono ?_;rintro e161 wH ⟨rfl,hbel⟩;clear qb;clear q3_4 q3_6 q3_0 q3_1 q3_2 q3_3 q3_5 q8_0 q8_1 q8_2 q8_3 q8_4 q8_5 q8_6 q8_7 q8_8 q8_9 q8_10 q8_11 q8_12;replace HBQ:=hide (HBQ.out.trans (hbel.mono (by omega)));replace R3:=hide (R3.out.on hbel);replace HU:=hide (HU.out.under hbel (by omega));replace HL:=hide (HL.out.under hbel (by omega));replace HRD:=hide (HRD.out.below (hbel.mono (by omega)));replace HO2:=hide (HO2.out.below hbel);replace R8:=hide (R8.out.on hbel);have hsz162:=hbel.size;have q3_4:wH.cell? ⟨g3,4,none⟩=some (.slice (some ⟨bU,oU,none⟩) nR cU):=R3.out.cell 4;have q3_6:wH.cell? ⟨g3,6,none⟩=some (.slice (some ⟨bR,oR,none⟩) nR cR):=R3.out.cell 6;have q3_0:wH.cell? ⟨g3,0,none⟩=some (.int .i64 g.a):=R3.out.cell 0;have q3_1:wH.cell? ⟨g3,1,none⟩=some (.int .i64 g.b):=R3.out.cell 1;have q3_2:wH.cell? ⟨g3,2,none⟩=some (.int .i64 g.c):=R3.out.cell 2;have q3_3:wH.cell? ⟨g3,3,none⟩=some (.int .i64 g.d):=R3.out.cell 3;have q3_5:wH.cell? ⟨g3,5,none⟩=some (.slice AL nL cL):=R3.out.cell 5;have q8_0:wH.cell? ⟨wr.heap.size,0,none⟩=some (.int .i64 x.k):=R8.out.cell 0;have q8_1:wH.cell? ⟨wr.heap.size,1,none⟩=some (.int .i64 x.p):=R8.out.cell 1;have q8_2:wH.cell? ⟨wr.heap.size,2,none⟩=some (.int .i64 x.n):=R8.out.cell 2;have q8_3:wH.cell? ⟨wr.heap.size,3,none⟩=some (.int .i64 x.g):=R8.out.cell 3;have q8_4:wH.cell? ⟨wr.heap.size,4,none⟩=some (.slice A0 n0 k0):=R8.out.cell 4;have q8_5:wH.cell? ⟨wr.heap.size,5,none⟩=some (.slice C0 m0 d0):=R8.out.cell 5;have q8_6:wH.cell? ⟨wr.heap.size,6,none⟩=some (.int .i64 x.att.h):=R8.out.cell 6;have q8_7:wH.cell? ⟨wr.heap.size,7,none⟩=some (.int .i64 x.att.o):=R8.out.cell 7;have q8_8:wH.cell? ⟨wr.heap.size,8,none⟩=some (.string ⟨x.att.r.toArray⟩):=R8.out.cell 8;have q8_9:wH.cell? ⟨wr.heap.size,9,none⟩=some (.int .i64 x.att.l):=R8.out.cell 9;have q8_10:wH.cell? ⟨wr.heap.size,10,none⟩=some (.int .i64 x.att.i):=R8.out.cell 10;have q8_11:wH.cell? ⟨wr.heap.size,11,none⟩=some (.int .i64 x.att.g):=R8.out.cell 11;have q8_12:wH.cell? ⟨wr.heap.size,12,none⟩=some (.int .i64 x.att.s):=R8.out.cell 12;have hlit:=litW_fin cl 0 ((i:Int)+1) (-1) wH;clear hbel)|(at_builtin;have hba:=below_new (below_self wH) (.cells #[.int .i64 cl,.int .i64 0,.int .i64 ((i:Int)+1),.int .i64 (-1)] 44);refine wpList_append_OwE (E:=finEn) _ rfl (.tmp 42) (.tmp 47) 42 rfl wT.heap.size 44 (.agg #[.int .i64 0,.int .i64 0,.int .i64 0,.int .i64 0]) 32 Tryd.underlying42 finW_info rfl (by decide) A6 n6 c6 _ rfl (HO2.out.below hba) (fun b=>wH.heap.size≤b∧b < (wH.alloc (.cells (finC ⟨cl,0,(i:Int)+1,-1⟩).toArray 44)).heap.size) (some ⟨wH.heap.size,0,none⟩) 1 1 [⟨cl,0,(i:Int)+1,-1⟩] rfl (enc_lit1 (OFin_R ⟨cl,0,(i:Int)+1,-1⟩) wH 44 (Nat.le_refl _)) (fun b hb=>⟨⟨hb.2,fun _ _ _ _=>rfl⟩,fun a ha=>(fun e=>by have h1:=hb.1;rw [e] at h1;have:=OwE.lt HO2.out a ha;omega)⟩) (n6+1) rfl (by omega) (by omega) (by simp;omega) ?_;intro A9 c9 w9 ho9 hb9;have HO9:=hide ho9;have HB9:=hide ((HBQ.out.alloc (by omega) _).trans hb9);clear ho9 hb9 hba))
       go_roundw
       case rel=>exact ⟨i+1,n6+1,A9,c9,by omega,by go_num,rfl,by omega,by rw [HTS.out,HTO.out,if_pos (by simp),←List.append_assoc];exact HO9.out,HB9.out⟩
       case measure=>simp [intOf];omega
    ·obtain rfl:nR=i:=by omega
     have hnlt2:¬((nR:Int) < (nR:Int)):=by omega
     have ho:=HO2.out
     rw [←HOF.out] at ho
     go_wp2_with fail
     go_roundw
     case rel=>exact ⟨j+1,n6,A6,c6,by omega,by go_num,rfl,by omega,ho,HBR.out.trans (HBQ.out.mono (by omega))⟩
     case measure=>simp [intOf];omega
  ·obtain rfl:j=3:=by omega
   go_wp2_with fail
   go_ret
   have ho:=(HO.out.rd rfl).plain
   rw [outF_all] at ho
   exact ⟨A3,n3,c3,rfl,ho,HBT.out.trans (HBR.out.mono (by omega))⟩
end Go.Proofs.YtfdbhldnohaopaaDoor

