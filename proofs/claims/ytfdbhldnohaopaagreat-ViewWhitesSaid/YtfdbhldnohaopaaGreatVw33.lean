import Derived.Test.YtfdbhldnohaopaaGreatVw22
import Derived.Test.YtfdbhldnohaopaaGreatVw29
import Derived.Test.YtfdbhldnohaopaaGreatVw12
import Derived.Test.YtfdbhldnohaopaaGreatVw14
import Derived.Test.YtfdbhldnohaopaaGreatVw30

namespace Go.Proofs.YtfdbhldnohaopaaGreat
open Go.RowKit Go.Shelf Plain

def ndD:NodV:={nod0 with k:=1,n:=2}
def ndA:NodV:={nod0 with k:=1,n:=2,ents:=[⟨0,2,[97]⟩]}
def ndF:NodV:={nod0 with k:=2,n:=1,g:=3,data:=[120]}
def lyB:List NodV:=[ndA,ndF,nod0,nod0,nod0]
def lsB:List (List NodV):=[lyB]
def gB:GeoQ:=⟨1,5,6,5⟩
theorem ba_few:FewL lsB:=by
 refine ⟨by decide,fun ns hns=>?_⟩
 rw [List.mem_singleton.1 hns]
 refine ⟨by decide,fun x hx=>?_⟩
 simp only [lyB,List.mem_cons,List.not_mem_nil,or_false] at hx
 rcases hx with rfl|rfl|rfl|rfl|rfl
 ·refine ⟨fun i e hi he=>?_,by decide,by decide,by decide,by decide,by decide,fun e he=>?_⟩
  ·obtain rfl:i=0:=by have:i < 1:=hi;omega
   cases he
   exact ⟨by decide,by decide,fun p h=>absurd h (by omega)⟩
  ·rw [List.mem_singleton.1 he]
   decide
 ·exact ⟨fun i e hi he=>absurd hi (by simp [ndF,nod0]),by decide,by decide,by decide,by decide,by decide,fun e he=>by simp [ndF,nod0] at he⟩
 ·exact plain0
 ·exact plain0
 ·exact plain0
def StkRet (w:World) (g:GeoQ) (up:List NodV) (ls:List (List NodV)) (e:Ending) (w':World):Prop:=∃AU nU cU AL nL cL,e=.returned (.agg (stkC g (.slice AU nU cU) (.slice AL nL cL)).toArray)∧RdE nodEn w' (Under w'.heap.size) AU nU up∧RdE layEn w' (Under w'.heap.size) AL nL ls∧Below w.heap.size w w'
def AggRet (w:World) (cs:List Value) (e:Ending) (w':World):Prop:=e=.returned (.agg cs.toArray)∧Below w.heap.size w w'
set_option maxRecDepth 100000 in
set_option maxHeartbeats 1600000 in
theorem Dir_any {C:Option Addr} {m d:Nat} (w:World):Calls Tryz.prog 119 #[.slice C m d] w (AggRet w (nodC ndD (.slice none 0 0) (.slice C m d))):=by
 have hz:=RowL.new w 38 (nodC nod0 (.slice none 0 0) (.slice none 0 0))
 have hb:=below_new (below_self w) (.cells (nodC nod0 (.slice none 0 0) (.slice none 0 0)).toArray 38)
 have HZ:=hide hz
 have HB:=hide hb
 clear hz hb
 go_enter Tryz.func119,Tryz.ntmps119
 go_wp2_with (refine wpList_storeW rfl 38 (.tmp 2) (.tmp 4) rfl 13 nod_size w.heap.size 38 rfl (nodC nod0 (.slice none 0 0) (.slice none 0 0)) (nodC ndD (.slice none 0 0) (.slice C m d)) rfl HZ.out rfl rfl (nodC_one _ _ _ _ _ _ _) ?_;intro w9 hr9 hg9 hs9;have HR9:=hide hr9;have HB9:=hide (HB.out.grown hg9 HB.out.size (pu4 (by omega)));clear hr9 hg9 hs9)
 exact bodyPost_ret (res_cell Tryz.results119 rfl nod_agg nod_size HR9.out rfl) rfl ⟨rfl,HB9.out⟩
set_option maxRecDepth 100000 in
theorem lit_nods {c0 c1 c2 c3 c4:List Value} (h0:c0.length=13) (h1:c1.length=13) (h2:c2.length=13) (h3:c3.length=13) (h4:c4.length=13) (W:World):(Instr.buildSlice 24 5 #[(0,.agg c0.toArray),(1,.agg c1.toArray),(2,.agg c2.toArray),(3,.agg c3.toArray),(4,.agg c4.toArray)]).run Tryz.prog W=.ok (.slice (some ⟨W.heap.size,0,none⟩) 5 5) (W.alloc (.cells (c0++(c1++(c2++(c3++c4)))).toArray 38)):=by
 obtain ⟨it,hi,hz,hsz,-⟩:=info_parts nodw_info
 refine run_buildSlice W _ 38 5 _ _ it _ Tryz.underlying24 hi hz (by omega) (by omega) ?_
 rw [hsz]
 have:=Great.fill_whole (s:=13) (by omega) [.agg c0.toArray,.agg c1.toArray,.agg c2.toArray,.agg c3.toArray,.agg c4.toArray] ((Array.range (5*13)).map ((Value.agg nodZ.toArray).cells[· % (Value.agg nodZ.toArray).cells.size]!)) (by intro v hv;simp only [List.mem_cons,List.not_mem_nil,or_false] at hv;rcases hv with rfl|rfl|rfl|rfl|rfl <;> simp [Value.cells,h0,h1,h2,h3,h4]) (by simp)
 simpa [Value.cells] using this
theorem wpList_lit5 {P:Program} {w w':World} {ops:Array Oper} {rest:List Oper} {o:Oper} {a:Act} {Q:Exit→Act→World→Prop} (hgd:o.guard=none) (t:Nat) (x0 x1 x2 x3 x4:Operand) (ho:o.op=.buildSlice t 5 #[(0,x0),(1,x1),(2,x2),(3,x3),(4,x4)]) (v0 v1 v2 v3 v4 v:Value) (h0:a.eval x0=v0) (h1:a.eval x1=v1) (h2:a.eval x2=v2) (h3:a.eval x3=v3) (h4:a.eval x4=v4) (hr:(Instr.buildSlice t 5 #[(0,v0),(1,v1),(2,v2),(3,v3),(4,v4)]).run P w=.ok v w') (hK:wpList P ops Q rest (a.put o.dst v) w'):wpList P ops Q (o::rest) a w:=by
 refine wpList_plain hgd fun K hK'=>?_
 unfold Oper.wp execOp
 simp only [ho,List.map_toArray,List.map_cons,List.map_nil,h0,h1,h2,h3,h4,Sem.run_bind,Sem.run_pure,Result.andThen_ok,hr]
 exact hK' _ _ hK
theorem nods_row {W:World} {D:Nat→Prop} {g:Nat} {c0 c1 c2 c3 c4:List Value} {x0 x1 x2 x3 x4:NodV} (h:RowL W g 38 (c0++(c1++(c2++(c3++c4))))) (hD:D g) (h0:NodR W D c0 x0) (h1:NodR W D c1 x1) (h2:NodR W D c2 x2) (h3:NodR W D c3 x3) (h4:NodR W D c4 x4):RdE nodEn W D (some ⟨g,0,none⟩) 5 [x0,x1,x2,x3,x4]:=by
 have hcs:CellsE nodEn W D [c0,c1,c2,c3,c4] [x0,x1,x2,x3,x4]:=by
  refine ⟨rfl,fun i cs x hc hx=>?_⟩
  have hi:i < 5:=(List.getElem?_eq_some_iff.1 hx).1
  obtain rfl|rfl|rfl|rfl|rfl:i=0∨i=1∨i=2∨i=3∨i=4:=by omega
  all_goals (cases hc;cases hx;assumption)
 refine ⟨rfl,fun _=>⟨g,0,rfl,hD,fun i x hx=>?_⟩⟩
 have hi:i < 5:=(List.getElem?_eq_some_iff.1 hx).1
 have hc:[c0,c1,c2,c3,c4][i]?=some ([c0,c1,c2,c3,c4][i]'hi):=List.getElem?_eq_getElem (l:=[c0,c1,c2,c3,c4]) hi
 have hR:=hcs.2 i _ x hc hx
 refine ⟨_,hR,fun j v hv=>?_⟩
 have hj:j < 13:=by have:=(List.getElem?_eq_some_iff.1 hv).1;have h13:=nodEn.len hR;rw [h13] at this;exact this
 rw [Nat.zero_add,h.cell]
 have:=flat_get hcs.lens hc hj
 rw [show [c0,c1,c2,c3,c4].flatten=c0++(c1++(c2++(c3++c4))) from by simp] at this
 exact this.trans hv
theorem nod0R (W:World) (D:Nat→Prop):NodR W D (nodC nod0 (.slice none 0 0) (.slice none 0 0)) nod0:=⟨none,0,0,none,0,0,rfl,Nat.le_refl _,RdE.none_ _ _ _ _,Nat.le_refl _,RdE.none_ _ _ _ _⟩
theorem ndDR (W:World) (D:Nat→Prop):NodR W D (nodC ndD (.slice none 0 0) (.slice none 0 0)) ndD:=⟨none,0,0,none,0,0,rfl,Nat.le_refl _,RdE.none_ _ _ _ _,Nat.le_refl _,RdE.none_ _ _ _ _⟩
theorem lay_row {W:World} {D:Nat→Prop} {g t n c:Nat} {A:Option Addr} {ns:List NodV} (h:RowL W g t [.slice A n c]) (hD:D g) (hc:n≤c) (hr:RdE nodEn W D A n ns):RdE layEn W D (some ⟨g,0,none⟩) 1 [ns]:=by
 refine ⟨rfl,fun _=>⟨g,0,rfl,hD,fun i x hx=>?_⟩⟩
 have hi:i=0:=by have:=(List.getElem?_eq_some_iff.1 hx).1;simpa using this
 subst hi
 cases hx
 refine ⟨[.slice A n c],⟨A,n,c,rfl,hc,hr⟩,fun j v hv=>?_⟩
 rw [Nat.zero_mul,Nat.zero_add,Nat.zero_add]
 exact (h.cell j).trans hv
def Fr (base:Nat) (W:World) (b:Nat):Prop:=base≤b∧b < W.heap.size
theorem RdE.onF {α:Type} {E:Enc α} {W W':World} {base n:Nat} {A:Option Addr} {l:List α} (h:RdE E W (Fr base W) A n l) (hb:Below W.heap.size W W'):RdE E W' (Fr base W') A n l:=h.mono (fun b hb'=>hb.block b hb'.2) (fun _ hb'=>⟨hb'.1,Nat.lt_of_lt_of_le hb'.2 hb.size⟩)
theorem RdE.grF {α:Type} {E:Enc α} {W W':World} {base n g:Nat} {A:Option Addr} {l:List α} (h:RdE E W (Fr base W) A n l) (hg:W.grownBy W' (some g)) (hgb:g < base):RdE E W' (Fr base W') A n l:=h.mono (fun b hb'=>hg.block b hb'.2 (fun e=>by have:=Option.some.inj e;have:=hb'.1;omega)) (fun _ hb'=>⟨hb'.1,Nat.lt_of_lt_of_le hb'.2 hg.size⟩)
theorem wpList_lit5N {w : World} {ops : Array Oper} {rest : List Oper} {o : Oper} {a : Act} {Q : Exit → Act → World → Prop} (hgd : o.guard = none) (x0 x1 x2 x3 x4 : Operand) (ho : o.op = .buildSlice 24 5 #[(0, x0), (1, x1), (2, x2), (3, x3), (4, x4)]) {c0 c1 c2 c3 c4 : List Value} (h0 : a.eval x0 = .agg c0.toArray) (h1 : a.eval x1 = .agg c1.toArray) (h2 : a.eval x2 = .agg c2.toArray) (h3 : a.eval x3 = .agg c3.toArray) (h4 : a.eval x4 = .agg c4.toArray) (k0 : c0.length = 13) (k1 : c1.length = 13) (k2 : c2.length = 13) (k3 : c3.length = 13) (k4 : c4.length = 13)
  (hK:∀w',RowL w' w.heap.size 38 (c0++(c1++(c2++(c3++c4))))→Below w.heap.size w w'→wpList Tryz.prog ops Q rest (a.put o.dst (.slice (some ⟨w.heap.size,0,none⟩) 5 5)) w'):wpList Tryz.prog ops Q (o::rest) a w :=
 wpList_lit5 hgd 24 x0 x1 x2 x3 x4 ho _ _ _ _ _ _ h0 h1 h2 h3 h4 (lit_nods k0 k1 k2 k3 k4 w) (hK _ (RowL.new w 38 _) (below_new (below_self w) _))
theorem byte_row {W:World} {D:Nat→Prop} {g t:Nat} {l:List UInt8} (h:RowL W g t (bvs l)) (hD:D g):RdE Enc.byte W D (some ⟨g,0,none⟩) l.length l :=
 RdE.of_bs (B:=W.heap.size) ⟨rfl,fun _=>⟨g,0,rfl,h.lt,fun i x hx=>by rw [Nat.zero_add,h.cell];exact bvs_get hx⟩⟩ (fun _ a ha=>by cases ha;exact hD)
end Go.Proofs.YtfdbhldnohaopaaGreat

namespace Go.Proofs.YtfdbhldnohaopaaGreat
open Go.RowKit Go.Shelf Plain

def viewEn : Enc ViewV where
 k:=2
 R:=fun w D cs v=>∃A c,cs=viwC v.1 (.slice A v.2.length c)∧RdE prEn w D A v.2.length v.2
 len:=fun ⟨_,_,h,_⟩=>by rw [h];rfl
 one:=fun ⟨_,_,h,_⟩ v hv=>by rw [h] at hv;exact viwC_one _ _ _ _ v hv
 mono:=fun ⟨A,c,h,hr⟩ hk hD=>⟨A,c,h,hr.mono hk hD⟩
def zviw:Value:=.agg #[.int .i64 0,.slice none 0 0]
set_option maxRecDepth 100000 in
theorem viw_info:(Tryz.prog.info? 47).map (fun i=>(i.zero,i.size,i.bytes))=some (some zviw,2,32):=by kernel_rfl
theorem lit_viw (u:Int) (A:Option Addr) (n c:Nat) (W:World):(Instr.buildSlice 98 1 #[(0,.agg (viwC u (.slice A n c)).toArray)]).run Tryz.prog W=.ok (.slice (some ⟨W.heap.size,0,none⟩) 1 1) (W.alloc (.cells (viwC u (.slice A n c)).toArray 47)):=by
 obtain ⟨it,hi,hz,hsz,-⟩:=info_parts viw_info
 refine run_buildSlice W _ 47 1 _ _ it zviw Tryz.underlying98 hi hz (by omega) (by omega) ?_
 rw [hsz]
 have:=Great.fill_whole (s:=2) (by omega) [.agg (viwC u (.slice A n c)).toArray] ((Array.range (1*2)).map (zviw.cells[· % zviw.cells.size]!)) (by intro v hv;rw [List.mem_singleton] at hv;subst hv;simp [Value.cells,viwC]) (by simp)
 simpa [Value.cells] using this
theorem viw_lit1 (W:World) (v:ViewV) {A:Option Addr} {c lo:Nat} (h:RdE prEn W (fun b=>lo≤b∧b < W.heap.size) A v.2.length v.2) (hlo:lo≤W.heap.size):RdE viewEn (W.alloc (.cells (viwC v.1 (.slice A v.2.length c)).toArray 47)) (fun b=>lo≤b∧b < (W.alloc (.cells (viwC v.1 (.slice A v.2.length c)).toArray 47)).heap.size) (some ⟨W.heap.size,0,none⟩) 1 [v]:=by
 refine ⟨rfl,fun _=>⟨_,_,rfl,⟨hlo,by simp⟩,fun i y hy=>⟨viwC v.1 (.slice A v.2.length c),?_,fun j x hx=>?_⟩⟩⟩
 ·have hi:i=0:=by have:=(List.getElem?_eq_some_iff.1 hy).1;simpa using this
  subst hi
  obtain rfl:v=y:=by simpa using hy
  exact ⟨A,c,rfl,fr_on h (below_new (below_self W) _)⟩
 ·have hi:i=0:=by have:=(List.getElem?_eq_some_iff.1 hy).1;simpa using this
  subst hi
  rw [Nat.zero_mul,Nat.zero_add,Nat.zero_add,(RowL.new W 47 (viwC v.1 (.slice A v.2.length c))).cell]
  exact hx
def TreeF1 (w:World) (e:Ending) (w':World):Prop:=∃A c A' c',e=.returned (.tuple #[.slice A 1 c,.slice A' 1 c'])∧Below w.heap.size w w'
set_option maxRecDepth 100000 in
set_option maxHeartbeats 1200000 in
theorem VTree1_any {g:GeoQ} {AU AL:Option Addr} {nU cU nL cL B:Nat} {up:List NodV} {ls:List (List NodV)} {y:WayV} (hw:(walkW up [1]).1=[y]) (w:World) (hu:RdE nodEn w (Under B) AU nU up) (h:RdE layEn w (Under B) AL nL ls) (hB:B≤w.heap.size) (hF:FewL ls) (hup:FewU up):Calls Tryz.prog 62 #[.agg (stkC g (.slice AU nU cU) (.slice AL nL cL)).toArray] w (TreeF1 w):=by
 obtain ⟨W1,hW1⟩:∃W1,(w.alloc (.cells (stkC g (.slice AU nU cU) (.slice AL nL cL)).toArray 29))=W1:=⟨_,rfl⟩
 obtain ⟨r0,hb1,hs1⟩:=rowA1 w _ _ hW1
 have hW1':(w.alloc (.cells #[.int .i64 g.a,.int .i64 g.b,.int .i64 g.c,.int .i64 g.d,.slice AU nU cU,.slice AL nL cL] 29))=W1:=hW1
 have R1:=hide r0
 have HB:=hide hb1
 have hsz0:=hb1.size
 have HU:=hide (hu.under hb1 hB)
 have HL:=hide (h.under hb1 hB)
 have HF:=hide hF
 have HFU:=hide hup
 have HW:=hide hw
 obtain ⟨V,hV⟩:∃V,rootV up ls=V:=⟨_,rfl⟩
 have HV:=hide hV
 have HINT:=hide (show RdE Enc.int (W1.alloc (.cells #[.int .i64 1] 3)) (Under (W1.alloc (.cells #[.int .i64 1] 3)).heap.size) (some ⟨w.heap.size+1,0,none⟩) 1 [1] from by rw [←hs1];exact int_one W1)
 have q1_4:W1.cell? ⟨w.heap.size,4,none⟩=some (.slice AU nU cU):=R1.out.cell 4
 unfold stkC
 clear r0 hb1 hW1 hu h hF hup hw hV
 go_enter Tryz.func62,Tryz.ntmps62
 go_wp2_with (first|(go_at_call 120;refine (Dirs_any _ (und_up (HU.out.under (below_new (below_self W1) _) (by omega)) (by simp;omega)) HINT.out (plain_many HFU.out.1 HFU.out.2).1 (by omega)).mono ?_;rintro e1 wD ⟨A4,n4,c4,rfl,hc4,h4,hbel0⟩;have hbel:Below W1.heap.size W1 wD:=(below_new (below_self W1) (.cells #[.int .i64 1] 3)).trans (hbel0.mono (by simp));rw [HW.out] at h4;replace h4:=fr_low h4 (lo':=W1.heap.size) (by simp);clear q1_4;replace HB:=hide (HB.out.trans (hbel.mono HB.out.size));replace R1:=hide (R1.out.on hbel);replace HU:=hide (HU.out.under hbel (by omega));replace HL:=hide (HL.out.under hbel (by omega));have hsz1:=hbel.size;have q1_4:wD.cell? ⟨w.heap.size,4,none⟩=some (.slice AU nU cU):=R1.out.cell 4;have H4:=hide h4;clear h4 hbel hbel0))
 have hn4a:n4≤1:=by rw [←H4.out.1];exact Nat.le_refl _
 have hn4b:1≤n4:=by rw [←H4.out.1];exact Nat.le_refl _
 have hWD:W1.heap.size≤wD.heap.size:=by omega
 clear hW1' q1_4
 go_loopw [5,14] (fun v5 v14 wr=>∃j:Nat,j≤1∧v14=.int .i64 j∧(j=0→v5=.slice none 0 0)∧(j=1→∃A c,v5=.slice A 1 c)∧Below wD.heap.size wD wr) (fun _ v14 _=>n4 - (intOf v14).toNat)
 case atStart=>exact ⟨0,by omega,rfl,fun _=>rfl,fun h=>by omega,below_self _⟩
 case round =>
  obtain ⟨j,hj,rfl,h0,h1,hbr⟩:=hrel
  have hbsz:=hbr.size
  replace HB:=hide (HB.out.trans (hbr.mono HB.out.size))
  replace R1:=hide (R1.out.on hbr)
  replace HU:=hide (HU.out.under hbr (by omega))
  replace HL:=hide (HL.out.under hbr (by omega))
  replace H4:=hide (fr_on H4.out hbr)
  have hsz2:=hbr.size
  have HBR:=hide hbr
  clear hbr
  by_cases hlt:j=0
  ·subst hlt
   obtain rfl:=h0 rfl
   have hj0:(0:Int) < (n4:Int):=by omega
   clear h0 h1
   obtain ⟨bW,oW,rfl,hbW,hcW⟩:=way_get H4.out (j:=0) (y:=y) rfl
   have HCW:=hide hcW
   clear hcW
   go_wp2_with (first|(refine wpList_loadX rfl 157 (.tmp 17) rfl 3 way_agg way_size bW (oW+0*3) rfl (wayC y) HCW.out rfl ?_)|(refine wpList_storeW rfl 157 (.tmp 7) (.tmp 18) rfl 3 way_size (wr.heap.size) 157 rfl [.int .i64 0,.int .i64 0,.string ⟨#[]⟩] (wayC y) rfl (RowL.new wr 157 [.int .i64 0,.int .i64 0,.string ⟨#[]⟩]) rfl rfl (wayC_one _) ?_;intro wS61 hr61 hg61 hs61;have hzb:=below_stored' hg61;have HBx:=hide hzb;replace HB:=hide (HB.out.trans (hzb.mono HB.out.size));replace R1:=hide (R1.out.on hzb);replace HU:=hide (HU.out.under hzb (by omega));replace HL:=hide (HL.out.under hzb (by omega));replace H4:=hide (fr_on H4.out hzb);have hsz62:=hzb.size;have RW:=hide hr61;have hlt61:=hr61.lt;have q7_1:wS61.cell? ⟨wr.heap.size,1,none⟩=some (.int .i64 y.up):=RW.out.cell 1;have q7_0:wS61.cell? ⟨wr.heap.size,0,none⟩=some (.int .i64 y.ino):=RW.out.cell 0;have q7_2:wS61.cell? ⟨wr.heap.size,2,none⟩=some (.string ⟨y.name.toArray⟩):=RW.out.cell 2;clear hzb hr61;clear hg61 hs61)|(refine wpList_loadW rfl 29 (.tmp 1) rfl 6 stk_agg stk_size (w.heap.size) 29 rfl (stkC g (.slice AU nU cU) (.slice AL nL cL)) R1.out rfl ?_)|(go_at_call 16;refine (VRoot_e HV.out wS61 HU.out HL.out (by omega) HF.out HFU.out).mono ?_;rintro e63 wR ⟨A6,c6,rfl,h6,hbel⟩;have HBX:=hide (HBx.out.trans (hbel.mono HBx.out.size));clear q7_1 q7_0 q7_2;replace HB:=hide (HB.out.trans (hbel.mono HB.out.size));replace R1:=hide (R1.out.on hbel);replace HU:=hide (HU.out.under hbel (by omega));replace HL:=hide (HL.out.under hbel (by omega));replace H4:=hide (fr_on H4.out hbel);replace RW:=hide (RW.out.on hbel);have hsz64:=hbel.size;have q7_1:wR.cell? ⟨wr.heap.size,1,none⟩=some (.int .i64 y.up):=RW.out.cell 1;have q7_0:wR.cell? ⟨wr.heap.size,0,none⟩=some (.int .i64 y.ino):=RW.out.cell 0;have q7_2:wR.cell? ⟨wr.heap.size,2,none⟩=some (.string ⟨y.name.toArray⟩):=RW.out.cell 2;have H6:=hide h6;clear h6;simp only [viwC];have hlit:(Instr.buildSlice 98 1 #[(0,.agg #[.int .i64 V.1,.slice A6 V.2.length c6])]).run Tryz.prog wR=.ok (.slice (some ⟨wR.heap.size,0,none⟩) 1 1) (wR.alloc (.cells #[.int .i64 V.1,.slice A6 V.2.length c6] 47)):=lit_viw V.1 A6 V.2.length c6 wR;clear hbel)|(at_builtin;refine wpList_append_OwE (E:=viewEn) _ rfl (.tmp 21) (.tmp 24) 98 rfl wS61.heap.size 47 zviw 32 Tryz.underlying98 viw_info rfl (by decide) none 0 0 [] rfl (OwE.nil_ _ _ _ _) (fun b=>wS61.heap.size≤b∧b < (wR.alloc (.cells (viwC V.1 (.slice A6 V.2.length c6)).toArray 47)).heap.size) (some ⟨wR.heap.size,0,none⟩) 1 1 [V] rfl (viw_lit1 wR V H6.out (by omega)) (fun b hb=>⟨⟨hb.2,fun _ _ _ _=>rfl⟩,fun a ha=>by cases ha⟩) 1 rfl (by omega) (by omega) (by simp;omega) ?_;intro A7 c7 w7 ho7 hb7;have HB7:=hide ((HBR.out.trans (HBX.out.mono (by omega))).trans ((((Below.refl wS61.heap.size wR).alloc (by omega) _).trans hb7).mono (by omega)));clear ho7 hb7))
   go_roundw
   case rel=>exact ⟨1,by omega,rfl,fun h=>by omega,fun _=>⟨_,_,rfl⟩,HB7.out⟩
   case measure=>simp [intOf];omega
  ·have hj1:j=1:=by omega
   obtain ⟨A8,c8,rfl⟩:=h1 hj1
   have hj2:¬(j:Int) < (n4:Int):=by omega
   go_wp2_with fail
   go_ret2
   obtain rfl:n4=1:=by omega
   exact ⟨A4,c4,A8,c8,rfl,HB.out⟩
end Go.Proofs.YtfdbhldnohaopaaGreat

