import Derived.Test.YtmhiohnkjpglfaaGreatWs17
import Derived.Test.YtmhiohnkjpglfaaGreatWs1

namespace Go.Proofs.YtmhiohnkjpglfaaGreat
open Go.RowKit Go.Shelf Plain

def ndD:NodV:={nod0 with k:=1,n:=2}
def ndA:NodV:={nod0 with k:=1,n:=2,ents:=[⟨0,2,[97]⟩]}
def ndF:NodV:={nod0 with k:=2,n:=1,g:=3,data:=[120]}
def upB:List NodV:=[ndD,ndD,ndD,nod0,nod0]
def lyB:List NodV:=[ndA,ndF,nod0,nod0,nod0]
def lsB:List (List NodV):=[lyB]
def gB:GeoQ:=⟨1,5,6,5⟩
theorem ba_few:FewL lsB:=by
 refine ⟨by decide,fun ns hns=>?_⟩
 rw [List.mem_singleton.1 hns]
 refine ⟨by decide,fun x hx=>?_⟩
 simp only [lyB,List.mem_cons,List.not_mem_nil,or_false] at hx
 rcases hx with rfl|rfl|rfl|rfl|rfl
 ·refine ⟨fun i e hi he=>?_,by decide,by decide,by decide,by decide,by decide,fun e he=>?_⟩
  ·obtain rfl:i=0:=by have:i < 1:=hi;omega
   cases he
   exact ⟨by decide,by decide,fun p h=>absurd h (by omega)⟩
  ·rw [List.mem_singleton.1 he]
   decide
 ·exact ⟨fun i e hi he=>absurd hi (by simp [ndF,nod0]),by decide,by decide,by decide,by decide,by decide,fun e he=>by simp [ndF,nod0] at he⟩
 ·exact plain0
 ·exact plain0
 ·exact plain0
def StkRet (w:World) (g:GeoQ) (up:List NodV) (ls:List (List NodV)) (e:Ending) (w':World):Prop:=∃AU nU cU AL nL cL,e=.returned (.agg (stkC g (.slice AU nU cU) (.slice AL nL cL)).toArray)∧RdE nodEn w' (Under w'.heap.size) AU nU up∧RdE layEn w' (Under w'.heap.size) AL nL ls∧Below w.heap.size w w'
def AggRet (w:World) (cs:List Value) (e:Ending) (w':World):Prop:=e=.returned (.agg cs.toArray)∧Below w.heap.size w w'
set_option maxRecDepth 100000 in
set_option maxHeartbeats 1600000 in
theorem Dir_any {C:Option Addr} {m d:Nat} (w:World):Calls Tryz.prog 103 #[.slice C m d] w (AggRet w (nodC ndD (.slice none 0 0) (.slice C m d))):=by
 have hz:=RowL.new w 67 (nodC nod0 (.slice none 0 0) (.slice none 0 0))
 have hb:=below_new (below_self w) (.cells (nodC nod0 (.slice none 0 0) (.slice none 0 0)).toArray 67)
 have HZ:=hide hz
 have HB:=hide hb
 clear hz hb
 go_enter Tryz.func103,Tryz.ntmps103
 go_wp2_with (refine wpList_storeW rfl 67 (.tmp 2) (.tmp 4) rfl 13 nod_size w.heap.size 67 rfl (nodC nod0 (.slice none 0 0) (.slice none 0 0)) (nodC ndD (.slice none 0 0) (.slice C m d)) rfl HZ.out rfl rfl (nodC_one _ _ _ _ _ _ _) ?_;intro w9 hr9 hg9 hs9;have HR9:=hide hr9;have HB9:=hide (HB.out.grown hg9 HB.out.size (pu4 (by omega)));clear hr9 hg9 hs9)
 exact bodyPost_ret (res_cell Tryz.results103 rfl nod_agg nod_size HR9.out rfl) rfl ⟨rfl,HB9.out⟩
set_option maxRecDepth 100000 in
theorem lit_nods {c0 c1 c2 c3 c4:List Value} (h0:c0.length=13) (h1:c1.length=13) (h2:c2.length=13) (h3:c3.length=13) (h4:c4.length=13) (W:World):(Instr.buildSlice 24 5 #[(0,.agg c0.toArray),(1,.agg c1.toArray),(2,.agg c2.toArray),(3,.agg c3.toArray),(4,.agg c4.toArray)]).run Tryz.prog W=.ok (.slice (some ⟨W.heap.size,0,none⟩) 5 5) (W.alloc (.cells (c0++(c1++(c2++(c3++c4)))).toArray 67)):=by
 obtain ⟨it,hi,hz,hsz,-⟩:=info_parts nodw_info
 refine run_buildSlice W _ 67 5 _ _ it _ Tryz.underlying24 hi hz (by omega) (by omega) ?_
 rw [hsz]
 have:=Great.fill_whole (s:=13) (by omega) [.agg c0.toArray,.agg c1.toArray,.agg c2.toArray,.agg c3.toArray,.agg c4.toArray] ((Array.range (5*13)).map ((Value.agg nodZ.toArray).cells[· % (Value.agg nodZ.toArray).cells.size]!)) (by intro v hv;simp only [List.mem_cons,List.not_mem_nil,or_false] at hv;rcases hv with rfl|rfl|rfl|rfl|rfl <;> simp [Value.cells,h0,h1,h2,h3,h4]) (by simp)
 simpa [Value.cells] using this
theorem wpList_lit5 {P:Program} {w w':World} {ops:Array Oper} {rest:List Oper} {o:Oper} {a:Act} {Q:Exit→Act→World→Prop} (hgd:o.guard=none) (t:Nat) (x0 x1 x2 x3 x4:Operand) (ho:o.op=.buildSlice t 5 #[(0,x0),(1,x1),(2,x2),(3,x3),(4,x4)]) (v0 v1 v2 v3 v4 v:Value) (h0:a.eval x0=v0) (h1:a.eval x1=v1) (h2:a.eval x2=v2) (h3:a.eval x3=v3) (h4:a.eval x4=v4) (hr:(Instr.buildSlice t 5 #[(0,v0),(1,v1),(2,v2),(3,v3),(4,v4)]).run P w=.ok v w') (hK:wpList P ops Q rest (a.put o.dst v) w'):wpList P ops Q (o::rest) a w:=by
 refine wpList_plain hgd fun K hK'=>?_
 unfold Oper.wp execOp
 simp only [ho,List.map_toArray,List.map_cons,List.map_nil,h0,h1,h2,h3,h4,Sem.run_bind,Sem.run_pure,Result.andThen_ok,hr]
 exact hK' _ _ hK
theorem nods_row {W:World} {D:Nat→Prop} {g:Nat} {c0 c1 c2 c3 c4:List Value} {x0 x1 x2 x3 x4:NodV} (h:RowL W g 67 (c0++(c1++(c2++(c3++c4))))) (hD:D g) (h0:NodR W D c0 x0) (h1:NodR W D c1 x1) (h2:NodR W D c2 x2) (h3:NodR W D c3 x3) (h4:NodR W D c4 x4):RdE nodEn W D (some ⟨g,0,none⟩) 5 [x0,x1,x2,x3,x4]:=by
 have hcs:CellsE nodEn W D [c0,c1,c2,c3,c4] [x0,x1,x2,x3,x4]:=by
  refine ⟨rfl,fun i cs x hc hx=>?_⟩
  have hi:i < 5:=(List.getElem?_eq_some_iff.1 hx).1
  obtain rfl|rfl|rfl|rfl|rfl:i=0∨i=1∨i=2∨i=3∨i=4:=by omega
  all_goals (cases hc;cases hx;assumption)
 refine ⟨rfl,fun _=>⟨g,0,rfl,hD,fun i x hx=>?_⟩⟩
 have hi:i < 5:=(List.getElem?_eq_some_iff.1 hx).1
 have hc:[c0,c1,c2,c3,c4][i]?=some ([c0,c1,c2,c3,c4][i]'hi):=List.getElem?_eq_getElem (l:=[c0,c1,c2,c3,c4]) hi
 have hR:=hcs.2 i _ x hc hx
 refine ⟨_,hR,fun j v hv=>?_⟩
 have hj:j < 13:=by have:=(List.getElem?_eq_some_iff.1 hv).1;have h13:=nodEn.len hR;rw [h13] at this;exact this
 rw [Nat.zero_add,h.cell]
 have:=flat_get hcs.lens hc hj
 rw [show [c0,c1,c2,c3,c4].flatten=c0++(c1++(c2++(c3++c4))) from by simp] at this
 exact this.trans hv
theorem nod0R (W:World) (D:Nat→Prop):NodR W D (nodC nod0 (.slice none 0 0) (.slice none 0 0)) nod0:=⟨none,0,0,none,0,0,rfl,Nat.le_refl _,RdE.none_ _ _ _ _,Nat.le_refl _,RdE.none_ _ _ _ _⟩
theorem ndDR (W:World) (D:Nat→Prop):NodR W D (nodC ndD (.slice none 0 0) (.slice none 0 0)) ndD:=⟨none,0,0,none,0,0,rfl,Nat.le_refl _,RdE.none_ _ _ _ _,Nat.le_refl _,RdE.none_ _ _ _ _⟩
theorem lay_row {W:World} {D:Nat→Prop} {g t n c:Nat} {A:Option Addr} {ns:List NodV} (h:RowL W g t [.slice A n c]) (hD:D g) (hc:n≤c) (hr:RdE nodEn W D A n ns):RdE layEn W D (some ⟨g,0,none⟩) 1 [ns]:=by
 refine ⟨rfl,fun _=>⟨g,0,rfl,hD,fun i x hx=>?_⟩⟩
 have hi:i=0:=by have:=(List.getElem?_eq_some_iff.1 hx).1;simpa using this
 subst hi
 cases hx
 refine ⟨[.slice A n c],⟨A,n,c,rfl,hc,hr⟩,fun j v hv=>?_⟩
 rw [Nat.zero_mul,Nat.zero_add,Nat.zero_add]
 exact (h.cell j).trans hv
def Fr (base:Nat) (W:World) (b:Nat):Prop:=base≤b∧b < W.heap.size
theorem RdE.onF {α:Type} {E:Enc α} {W W':World} {base n:Nat} {A:Option Addr} {l:List α} (h:RdE E W (Fr base W) A n l) (hb:Below W.heap.size W W'):RdE E W' (Fr base W') A n l:=h.mono (fun b hb'=>hb.block b hb'.2) (fun _ hb'=>⟨hb'.1,Nat.lt_of_lt_of_le hb'.2 hb.size⟩)
theorem RdE.grF {α:Type} {E:Enc α} {W W':World} {base n g:Nat} {A:Option Addr} {l:List α} (h:RdE E W (Fr base W) A n l) (hg:W.grownBy W' (some g)) (hgb:g < base):RdE E W' (Fr base W') A n l:=h.mono (fun b hb'=>hg.block b hb'.2 (fun e=>by have:=Option.some.inj e;have:=hb'.1;omega)) (fun _ hb'=>⟨hb'.1,Nat.lt_of_lt_of_le hb'.2 hg.size⟩)
theorem RdE.unF {α:Type} {E:Enc α} {W:World} {base n:Nat} {A:Option Addr} {l:List α} (h:RdE E W (Fr base W) A n l):RdE E W (Under W.heap.size) A n l:=h.mono (fun _ _=>rfl) (fun _ hb=>hb.2)
theorem wpList_lit5N {w : World} {ops : Array Oper} {rest : List Oper} {o : Oper} {a : Act} {Q : Exit → Act → World → Prop} (hgd : o.guard = none) (x0 x1 x2 x3 x4 : Operand) (ho : o.op = .buildSlice 24 5 #[(0, x0), (1, x1), (2, x2), (3, x3), (4, x4)]) {c0 c1 c2 c3 c4 : List Value} (h0 : a.eval x0 = .agg c0.toArray) (h1 : a.eval x1 = .agg c1.toArray) (h2 : a.eval x2 = .agg c2.toArray) (h3 : a.eval x3 = .agg c3.toArray) (h4 : a.eval x4 = .agg c4.toArray) (k0 : c0.length = 13) (k1 : c1.length = 13) (k2 : c2.length = 13) (k3 : c3.length = 13) (k4 : c4.length = 13)
  (hK:∀w',RowL w' w.heap.size 67 (c0++(c1++(c2++(c3++c4))))→Below w.heap.size w w'→wpList Tryz.prog ops Q rest (a.put o.dst (.slice (some ⟨w.heap.size,0,none⟩) 5 5)) w'):wpList Tryz.prog ops Q (o::rest) a w :=
 wpList_lit5 hgd 24 x0 x1 x2 x3 x4 ho _ _ _ _ _ _ h0 h1 h2 h3 h4 (lit_nods k0 k1 k2 k3 k4 w) (hK _ (RowL.new w 67 _) (below_new (below_self w) _))
theorem byte_row {W:World} {D:Nat→Prop} {g t:Nat} {l:List UInt8} (h:RowL W g t (bvs l)) (hD:D g):RdE Enc.byte W D (some ⟨g,0,none⟩) l.length l :=
 RdE.of_bs (B:=W.heap.size) ⟨rfl,fun _=>⟨g,0,rfl,h.lt,fun i x hx=>by rw [Nat.zero_add,h.cell];exact bvs_get hx⟩⟩ (fun _ a ha=>by cases ha;exact hD)
set_option maxRecDepth 100000 in
set_option maxHeartbeats 1000000 in
theorem Base_any (w:World):Calls Tryz.prog 77 #[] w (StkRet w gB upB lsB):=by
 obtain ⟨r0,r1,hb2,hs2⟩:=rows2 w (stkC ⟨0,0,0,0⟩ (.slice none 0 0) (.slice none 0 0)) (stkC ⟨0,0,0,0⟩ (.slice none 0 0) (.slice none 0 0)) 29 29
 have R0:=hide r0
 have R1:=hide r1
 have HB2:=hide hb2
 clear r0 r1 hb2 hs2
 go_enter Tryz.func77,Tryz.ntmps77
 go_wp2_with (refine wpList_storeW rfl 29 (.tmp 1) (.tmp 3) rfl 6 stk_size (w.heap.size+1) 29 rfl (stkC ⟨0,0,0,0⟩ (.slice none 0 0) (.slice none 0 0)) (stkC gB (.slice none 0 0) (.slice none 0 0)) rfl R1.out rfl rfl (by simp [stkC,Value.oneCell']) ?_;intro w3 hr3 hg3 hs3;have R3:=hide hr3;have R03:=hide (R0.out.grown hg3 (pu5 (by omega)));have HB3:=hide (HB2.out.grown hg3 HB2.out.size (pu4 (by omega)));have hl3:=hr3.lt;have HE3:=hide (RowL.new w3 75 (flatE [⟨0,2,[97]⟩]));have hbe:=below_new (below_self w3) (.cells (flatE [⟨0,2,[97]⟩]).toArray 75);have HBE:=hide hbe;clear hr3 hg3 hs3 hbe)
 refine (Dir_any _).mono ?_
 rintro ez w4 ⟨rfl,hb4⟩
 have HE4:=hide (HE3.out.on hb4)
 have HB4:=hide ((HB3.out.trans (HBE.out.mono HB3.out.size)).trans (hb4.mono (Nat.le_trans HB3.out.size HBE.out.size)))
 have hbe4:=HBE.out.trans (hb4.mono HBE.out.size)
 have HR34:=hide (R3.out.on hbe4)
 have HR04:=hide (R03.out.on hbe4)
 have q5:w4.cell? ⟨w.heap.size+1,5,none⟩=some (.slice none 0 0):=HR34.out.cell 5
 have f5:w4.frozen? ⟨w.heap.size+1,5,none⟩=false:=HR34.out.frozen 5
 have hl4:w.heap.size+1 < w4.heap.size:=HR34.out.lt
 have hl34:=HE4.out.lt
 clear hb4 hbe4
 have HRU:=hide (RowL.new w4 5 [.int .u8 120])
 have HBU:=hide (below_new (below_self w4) (.cells #[.int .u8 120] 5))
 go_wp2_with (first|(refine wpList_lit5N (w:=w4.alloc (.cells #[.int .u8 120] 5)) rfl (.tmp 6) (.tmp 8) (.tmp 9) (.tmp 10) (.tmp 11) rfl (c0:=nodC ndD (.slice none 0 0) (.slice (some ⟨w3.heap.size,0,none⟩) 1 1)) (c1:=nodC ndF (.slice (some ⟨w4.heap.size,0,none⟩) 1 1) (.slice none 0 0)) (c2:=nodC nod0 (.slice none 0 0) (.slice none 0 0)) (c3:=nodC nod0 (.slice none 0 0) (.slice none 0 0)) (c4:=nodC nod0 (.slice none 0 0) (.slice none 0 0)) rfl rfl rfl rfl rfl rfl rfl rfl rfl rfl ?_;intro w6 hr6 hb6;simp only [World.size_alloc] at hr6;have HR6:=hide hr6;have HB6:=hide (HBU.out.trans (hb6.mono HBU.out.size));have HRU6:=hide (HRU.out.on hb6);have q56:w6.cell? ⟨w.heap.size+1,5,none⟩=some (.slice none 0 0):=(HB6.out.cell (p:=⟨w.heap.size+1,5,none⟩) hl4).trans q5;have f56:w6.frozen? ⟨w.heap.size+1,5,none⟩=false:=(HB6.out.frozen (p:=⟨w.heap.size+1,5,none⟩) hl4).trans f5;have hl6:w.heap.size+1 < w6.heap.size:=Nat.lt_of_lt_of_le hl4 HB6.out.size;clear hr6 hb6)|fail)
 have hw2:w.heap.size+2≤w3.heap.size:=by have:=R3.out.lt;omega
 have hs34:w3.heap.size < w4.heap.size:=hl34
 have hs46:=HB6.out.size
 have hr6l:=HR6.out.lt
 have hg7:=grown_cell w6 (w.heap.size+1) 5 (.slice (some ⟨w6.heap.size,0,none⟩) 1 1)
 have n6:RdE nodEn w6 (Fr (w.heap.size+2) w6) (some ⟨w4.heap.size+1,0,none⟩) 5 lyB:=nods_row HR6.out ⟨by omega,hr6l⟩ ⟨none,0,0,_,1,1,rfl,Nat.le_refl _,RdE.none_ _ _ _ _,Nat.le_refl _,ent_row (HE4.out.on HB6.out) ⟨by omega,by omega⟩⟩ ⟨_,1,1,none,0,0,rfl,Nat.le_refl _,byte_row (l:=[120]) HRU6.out ⟨by omega,by omega⟩,Nat.le_refl _,RdE.none_ _ _ _ _⟩ (nod0R _ _) (nod0R _ _) (nod0R _ _)
 have n7:=n6.grF hg7 (by omega)
 have x7:RowL (w6.setCell ⟨w.heap.size+1,5,none⟩ (.slice (some ⟨w6.heap.size,0,none⟩) 1 1)) (w.heap.size+1) 29 (stkC gB (.slice none 0 0) (.slice (some ⟨w6.heap.size,0,none⟩) 1 1)):=(HR34.out.on HB6.out).set_ 5 _
 have y7:=(HR04.out.on HB6.out).grown hg7 (pu5 (by omega))
 have hs7:(w6.setCell ⟨w.heap.size+1,5,none⟩ (.slice (some ⟨w6.heap.size,0,none⟩) 1 1)).heap.size=w6.heap.size:=by simp [World.setCell]
 have hb7:Below w.heap.size w (w6.setCell ⟨w.heap.size+1,5,none⟩ (.slice (some ⟨w6.heap.size,0,none⟩) 1 1)):=(HB4.out.trans (HB6.out.mono (by omega))).setCell (p:=⟨w.heap.size+1,5,none⟩) (by show w.heap.size≤w.heap.size+1;omega) _
 clear q5 f5 hl4 hg7 n6
 refine (Dir_any _).mono ?_
 rintro ez w9 ⟨rfl,hb9⟩
 generalize w6.setCell ⟨w.heap.size+1,5,none⟩ (.slice (some ⟨w6.heap.size,0,none⟩) 1 1)=w7 at *
 have r8:=RowL.new w7 26 [Value.slice (some ⟨w4.heap.size+1,0,none⟩) 5 5]
 have b8:=below_new (below_self w7) (.cells [Value.slice (some ⟨w4.heap.size+1,0,none⟩) 5 5].toArray 26)
 have l8:RdE layEn (w7.alloc (.cells [Value.slice (some ⟨w4.heap.size+1,0,none⟩) 5 5].toArray 26)) (Fr (w.heap.size+2) (w7.alloc (.cells [Value.slice (some ⟨w4.heap.size+1,0,none⟩) 5 5].toArray 26))) (some ⟨w6.heap.size,0,none⟩) 1 lsB:=lay_row (by rw [←hs7];exact r8) ⟨by omega,by simp;omega⟩ (Nat.le_refl _) (n7.onF b8)
 have X9:=hide ((x7.on b8).on hb9)
 have Y9:=hide ((y7.on b8).on hb9)
 have L9:=hide (l8.onF hb9)
 have B9:=hide ((hb7.trans (b8.mono hb7.size)).trans (hb9.mono (Nat.le_trans hb7.size b8.size)))
 clear r8 b8 l8 x7 y7 n7 hb7 hb9 hs7
 go_wp2_with fail
 refine (Dir_any _).mono ?_
 rintro ez w10 ⟨rfl,hb10⟩
 have HB10:=hide hb10
 clear hb10
 go_wp2_with fail
 refine (Dir_any _).mono ?_
 rintro ez w11 ⟨rfl,hb11⟩
 have HB11:=hide (HB10.out.trans (hb11.mono HB10.out.size))
 clear hb11
 go_wp2_with (first|(refine wpList_lit5N (w:=w11) rfl (.tmp 16) (.tmp 17) (.tmp 18) (.tmp 19) (.tmp 20) rfl (c0:=nodC ndD (.slice none 0 0) (.slice none 0 0)) (c1:=nodC ndD (.slice none 0 0) (.slice none 0 0)) (c2:=nodC ndD (.slice none 0 0) (.slice none 0 0)) (c3:=nodC nod0 (.slice none 0 0) (.slice none 0 0)) (c4:=nodC nod0 (.slice none 0 0) (.slice none 0 0)) rfl rfl rfl rfl rfl rfl rfl rfl rfl rfl ?_;intro w12 hr12 hb12;have HR12:=hide hr12;have HB12:=hide (HB11.out.trans (hb12.mono HB11.out.size));have hl12:=hr12.lt;clear hr12 hb12)|(refine wpList_storeC rfl 26 (.tmp 23) (.tmp 22) rfl 1 lay_size (w.heap.size+1) 4 29 rfl (stkC gB (.slice none 0 0) (.slice (some ⟨w6.heap.size,0,none⟩) 1 1)) [.slice (some ⟨w11.heap.size,0,none⟩) 5 5] rfl (X9.out.on HB12.out) rfl (by simp [stkC]) (by simp [Value.oneCell']) ?_;intro w13 hr13 hg13 hs13;have HX13:=hide (show RowL w13 (w.heap.size+1) 29 (stkC gB (.slice (some ⟨w11.heap.size,0,none⟩) 5 5) (.slice (some ⟨w6.heap.size,0,none⟩) 1 1)) from hr13);have HG13:=hide hg13;clear hr13 hg13)|(refine wpList_loadW rfl 29 (.tmp 1) rfl 6 stk_agg stk_size (w.heap.size+1) 29 rfl (stkC gB (.slice (some ⟨w11.heap.size,0,none⟩) 5 5) (.slice (some ⟨w6.heap.size,0,none⟩) 1 1)) HX13.out rfl ?_)|(refine wpList_storeW rfl 29 (.tmp 0) (.tmp 24) rfl 6 stk_size w.heap.size 29 rfl (stkC ⟨0,0,0,0⟩ (.slice none 0 0) (.slice none 0 0)) (stkC gB (.slice (some ⟨w11.heap.size,0,none⟩) 5 5) (.slice (some ⟨w6.heap.size,0,none⟩) 1 1)) rfl ((Y9.out.on HB12.out).grown HG13.out (pu5 (by omega))) rfl rfl (by simp [stkC,Value.oneCell']) ?_;intro w14 hr14 hg14 hs14;have HR14:=hide hr14;have HG14:=hide hg14;clear hr14 hg14)|fail)
 have hx9:=X9.out.lt
 have hs9:=B9.out.size
 have hs12:=HB12.out.size
 have hs11:=HB11.out.size
 have u12:RdE nodEn w12 (Fr (w.heap.size+2) w12) (some ⟨w11.heap.size,0,none⟩) 5 upB:=nods_row HR12.out ⟨by omega,hl12⟩ (ndDR _ _) (ndDR _ _) (ndDR _ _) (nod0R _ _) (nod0R _ _)
 have l12:=L9.out.onF HB12.out
 exact bodyPost_ret (res_cell Tryz.results77 rfl stk_agg stk_size HR14.out rfl) rfl ⟨_,5,5,_,1,1,rfl,((u12.grF HG13.out (by omega)).grF HG14.out (by omega)).unF,((l12.grF HG13.out (by omega)).grF HG14.out (by omega)).unF,((B9.out.trans (HB12.out.mono hs9)).grown HG13.out (by omega) (pu4 (by omega))).grown HG14.out (by have:=HG13.out.size;omega) (pu4 (by omega))⟩
end Go.Proofs.YtmhiohnkjpglfaaGreat

namespace Go.Proofs.YtmhiohnkjpglfaaGreat
open Go.RowKit Go.Shelf Plain

theorem rootsL_len : ∀ (ls : List (List NodV)) (j : Nat), (rootsL ls j).length ≤ ls.length
 | [],j=>by simp [rootsL]
 | ns::r,j=>by
  have:=rootsL_len r (j+1)
  unfold rootsL
  split
  ·split <;> simp <;> omega
  ·simp;omega
theorem lookL_len (ls : List (List NodV)) : ∀ (l : List (Int × Int)) (ns : List (List UInt8)), ((lookL ls l ns).getD []).length ≤ l.length
 | l,[]=>by simp [lookL]
 | l,x::r=>by
  unfold lookL
  have h1:=findL_len ls x l []
  split
  ·have:=lookL_len ls (findL ls x l []).2 r
   simp at h1
   omega
  ·simp
end Go.Proofs.YtmhiohnkjpglfaaGreat

namespace Go.Proofs.YtmhiohnkjpglfaaGreat.Plain
def stepJ (s:List UInt8×Bool) (x:List UInt8):List UInt8×Bool:=((if s.2=true then s.1 else s.1++[47])++x,false)
def joinS (l:List (List UInt8)):List UInt8:=(l.foldl stepJ ([47],true)).1
def totL (l:List (List UInt8)):Nat:=(l.map fun x=>x.length+1).sum
theorem totL_snoc (l:List (List UInt8)) (x:List UInt8):totL (l++[x])=totL l+(x.length+1):=by simp [totL]
theorem totL_append (a b:List (List UInt8)):totL (a++b)=totL a+totL b:=by simp [totL]
theorem totL_take (l:List (List UInt8)) (k:Nat):totL (l.take k)≤totL l:=by
 have h:=totL_append (l.take k) (l.drop k)
 rw [List.take_append_drop] at h
 omega
theorem flagJ (l:List (List UInt8)):(l.foldl stepJ ([47],true)).2=decide (l.length=0):=by
 suffices h:∀(l:List (List UInt8)) (s:List UInt8×Bool),(l.foldl stepJ s).2=(s.2&&decide (l.length=0)) from by rw [h];simp
 intro l
 induction l with
 | nil=>intro s;simp
 | cons x r ih=>intro s;rw [List.foldl_cons,ih];simp [stepJ]
theorem joinS_snoc (l:List (List UInt8)) (x:List UInt8):joinS (l++[x])=(if l.length=0 then joinS l else joinS l++[47])++x:=by
 unfold joinS
 rw [List.foldl_append,List.foldl_cons,List.foldl_nil]
 show (if (l.foldl stepJ ([47],true)).2=true then _ else _)++x=_
 rw [flagJ]
 simp
theorem joinS_length (l:List (List UInt8)):(joinS l).length≤1+totL l:=by
 suffices h:∀(l:List (List UInt8)) (s:List UInt8×Bool),((l.foldl stepJ s).1).length≤s.1.length+totL l from h l ([47],true)
 intro l
 induction l with
 | nil=>intro s;simp
 | cons x r ih =>
  intro s
  rw [List.foldl_cons]
  have h1:=ih (stepJ s x)
  have h2:(stepJ s x).1.length≤s.1.length+(x.length+1):=by
   unfold stepJ
   simp only [List.length_append]
   split <;> simp <;> omega
  have h3:totL (x::r)=(x.length+1)+totL r:=by simp [totL]
  omega
def stepP (o:List (List UInt8)) (c:UInt8):List (List UInt8):=if c=47 then o++[[]] else o.set (o.length - 1) (o.getD (o.length - 1) []++[c])
def partsTo (s:List UInt8) (j:Nat):List (List UInt8):=((s.take j).drop 1).foldl stepP [[]]
def partsS (s:List UInt8):List (List UInt8):=(s.drop 1).foldl stepP [[]]
theorem partsTo_all {s:List UInt8} {j:Nat} (h:s.length≤j):partsTo s j=partsS s:=by
 unfold partsTo partsS
 rw [List.take_of_length_le h]
theorem stepP_length (o:List (List UInt8)) (c:UInt8):(stepP o c).length=if c=47 then o.length+1 else o.length:=by
 unfold stepP
 split <;> simp
theorem partsTo_len (s:List UInt8) (j:Nat):1≤(partsTo s j).length∧(partsTo s j).length≤1+j∧∀y∈partsTo s j,y.length≤j:=by
 unfold partsTo
 suffices h:∀(r:List UInt8) (o:List (List UInt8)) (b:Nat),1≤o.length→(∀y∈o,y.length≤b) →
   1≤(r.foldl stepP o).length∧(r.foldl stepP o).length≤o.length+r.length∧∀y∈r.foldl stepP o,y.length≤b+r.length by
  have hl:((s.take j).drop 1).length≤j:=by simp;omega
  obtain ⟨h1,h2,h3⟩:=h ((s.take j).drop 1) [[]] 0 (by simp) (by simp)
  refine ⟨h1,by simp only [List.length_singleton] at h2;omega,fun y hy=>?_⟩
  have:=h3 y hy
  omega
 intro r
 induction r with
 | nil=>intro o b h1 h2;exact ⟨h1,by simp,fun y hy=>by have:=h2 y hy;simpa using this⟩
 | cons c r ih =>
  intro o b h1 h2
  rw [List.foldl_cons]
  have h3:∀y∈stepP o c,y.length≤b+1:=by
   intro y hy
   unfold stepP at hy
   split at hy
   ·rw [List.mem_append] at hy
    rcases hy with hy|hy
    ·have:=h2 y hy;omega
    ·simp at hy;subst hy;simp
   ·rcases List.mem_or_eq_of_mem_set hy with hy|hy
    ·have:=h2 y hy;omega
    ·subst hy
     have hm:o.getD (o.length - 1) []∈o:=by
      simp only [List.getD]
      rw [List.getElem?_eq_getElem (by omega)]
      exact List.getElem_mem (by omega)
     have:=h2 _ hm
     rw [List.length_append,List.length_singleton]
     omega
  have h4:=stepP_length o c
  obtain ⟨a1,a2,a3⟩:=ih (stepP o c) (b+1) (by rw [h4];split <;> omega) h3
  refine ⟨a1,?_,fun y hy=>?_⟩
  ·rw [List.length_cons]
   have:(stepP o c).length≤o.length+1:=by rw [h4];split <;> omega
   omega
  ·have:=a3 y hy
   rw [List.length_cons]
   omega
theorem partsS_len (s:List UInt8):(partsS s).length≤1+s.length∧∀y∈partsS s,y.length≤s.length:=by
 have h:=partsTo_len s s.length
 rw [partsTo_all (Nat.le_refl _)] at h
 exact h.2
def headB (s:List UInt8):Bool:=match s with|[]=>false|c::_=>c==47
def splitB (s:List UInt8):Bool:=s==[47]||(headB s&&(partsS s).all nameB)
def splitS (s:List UInt8):List (List UInt8):=if s=[47] then [] else if (headB s&&(partsS s).all nameB)=true then partsS s else []
def stepC (o:Option (List (List UInt8))) (y:List UInt8):Option (List (List UInt8)) :=
 match o with
 | none=>none
 | some o=>if y=[]∨y=[46] then some o else if y=[46,46] then (if o=[] then none else some o.dropLast) else if nameB y=true then some (o++[y]) else none
def leftS (l:List (List UInt8)):Option (List (List UInt8)):=l.foldl stepC (some [])
theorem leftS_snoc (l:List (List UInt8)) (y:List UInt8):leftS (l++[y])=stepC (leftS l) y:=by simp [leftS]
def cleanB (s:List UInt8):Bool:=headB s&&(leftS (partsS s)).isSome
def cleanS (s:List UInt8):List UInt8:=if headB s=true then (match leftS (partsS s) with|none=>[]|some o=>joinS o) else []
theorem leftS_len (l:List (List UInt8)):∀o,leftS l=some o→o.length≤l.length∧totL o≤totL l:=by
 suffices h:∀(l:List (List UInt8)) (o0:List (List UInt8)),∀o,l.foldl stepC (some o0)=some o→o.length≤o0.length+l.length∧totL o≤totL o0+totL l by
  intro o ho
  have:=h l [] o ho
  simpa [totL] using this
 intro l
 induction l with
 | nil=>intro o0 o ho;cases ho;exact ⟨Nat.le_refl _,Nat.le_refl _⟩
 | cons y r ih =>
  intro o0 o ho
  rw [List.foldl_cons] at ho
  have hy:totL (y::r)=(y.length+1)+totL r:=by simp [totL]
  rw [hy,List.length_cons]
  unfold stepC at ho
  simp only at ho
  split at ho
  ·have:=ih _ _ ho;omega
  ·split at ho
   ·split at ho
    ·exfalso
     clear ih hy
     induction r with
     | nil=>cases ho
     | cons z r ih2=>exact ih2 ho
    ·have h1:=ih _ _ ho
     have h2:totL o0.dropLast≤totL o0:=by rw [List.dropLast_eq_take];exact totL_take _ _
     rw [List.length_dropLast] at h1
     omega
   ·split at ho
    ·have h1:=ih _ _ ho
     rw [totL_snoc,List.length_append,List.length_singleton] at h1
     omega
    ·exfalso
     clear ih hy
     induction r with
     | nil=>cases ho
     | cons z r ih2=>exact ih2 ho
theorem totL_le {l:List (List UInt8)} {b:Nat} (h:∀y∈l,y.length≤b):totL l≤l.length*(b+1):=by
 induction l with
 | nil=>simp [totL]
 | cons y r ih =>
  have h1:=ih (fun z hz=>h z (List.mem_cons_of_mem _ hz))
  have h2:=h y (List.mem_cons_self)
  have:totL (y::r)=(y.length+1)+totL r:=by simp [totL]
  rw [this,List.length_cons,Nat.add_mul]
  omega
def redL (s:List UInt8):List (List UInt8):=if 24 < s.length then [] else if headB s=true then splitS s else if nameB s=true then [s] else []
def redA (s:List UInt8):Bool:=if 24 < s.length then false else if headB s=true then splitB s else false
def redB (s:List UInt8):Bool:=if 24 < s.length then false else if headB s=true then splitB s else nameB s
end Go.Proofs.YtmhiohnkjpglfaaGreat.Plain

namespace Go.Proofs.YtmhiohnkjpglfaaGreat
open Go.RowKit Plain

def opqD (x:NodV):Bool:=decide (x.k=1)&&opq x
abbrev ViewV:=Int×List (Int×Int)
def benV (ls:List (List NodV)) (vl:List (Int×Int)) (nm:List UInt8):List (Int×Int):=if (findL ls nm vl []).1=1 then (findL ls nm vl []).2 else []
def rootV (up:List NodV) (ls:List (List NodV)):ViewV:=(if (nodAt up 1).k=1 then 1 else 0,if opqD (nodAt up 1)=true then [] else rootsL ls 0)
def redV (ls:List (List NodV)) (vl:List (Int×Int)) (r:List UInt8):List (Int×Int):=if redB r=true then (if redA r=true then (lookL ls (rootsL ls 0) (redL r)).getD [] else benV ls vl ((redL r).headD [])) else []
def hasR (x:NodV):Bool:=decide (x.att.h / 2 % 2=1)
def partV (up:List NodV) (ls:List (List NodV)) (vl:List (Int×Int)) (i:Int) (nm:List UInt8):List (Int×Int):=if (nodAt up i).k=1 then (if opq (nodAt up i)=true then [] else if hasR (nodAt up i)=true then redV ls vl (nodAt up i).att.r else benV ls vl nm) else []
abbrev StepV:=Int×ViewV×(Int×Int)
def noStep:StepV:=(0,(0,[]),(0,0))
def lowStep (ls:List (List NodV)) (vl:List (Int×Int)) (nm:List UInt8):StepV:=if (findL ls nm vl []).1=0 then noStep else if (findL ls nm vl []).1=1 then (1,(0,(findL ls nm vl []).2),(findL ls nm vl []).2.headD (0,0)) else ((findL ls nm vl []).1,(0,[]),(findL ls nm vl []).2.headD (0,0))
def upStep (up:List NodV) (ls:List (List NodV)) (vl:List (Int×Int)) (nm:List UInt8) (e:EntV):StepV:=if (nodAt up e.ino).k=1 then (1,(e.ino,partV up ls vl e.ino nm),(0,e.ino)) else if (nodAt up e.ino).k=4 then noStep else ((nodAt up e.ino).k,(0,[]),(0,e.ino))
def stepV (up:List NodV) (ls:List (List NodV)) (v:ViewV) (nm:List UInt8):StepV:=match firstB up v.1 nm with
 | some e=>upStep up ls v.2 nm e
 | none=>lowStep ls v.2 nm
def allV (up:List NodV) (ls:List (List NodV)) (v:ViewV):List (List UInt8):=namesL ls v.2++(entB up v.1).map EntV.name
def hidV (up:List NodV) (ls:List (List NodV)) (v:ViewV) (nm:List UInt8):Bool:=decide ((stepV up ls v nm).1=0)
def namesV (up:List NodV) (ls:List (List NodV)) (v:ViewV):List (List UInt8):=(sortS (allV up ls v)).filter (fun x=>!hidV up ls v x)
def wayView (up:List NodV) (ls:List (List NodV)) (vs:List ViewV) (x:WayV):ViewV:=if x.up < 0 then rootV up ls else (x.ino,partV up ls ((vs[x.up.toNat]?).getD (0,[])).2 x.ino x.name)
def treeV (up:List NodV) (ls:List (List NodV)) (l:List WayV):List ViewV:=l.foldl (fun vs x=>vs++[wayView up ls vs x]) []
theorem entB_len {ns:List NodV} (h:∀x∈ns,PlainN x) (i:Int):(entB ns i).length≤16:=by
 unfold entB
 split
 ·exact (nodAt_plain h i).2.2.2.2.1
 ·simp
def PlainX (x:NodV):Prop:=True∧(0≤x.k∧x.k≤4)∧(0≤x.att.h∧x.att.h≤31)∧x.data.length≤300∧x.ents.length≤17∧x.att.r.length≤40∧True
theorem PlainN.toX {x:NodV} (h:PlainN x):PlainX x:=⟨trivial,h.2.1,h.2.2.1,h.2.2.2.1,Nat.le_succ_of_le h.2.2.2.2.1,h.2.2.2.2.2.1,trivial⟩
theorem nodAt_plainX {ns:List NodV} (h:∀x∈ns,PlainX x) (i:Int):PlainX (nodAt ns i):=by
 unfold nodAt
 split
 ·cases hx:ns[(i - 1).toNat]? with
  | none=>exact plain0.toX
  | some x=>exact h x (List.mem_of_getElem? hx)
 ·exact plain0.toX
theorem entB_lenX {ns:List NodV} (h:∀x∈ns,PlainX x) (i:Int):(entB ns i).length≤17:=by
 unfold entB
 split
 ·exact (nodAt_plainX h i).2.2.2.2.1
 ·simp
theorem benV_len (ls:List (List NodV)) (vl:List (Int×Int)) (nm:List UInt8):(benV ls vl nm).length≤vl.length:=by
 unfold benV
 have:=findL_len ls nm vl []
 split
 ·simpa using this
 ·simp
theorem partV_len (up:List NodV) (ls:List (List NodV)) (vl:List (Int×Int)) (i:Int) (nm:List UInt8):(partV up ls vl i nm).length≤max ls.length vl.length:=by
 unfold partV redV
 have h1:=benV_len ls vl nm
 have h2:=benV_len ls vl ((redL (nodAt up i).att.r).headD [])
 have h3:=lookL_len ls (rootsL ls 0) (redL (nodAt up i).att.r)
 have h4:=rootsL_len ls 0
 (repeat' split) <;> (first|(simp;done)|omega)
theorem stepV_len (up:List NodV) (ls:List (List NodV)) (v:ViewV) (nm:List UInt8):(stepV up ls v nm).2.1.2.length≤max ls.length v.2.length:=by
 unfold stepV
 split
 ·rename_i e _
  have:=partV_len up ls v.2 e.ino nm
  unfold upStep noStep
  (repeat' split) <;> (first|(simp;done)|exact this)
 ·have:=findL_len ls nm v.2 []
  unfold lowStep noStep
  (repeat' split) <;> (first|(simp;done)|(simp at this ⊢;omega))
theorem red_one {r:List UInt8} (h1:redB r=true) (h2:redA r=false):redL r=[r]:=by
 unfold redB at h1
 unfold redA at h2
 unfold redL
 split
 ·rename_i h
  rw [if_pos h] at h1
  simp at h1
 ·rename_i h
  rw [if_neg h] at h1 h2
  by_cases hh:headB r=true
  ·rw [if_pos hh] at h1 h2
   rw [h1] at h2
   simp at h2
  ·rw [if_neg hh] at h1 ⊢
   rw [if_pos h1]
theorem redL_len (r:List UInt8):(redL r).length≤25:=by
 unfold redL
 split
 ·simp
 ·split
  ·have:=(partsS_len r).1
   unfold splitS
   split
   ·simp
   ·split
    ·omega
    ·simp
  ·split <;> simp
end Go.Proofs.YtmhiohnkjpglfaaGreat

