import Derived.Test.YtpndfahgflgocaaGreatDoorLn16
import Derived.Test.YtpndfahgflgocaaGreatDoorLn26
import Derived.Test.YtpndfahgflgocaaGreatDoorLn11
import Derived.Test.YtpndfahgflgocaaGreatDoorLn25
import Derived.Test.YtpndfahgflgocaaGreatDoorLn10
import Derived.BigRegion
import Derived.Test.YtpndfahgflgocaaGreatDoorLn23
import Derived.Test.YtpndfahgflgocaaGreatDoorLn21
import Derived.Test.YtpndfahgflgocaaGreatDoorLn22
import Derived.Test.YtpndfahgflgocaaGreatDoorLn20
import Derived.Test.YtpndfahgflgocaaGreatDoorLn18
import Derived.WalkMore
import Derived.ScopeJumps

namespace Go.Proofs.YtpndfahgflgocaaGreatDoor
open Go.RowKit Go.Shelf Plain

def ndD:NodV:={nod0 with k:=1,n:=2}
def ndA:NodV:={nod0 with k:=1,n:=2,ents:=[⟨0,2,[97]⟩]}
def ndF:NodV:={nod0 with k:=2,n:=1,g:=3,data:=[120]}
def upB:List NodV:=[ndD,ndD,ndD,nod0,nod0]
def lyB:List NodV:=[ndA,ndF,nod0,nod0,nod0]
def lsB:List (List NodV):=[lyB]
def gB:GeoQ:=⟨1,5,6,5⟩
theorem ba_few:FewL lsB:=by
 refine ⟨by decide,fun ns hns=>?_⟩
 rw [List.mem_singleton.1 hns]
 refine ⟨by decide,fun x hx=>?_⟩
 simp only [lyB,List.mem_cons,List.not_mem_nil,or_false] at hx
 rcases hx with rfl|rfl|rfl|rfl|rfl
 ·refine ⟨fun i e hi he=>?_,by decide,by decide,by decide,by decide,by decide,fun e he=>?_⟩
  ·obtain rfl:i=0:=by have:i < 1:=hi;omega
   cases he
   exact ⟨by decide,by decide,fun p h=>absurd h (by omega)⟩
  ·rw [List.mem_singleton.1 he]
   decide
 ·exact ⟨fun i e hi he=>absurd hi (by simp [ndF,nod0]),by decide,by decide,by decide,by decide,by decide,fun e he=>by simp [ndF,nod0] at he⟩
 ·exact plain0
 ·exact plain0
 ·exact plain0
def StkRet (w:World) (g:GeoQ) (up:List NodV) (ls:List (List NodV)) (e:Ending) (w':World):Prop:=∃AU nU cU AL nL cL,e=.returned (.agg (stkC g (.slice AU nU cU) (.slice AL nL cL)).toArray)∧RdE nodEn w' (Under w'.heap.size) AU nU up∧RdE layEn w' (Under w'.heap.size) AL nL ls∧Below w.heap.size w w'
def AggRet (w:World) (cs:List Value) (e:Ending) (w':World):Prop:=e=.returned (.agg cs.toArray)∧Below w.heap.size w w'
set_option maxRecDepth 100000 in
set_option maxHeartbeats 1600000 in
theorem Dir_any {C:Option Addr} {m d:Nat} (w:World):Calls Tryz.prog 55 #[.slice C m d] w (AggRet w (nodC ndD (.slice none 0 0) (.slice C m d))):=by
 have hz:=RowL.new w 51 (nodC nod0 (.slice none 0 0) (.slice none 0 0))
 have hb:=below_new (below_self w) (.cells (nodC nod0 (.slice none 0 0) (.slice none 0 0)).toArray 51)
 have HZ:=hide hz
 have HB:=hide hb
 clear hz hb
 go_enter Tryz.func55,Tryz.ntmps55
 go_wp2_with (refine wpList_storeW rfl 51 (.tmp 2) (.tmp 4) rfl 13 nod_size w.heap.size 51 rfl (nodC nod0 (.slice none 0 0) (.slice none 0 0)) (nodC ndD (.slice none 0 0) (.slice C m d)) rfl HZ.out rfl rfl (nodC_one _ _ _ _ _ _ _) ?_;intro w9 hr9 hg9 hs9;have HR9:=hide hr9;have HB9:=hide (HB.out.grown hg9 HB.out.size (pu4 (by omega)));clear hr9 hg9 hs9)
 exact bodyPost_ret (res_cell Tryz.results55 rfl nod_agg nod_size HR9.out rfl) rfl ⟨rfl,HB9.out⟩
set_option maxRecDepth 100000 in
theorem lit_nods {c0 c1 c2 c3 c4:List Value} (h0:c0.length=13) (h1:c1.length=13) (h2:c2.length=13) (h3:c3.length=13) (h4:c4.length=13) (W:World):(Instr.buildSlice 24 5 #[(0,.agg c0.toArray),(1,.agg c1.toArray),(2,.agg c2.toArray),(3,.agg c3.toArray),(4,.agg c4.toArray)]).run Tryz.prog W=.ok (.slice (some ⟨W.heap.size,0,none⟩) 5 5) (W.alloc (.cells (c0++(c1++(c2++(c3++c4)))).toArray 51)):=by
 obtain ⟨it,hi,hz,hsz,-⟩:=info_parts nodw_info
 refine run_buildSlice W _ 51 5 _ _ it _ Tryz.underlying24 hi hz (by omega) (by omega) ?_
 rw [hsz]
 have:=Great.fill_whole (s:=13) (by omega) [.agg c0.toArray,.agg c1.toArray,.agg c2.toArray,.agg c3.toArray,.agg c4.toArray] ((Array.range (5*13)).map ((Value.agg nodZ.toArray).cells[· % (Value.agg nodZ.toArray).cells.size]!)) (by intro v hv;simp only [List.mem_cons,List.not_mem_nil,or_false] at hv;rcases hv with rfl|rfl|rfl|rfl|rfl <;> simp [Value.cells,h0,h1,h2,h3,h4]) (by simp)
 simpa [Value.cells] using this
theorem wpList_lit5 {P:Program} {w w':World} {ops:Array Oper} {rest:List Oper} {o:Oper} {a:Act} {Q:Exit→Act→World→Prop} (hgd:o.guard=none) (t:Nat) (x0 x1 x2 x3 x4:Operand) (ho:o.op=.buildSlice t 5 #[(0,x0),(1,x1),(2,x2),(3,x3),(4,x4)]) (v0 v1 v2 v3 v4 v:Value) (h0:a.eval x0=v0) (h1:a.eval x1=v1) (h2:a.eval x2=v2) (h3:a.eval x3=v3) (h4:a.eval x4=v4) (hr:(Instr.buildSlice t 5 #[(0,v0),(1,v1),(2,v2),(3,v3),(4,v4)]).run P w=.ok v w') (hK:wpList P ops Q rest (a.put o.dst v) w'):wpList P ops Q (o::rest) a w:=by
 refine wpList_plain hgd fun K hK'=>?_
 unfold Oper.wp execOp
 simp only [ho,List.map_toArray,List.map_cons,List.map_nil,h0,h1,h2,h3,h4,Sem.run_bind,Sem.run_pure,Result.andThen_ok,hr]
 exact hK' _ _ hK
theorem nods_row {W:World} {D:Nat→Prop} {g:Nat} {c0 c1 c2 c3 c4:List Value} {x0 x1 x2 x3 x4:NodV} (h:RowL W g 51 (c0++(c1++(c2++(c3++c4))))) (hD:D g) (h0:NodR W D c0 x0) (h1:NodR W D c1 x1) (h2:NodR W D c2 x2) (h3:NodR W D c3 x3) (h4:NodR W D c4 x4):RdE nodEn W D (some ⟨g,0,none⟩) 5 [x0,x1,x2,x3,x4]:=by
 have hcs:CellsE nodEn W D [c0,c1,c2,c3,c4] [x0,x1,x2,x3,x4]:=by
  refine ⟨rfl,fun i cs x hc hx=>?_⟩
  have hi:i < 5:=(List.getElem?_eq_some_iff.1 hx).1
  obtain rfl|rfl|rfl|rfl|rfl:i=0∨i=1∨i=2∨i=3∨i=4:=by omega
  all_goals (cases hc;cases hx;assumption)
 refine ⟨rfl,fun _=>⟨g,0,rfl,hD,fun i x hx=>?_⟩⟩
 have hi:i < 5:=(List.getElem?_eq_some_iff.1 hx).1
 have hc:[c0,c1,c2,c3,c4][i]?=some ([c0,c1,c2,c3,c4][i]'hi):=List.getElem?_eq_getElem (l:=[c0,c1,c2,c3,c4]) hi
 have hR:=hcs.2 i _ x hc hx
 refine ⟨_,hR,fun j v hv=>?_⟩
 have hj:j < 13:=by have:=(List.getElem?_eq_some_iff.1 hv).1;have h13:=nodEn.len hR;rw [h13] at this;exact this
 rw [Nat.zero_add,h.cell]
 have:=flat_get hcs.lens hc hj
 rw [show [c0,c1,c2,c3,c4].flatten=c0++(c1++(c2++(c3++c4))) from by simp] at this
 exact this.trans hv
theorem nod0R (W:World) (D:Nat→Prop):NodR W D (nodC nod0 (.slice none 0 0) (.slice none 0 0)) nod0:=⟨none,0,0,none,0,0,rfl,Nat.le_refl _,RdE.none_ _ _ _ _,Nat.le_refl _,RdE.none_ _ _ _ _⟩
theorem ndDR (W:World) (D:Nat→Prop):NodR W D (nodC ndD (.slice none 0 0) (.slice none 0 0)) ndD:=⟨none,0,0,none,0,0,rfl,Nat.le_refl _,RdE.none_ _ _ _ _,Nat.le_refl _,RdE.none_ _ _ _ _⟩
theorem lay_row {W:World} {D:Nat→Prop} {g t n c:Nat} {A:Option Addr} {ns:List NodV} (h:RowL W g t [.slice A n c]) (hD:D g) (hc:n≤c) (hr:RdE nodEn W D A n ns):RdE layEn W D (some ⟨g,0,none⟩) 1 [ns]:=by
 refine ⟨rfl,fun _=>⟨g,0,rfl,hD,fun i x hx=>?_⟩⟩
 have hi:i=0:=by have:=(List.getElem?_eq_some_iff.1 hx).1;simpa using this
 subst hi
 cases hx
 refine ⟨[.slice A n c],⟨A,n,c,rfl,hc,hr⟩,fun j v hv=>?_⟩
 rw [Nat.zero_mul,Nat.zero_add,Nat.zero_add]
 exact (h.cell j).trans hv
def Fr (base:Nat) (W:World) (b:Nat):Prop:=base≤b∧b < W.heap.size
theorem RdE.onF {α:Type} {E:Enc α} {W W':World} {base n:Nat} {A:Option Addr} {l:List α} (h:RdE E W (Fr base W) A n l) (hb:Below W.heap.size W W'):RdE E W' (Fr base W') A n l:=h.mono (fun b hb'=>hb.block b hb'.2) (fun _ hb'=>⟨hb'.1,Nat.lt_of_lt_of_le hb'.2 hb.size⟩)
theorem RdE.grF {α:Type} {E:Enc α} {W W':World} {base n g:Nat} {A:Option Addr} {l:List α} (h:RdE E W (Fr base W) A n l) (hg:W.grownBy W' (some g)) (hgb:g < base):RdE E W' (Fr base W') A n l:=h.mono (fun b hb'=>hg.block b hb'.2 (fun e=>by have:=Option.some.inj e;have:=hb'.1;omega)) (fun _ hb'=>⟨hb'.1,Nat.lt_of_lt_of_le hb'.2 hg.size⟩)
theorem RdE.unF {α:Type} {E:Enc α} {W:World} {base n:Nat} {A:Option Addr} {l:List α} (h:RdE E W (Fr base W) A n l):RdE E W (Under W.heap.size) A n l:=h.mono (fun _ _=>rfl) (fun _ hb=>hb.2)
theorem wpList_lit5N {w : World} {ops : Array Oper} {rest : List Oper} {o : Oper} {a : Act} {Q : Exit → Act → World → Prop} (hgd : o.guard = none) (x0 x1 x2 x3 x4 : Operand) (ho : o.op = .buildSlice 24 5 #[(0, x0), (1, x1), (2, x2), (3, x3), (4, x4)]) {c0 c1 c2 c3 c4 : List Value} (h0 : a.eval x0 = .agg c0.toArray) (h1 : a.eval x1 = .agg c1.toArray) (h2 : a.eval x2 = .agg c2.toArray) (h3 : a.eval x3 = .agg c3.toArray) (h4 : a.eval x4 = .agg c4.toArray) (k0 : c0.length = 13) (k1 : c1.length = 13) (k2 : c2.length = 13) (k3 : c3.length = 13) (k4 : c4.length = 13)
  (hK:∀w',RowL w' w.heap.size 51 (c0++(c1++(c2++(c3++c4))))→Below w.heap.size w w'→wpList Tryz.prog ops Q rest (a.put o.dst (.slice (some ⟨w.heap.size,0,none⟩) 5 5)) w'):wpList Tryz.prog ops Q (o::rest) a w :=
 wpList_lit5 hgd 24 x0 x1 x2 x3 x4 ho _ _ _ _ _ _ h0 h1 h2 h3 h4 (lit_nods k0 k1 k2 k3 k4 w) (hK _ (RowL.new w 51 _) (below_new (below_self w) _))
theorem byte_row {W:World} {D:Nat→Prop} {g t:Nat} {l:List UInt8} (h:RowL W g t (bvs l)) (hD:D g):RdE Enc.byte W D (some ⟨g,0,none⟩) l.length l :=
 RdE.of_bs (B:=W.heap.size) ⟨rfl,fun _=>⟨g,0,rfl,h.lt,fun i x hx=>by rw [Nat.zero_add,h.cell];exact bvs_get hx⟩⟩ (fun _ a ha=>by cases ha;exact hD)
set_option maxRecDepth 100000 in
set_option maxHeartbeats 1000000 in
theorem Base_any (w:World):Calls Tryz.prog 35 #[] w (StkRet w gB upB lsB):=by
 obtain ⟨r0,r1,hb2,hs2⟩:=rows2 w (stkC ⟨0,0,0,0⟩ (.slice none 0 0) (.slice none 0 0)) (stkC ⟨0,0,0,0⟩ (.slice none 0 0) (.slice none 0 0)) 29 29
 have R0:=hide r0
 have R1:=hide r1
 have HB2:=hide hb2
 clear r0 r1 hb2 hs2
 go_enter Tryz.func35,Tryz.ntmps35
 go_wp2_with (refine wpList_storeW rfl 29 (.tmp 1) (.tmp 3) rfl 6 stk_size (w.heap.size+1) 29 rfl (stkC ⟨0,0,0,0⟩ (.slice none 0 0) (.slice none 0 0)) (stkC gB (.slice none 0 0) (.slice none 0 0)) rfl R1.out rfl rfl (by simp [stkC,Value.oneCell']) ?_;intro w3 hr3 hg3 hs3;have R3:=hide hr3;have R03:=hide (R0.out.grown hg3 (pu5 (by omega)));have HB3:=hide (HB2.out.grown hg3 HB2.out.size (pu4 (by omega)));have hl3:=hr3.lt;have HE3:=hide (RowL.new w3 31 (flatE [⟨0,2,[97]⟩]));have hbe:=below_new (below_self w3) (.cells (flatE [⟨0,2,[97]⟩]).toArray 31);have HBE:=hide hbe;clear hr3 hg3 hs3 hbe)
 refine (Dir_any _).mono ?_
 rintro ez w4 ⟨rfl,hb4⟩
 have HE4:=hide (HE3.out.on hb4)
 have HB4:=hide ((HB3.out.trans (HBE.out.mono HB3.out.size)).trans (hb4.mono (Nat.le_trans HB3.out.size HBE.out.size)))
 have hbe4:=HBE.out.trans (hb4.mono HBE.out.size)
 have HR34:=hide (R3.out.on hbe4)
 have HR04:=hide (R03.out.on hbe4)
 have q5:w4.cell? ⟨w.heap.size+1,5,none⟩=some (.slice none 0 0):=HR34.out.cell 5
 have f5:w4.frozen? ⟨w.heap.size+1,5,none⟩=false:=HR34.out.frozen 5
 have hl4:w.heap.size+1 < w4.heap.size:=HR34.out.lt
 have hl34:=HE4.out.lt
 clear hb4 hbe4
 have HRU:=hide (RowL.new w4 5 [.int .u8 120])
 have HBU:=hide (below_new (below_self w4) (.cells #[.int .u8 120] 5))
 go_wp2_with (first|(refine wpList_lit5N (w:=w4.alloc (.cells #[.int .u8 120] 5)) rfl (.tmp 6) (.tmp 8) (.tmp 9) (.tmp 10) (.tmp 11) rfl (c0:=nodC ndD (.slice none 0 0) (.slice (some ⟨w3.heap.size,0,none⟩) 1 1)) (c1:=nodC ndF (.slice (some ⟨w4.heap.size,0,none⟩) 1 1) (.slice none 0 0)) (c2:=nodC nod0 (.slice none 0 0) (.slice none 0 0)) (c3:=nodC nod0 (.slice none 0 0) (.slice none 0 0)) (c4:=nodC nod0 (.slice none 0 0) (.slice none 0 0)) rfl rfl rfl rfl rfl rfl rfl rfl rfl rfl ?_;intro w6 hr6 hb6;simp only [World.size_alloc] at hr6;have HR6:=hide hr6;have HB6:=hide (HBU.out.trans (hb6.mono HBU.out.size));have HRU6:=hide (HRU.out.on hb6);have q56:w6.cell? ⟨w.heap.size+1,5,none⟩=some (.slice none 0 0):=(HB6.out.cell (p:=⟨w.heap.size+1,5,none⟩) hl4).trans q5;have f56:w6.frozen? ⟨w.heap.size+1,5,none⟩=false:=(HB6.out.frozen (p:=⟨w.heap.size+1,5,none⟩) hl4).trans f5;have hl6:w.heap.size+1 < w6.heap.size:=Nat.lt_of_lt_of_le hl4 HB6.out.size;clear hr6 hb6)|fail)
 have hw2:w.heap.size+2≤w3.heap.size:=by have:=R3.out.lt;omega
 have hs34:w3.heap.size < w4.heap.size:=hl34
 have hs46:=HB6.out.size
 have hr6l:=HR6.out.lt
 have hg7:=grown_cell w6 (w.heap.size+1) 5 (.slice (some ⟨w6.heap.size,0,none⟩) 1 1)
 have n6:RdE nodEn w6 (Fr (w.heap.size+2) w6) (some ⟨w4.heap.size+1,0,none⟩) 5 lyB:=nods_row HR6.out ⟨by omega,hr6l⟩ ⟨none,0,0,_,1,1,rfl,Nat.le_refl _,RdE.none_ _ _ _ _,Nat.le_refl _,ent_row (HE4.out.on HB6.out) ⟨by omega,by omega⟩⟩ ⟨_,1,1,none,0,0,rfl,Nat.le_refl _,byte_row (l:=[120]) HRU6.out ⟨by omega,by omega⟩,Nat.le_refl _,RdE.none_ _ _ _ _⟩ (nod0R _ _) (nod0R _ _) (nod0R _ _)
 have n7:=n6.grF hg7 (by omega)
 have x7:RowL (w6.setCell ⟨w.heap.size+1,5,none⟩ (.slice (some ⟨w6.heap.size,0,none⟩) 1 1)) (w.heap.size+1) 29 (stkC gB (.slice none 0 0) (.slice (some ⟨w6.heap.size,0,none⟩) 1 1)):=(HR34.out.on HB6.out).set_ 5 _
 have y7:=(HR04.out.on HB6.out).grown hg7 (pu5 (by omega))
 have hs7:(w6.setCell ⟨w.heap.size+1,5,none⟩ (.slice (some ⟨w6.heap.size,0,none⟩) 1 1)).heap.size=w6.heap.size:=by simp [World.setCell]
 have hb7:Below w.heap.size w (w6.setCell ⟨w.heap.size+1,5,none⟩ (.slice (some ⟨w6.heap.size,0,none⟩) 1 1)):=(HB4.out.trans (HB6.out.mono (by omega))).setCell (p:=⟨w.heap.size+1,5,none⟩) (by show w.heap.size≤w.heap.size+1;omega) _
 clear q5 f5 hl4 hg7 n6
 refine (Dir_any _).mono ?_
 rintro ez w9 ⟨rfl,hb9⟩
 generalize w6.setCell ⟨w.heap.size+1,5,none⟩ (.slice (some ⟨w6.heap.size,0,none⟩) 1 1)=w7 at *
 have r8:=RowL.new w7 26 [Value.slice (some ⟨w4.heap.size+1,0,none⟩) 5 5]
 have b8:=below_new (below_self w7) (.cells [Value.slice (some ⟨w4.heap.size+1,0,none⟩) 5 5].toArray 26)
 have l8:RdE layEn (w7.alloc (.cells [Value.slice (some ⟨w4.heap.size+1,0,none⟩) 5 5].toArray 26)) (Fr (w.heap.size+2) (w7.alloc (.cells [Value.slice (some ⟨w4.heap.size+1,0,none⟩) 5 5].toArray 26))) (some ⟨w6.heap.size,0,none⟩) 1 lsB:=lay_row (by rw [←hs7];exact r8) ⟨by omega,by simp;omega⟩ (Nat.le_refl _) (n7.onF b8)
 have X9:=hide ((x7.on b8).on hb9)
 have Y9:=hide ((y7.on b8).on hb9)
 have L9:=hide (l8.onF hb9)
 have B9:=hide ((hb7.trans (b8.mono hb7.size)).trans (hb9.mono (Nat.le_trans hb7.size b8.size)))
 clear r8 b8 l8 x7 y7 n7 hb7 hb9 hs7
 go_wp2_with fail
 refine (Dir_any _).mono ?_
 rintro ez w10 ⟨rfl,hb10⟩
 have HB10:=hide hb10
 clear hb10
 go_wp2_with fail
 refine (Dir_any _).mono ?_
 rintro ez w11 ⟨rfl,hb11⟩
 have HB11:=hide (HB10.out.trans (hb11.mono HB10.out.size))
 clear hb11
 go_wp2_with (first|(refine wpList_lit5N (w:=w11) rfl (.tmp 16) (.tmp 17) (.tmp 18) (.tmp 19) (.tmp 20) rfl (c0:=nodC ndD (.slice none 0 0) (.slice none 0 0)) (c1:=nodC ndD (.slice none 0 0) (.slice none 0 0)) (c2:=nodC ndD (.slice none 0 0) (.slice none 0 0)) (c3:=nodC nod0 (.slice none 0 0) (.slice none 0 0)) (c4:=nodC nod0 (.slice none 0 0) (.slice none 0 0)) rfl rfl rfl rfl rfl rfl rfl rfl rfl rfl ?_;intro w12 hr12 hb12;have HR12:=hide hr12;have HB12:=hide (HB11.out.trans (hb12.mono HB11.out.size));have hl12:=hr12.lt;clear hr12 hb12)|(refine wpList_storeC rfl 26 (.tmp 23) (.tmp 22) rfl 1 lay_size (w.heap.size+1) 4 29 rfl (stkC gB (.slice none 0 0) (.slice (some ⟨w6.heap.size,0,none⟩) 1 1)) [.slice (some ⟨w11.heap.size,0,none⟩) 5 5] rfl (X9.out.on HB12.out) rfl (by simp [stkC]) (by simp [Value.oneCell']) ?_;intro w13 hr13 hg13 hs13;have HX13:=hide (show RowL w13 (w.heap.size+1) 29 (stkC gB (.slice (some ⟨w11.heap.size,0,none⟩) 5 5) (.slice (some ⟨w6.heap.size,0,none⟩) 1 1)) from hr13);have HG13:=hide hg13;clear hr13 hg13)|(refine wpList_loadW rfl 29 (.tmp 1) rfl 6 stk_agg stk_size (w.heap.size+1) 29 rfl (stkC gB (.slice (some ⟨w11.heap.size,0,none⟩) 5 5) (.slice (some ⟨w6.heap.size,0,none⟩) 1 1)) HX13.out rfl ?_)|(refine wpList_storeW rfl 29 (.tmp 0) (.tmp 24) rfl 6 stk_size w.heap.size 29 rfl (stkC ⟨0,0,0,0⟩ (.slice none 0 0) (.slice none 0 0)) (stkC gB (.slice (some ⟨w11.heap.size,0,none⟩) 5 5) (.slice (some ⟨w6.heap.size,0,none⟩) 1 1)) rfl ((Y9.out.on HB12.out).grown HG13.out (pu5 (by omega))) rfl rfl (by simp [stkC,Value.oneCell']) ?_;intro w14 hr14 hg14 hs14;have HR14:=hide hr14;have HG14:=hide hg14;clear hr14 hg14)|fail)
 have hx9:=X9.out.lt
 have hs9:=B9.out.size
 have hs12:=HB12.out.size
 have hs11:=HB11.out.size
 have u12:RdE nodEn w12 (Fr (w.heap.size+2) w12) (some ⟨w11.heap.size,0,none⟩) 5 upB:=nods_row HR12.out ⟨by omega,hl12⟩ (ndDR _ _) (ndDR _ _) (ndDR _ _) (nod0R _ _) (nod0R _ _)
 have l12:=L9.out.onF HB12.out
 exact bodyPost_ret (res_cell Tryz.results35 rfl stk_agg stk_size HR14.out rfl) rfl ⟨_,5,5,_,1,1,rfl,((u12.grF HG13.out (by omega)).grF HG14.out (by omega)).unF,((l12.grF HG13.out (by omega)).grF HG14.out (by omega)).unF,((B9.out.trans (HB12.out.mono hs9)).grown HG13.out (by omega) (pu4 (by omega))).grown HG14.out (by have:=HG13.out.size;omega) (pu4 (by omega))⟩
end Go.Proofs.YtpndfahgflgocaaGreatDoor

namespace Go.Proofs.YtpndfahgflgocaaGreatDoor
open Go.RowKit Go.Shelf Plain

theorem OwE.lt {α:Type} {E:Enc α} {w:World} {base e n c:Nat} {A:Option Addr} {l:List α} (h:OwE E w base e A n c l):∀a,A=some a→a.block < w.heap.size:=by
 obtain ⟨css,hrow,-,-⟩:=h
 intro a ha
 subst ha
 rcases hrow.2 with ⟨h0,-⟩|⟨g,cap,cur,h0,-,hg,-⟩
 ·cases h0
 ·cases h0
  exact (Array.getElem?_eq_some_iff.1 hg).1
theorem KeepS.cell {wX W:World} {B b o:Nat} {vc:List Value} (h:KeepS wX B b o vc W) {p:Addr} (hp:p.block < wX.heap.size) (hne:p.block≠b):W.cell? p=wX.cell? p:=World.cell?_of_block (w:=wX) (h.2.1 p.block hp hne)
end Go.Proofs.YtpndfahgflgocaaGreatDoor

namespace Go.Proofs.YtpndfahgflgocaaGreatDoor
open Go.RowKit Go.Shelf Plain

def TreeP (w:World) (n:Nat) (ws:List WayV) (vs:List ViewV) (e:Ending) (w':World):Prop:=∃A c A' c',e=.returned (.tuple #[.slice A n c,.slice A' n c'])∧RdE wayEn w' (fun b=>w.heap.size≤b∧b < w'.heap.size) A n ws∧RdE viewEn w' (Under w'.heap.size) A' n vs∧Below w.heap.size w w'
theorem TreeF.p {w w':World} {ws:List WayV} {vs:List ViewV} {n:Nat} {e:Ending} (h:TreeF w ws vs e w') (h1:ws.length=n) (h2:vs.length=n):TreeP w n ws vs e w':=by
 obtain ⟨A,c,A',c',he,ha,hb,hbl⟩:=h
 rw [h1] at he ha
 rw [h2] at he hb
 exact ⟨A,c,A',c',he,ha,hb,hbl⟩
end Go.Proofs.YtpndfahgflgocaaGreatDoor

namespace Go.Proofs.YtpndfahgflgocaaGreatDoor
open Go.RowKit Go.Shelf Plain

theorem enc_lit1 {α:Type} {E:Enc α} {x:α} {cs:List Value} (hR:∀w D,E.R w D cs x) (W:World) (t:Nat) {lo:Nat} (hlo:lo≤W.heap.size):RdE E (W.alloc (.cells cs.toArray t)) (fun b=>lo≤b∧b < (W.alloc (.cells cs.toArray t)).heap.size) (some ⟨W.heap.size,0,none⟩) 1 [x]:=by
 refine ⟨rfl,fun _=>⟨_,_,rfl,⟨hlo,by simp⟩,fun i y hy=>⟨cs,?_,fun j v hv=>?_⟩⟩⟩
 ·have hi:i=0:=by have:=(List.getElem?_eq_some_iff.1 hy).1;simpa using this
  subst hi
  obtain rfl:x=y:=by simpa using hy
  exact hR _ _
 ·have hi:i=0:=by have:=(List.getElem?_eq_some_iff.1 hy).1;simpa using this
  subst hi
  rw [Nat.zero_mul,Nat.zero_add,Nat.zero_add,(RowL.new W t cs).cell]
  exact hv
theorem owe_apart {α:Type} {E:Enc α} {W:World} {base e n c g t:Nat} {A:Option Addr} {l:List α} {cs:List Value} (ho:OwE E W base e A n c l) (hr:RowL W g t cs) (h:t≠e):some g≠(Value.slice A n c).ownBlock:=by
 obtain ⟨css,hrow,-⟩:=ho
 exact row_apart hrow hr h
end Go.Proofs.YtpndfahgflgocaaGreatDoor

