import Derived.Test.YtfdbhldnohaopaaDoorOt23
import Derived.Test.YtfdbhldnohaopaaDoorProg
import Derived.Lib.Bytealg
import Derived.Lib.CutLaws
import Derived.Lib.Join
import Derived.Shelf.Small.Wraps
import Derived.Shelf.Small.Strs
import Derived.Shelf.Strings.Prefix
import Derived.Shelf.Slices.Clone
import Derived.Shelf.Slices.CompactS
import Derived.Shelf.Slices.Cells
import Derived.Test.YtfdbhldnohaopaaDoorOt18
import Derived.Test.YtfdbhldnohaopaaDoorOt1
import Derived.Lib.SlicesCompact
import Derived.Sort.Row
import Derived.Sort.OwnSorted
import Derived.Lib.RowBridge
import Derived.Test.YtfdbhldnohaopaaDoorOt17
import Derived.BigQuiet
import Derived.Deep.QuietTactic
import Derived.Test.YtfdbhldnohaopaaDoorOt9
import Derived.Test.YtfdbhldnohaopaaDoorOt16

namespace Go.Proofs.YtfdbhldnohaopaaDoor
open Go.RowKit Go.Shelf Plain

def IfRet (w:World) (b:Bool) (P:Prop) (e:Ending) (w':World):Prop:=∃p:Bool,e=.returned (.bool p)∧Below w.heap.size w w'∧(p=b→P)
def FewB (many:Int) (ns:List NodV):Prop:=(ns.length:Int)≤many∧∀x∈ns,PlainN x
def FineN (ns:List NodV):Prop:=∀x∈ns,x.ents.length≤9223372036854775807
set_option maxRecDepth 100000 in
set_option maxHeartbeats 1600000 in
theorem PSt1_any {A:Option Addr} {n c gM:Nat} {many:Int} {ns:List NodV} (w:World) (h:RdE nodEn w (Under w.heap.size) A n ns) (hM:w.cell? ⟨gM,0,none⟩=some (.int .i64 many)) (hg:gM < w.heap.size) (hmany:many≤100000) (hsm:FineN ns) :
  Calls Tryd.prog 20 #[.agg #[.slice A n c],.pointer (some ⟨gM,0,none⟩)] w (IfRet w false (FewB many ns)):=by
 have r:=RowL.new w 26 [.slice A n c]
 have hb:=below_new (below_self w) (.cells [Value.slice A n c].toArray 26)
 obtain ⟨W1,hW1⟩:∃W1,w.alloc (.cells [Value.slice A n c].toArray 26)=W1:=⟨_,rfl⟩
 have H0:=h.on hb
 have q1:=(hb.cell (p:=⟨gM,0,none⟩) hg).trans hM
 rw [hW1] at r hb H0 q1
 have hW1':w.alloc (.cells #[.slice A n c] 26)=W1:=hW1
 have q0:W1.cell? ⟨w.heap.size,0,none⟩=some (.slice A n c):=r.cell 0
 have HN:=hide H0
 have HB:=hide hb
 have HFI:=hide hsm
 have HLN:=hide h.1
 clear r hb H0 hW1 h hsm hM
 go_enter Tryd.func20,Tryd.ntmps20
 go_wp2_with fail
 refine (PBranch_any W1 HN.out hmany HFI.out).mono ?_
 rintro e w3 ⟨p,rfl,hb3,hp⟩
 have HP:=hide hp
 have HB3:=hide (HB.out.trans (hb3.mono HB.out.size))
 clear hp hb3 q0 q1 hW1'
 cases p
 ·go_wp2_with fail
  go_ret
  exact ⟨true,rfl,HB3.out,fun h=>by cases h⟩
 ·go_wp2_with fail
  go_ret
  exact ⟨false,rfl,HB3.out,fun _=>by have:=HP.out (by first|rfl|trivial);exact ⟨by rw [HLN.out];exact this.1,this.2⟩⟩
set_option maxRecDepth 100000 in
set_option maxHeartbeats 1600000 in
theorem BrIdx_any {A:Option Addr} {n c gM:Nat} {many:Int} {l:List (List NodV)} (w:World) (h:RdE layEn w (Under w.heap.size) A n l) (hM:w.cell? ⟨gM,0,none⟩=some (.int .i64 many)) (hg:gM < w.heap.size) (hmany:many≤100000) (hn:n≤100000) (hsm:∀ns∈l,FineN ns) :
  Calls Tryd.prog 33 #[.slice A n c,.func (.func 20) #[] #[.pointer (some ⟨gM,0,none⟩)]] w (fun e w'=>∃r:Int,e=.returned (.int .i64 r)∧Below w.heap.size w w'∧(r < 0→∀ns∈l,FewB many ns)):=by
 have H:=hide h
 have hln:=h.1
 have HSM:=hide hsm
 have HM:=hide hM
 clear h hsm hM
 go_enter Tryd.func33,Tryd.ntmps33
 go_wp2
 go_loopw [8] (fun iv wr=>∃j:Nat,j≤n∧iv=.int .i64 j∧Below w.heap.size w wr∧∀i x,i < j→l[i]?=some x→FewB many x) (fun iv _=>n - (intOf iv).toNat)
 case atStart=>exact ⟨0,by omega,rfl,below_self _,fun i x hi=>by omega⟩
 case round =>
  obtain ⟨j,hj,rfl,hbr,hall⟩:=hrel
  have HBR:=hide hbr
  have HALL:=hide hall
  have hbsz:=hbr.size
  clear hbr hall
  by_cases hlt:j < n
  ·obtain ⟨ns,hx⟩:∃ns,l[j]?=some ns:=⟨_,List.getElem?_eq_getElem (by omega)⟩
   obtain ⟨b,o,rfl,hbB,A2,n2,c2,hc,hc2,hN2⟩:=RdE.get_list (F:=nodEn) (H.out.on HBR.out) hx
   have HN2:=hide hN2
   have q:wr.cell? ⟨b,o+j,none⟩=some (.slice A2 n2 c2):=hc
   have HX:=hide hx
   have HFI:=hide (HSM.out ns (List.mem_of_getElem? hx))
   have HM2:=hide ((HBR.out.cell (p:=⟨gM,0,none⟩) hg).trans HM.out)
   have hjn:(j:Int) < (n:Int):=by omega
   clear hx hN2 hc
   go_wp2_with fail
   refine (PSt1_any wr HN2.out HM2.out (by omega) hmany HFI.out).mono ?_
   rintro e w3 ⟨p,rfl,hb3,hp⟩
   have HP:=hide hp
   have HB3:=hide (HBR.out.trans (hb3.mono hbsz))
   clear hp hb3 q
   cases p with
   | true =>
    go_wp2_with fail
    go_ret
    exact ⟨(j:Int),rfl,HB3.out,fun h=>by omega⟩
   | false =>
    go_wp2_with fail
    go_roundw
    case rel=>exact ⟨j+1,by omega,by go_num,HB3.out,fun i y hi hy=>by
     by_cases e:i=j
     ·subst e
      have:=HX.out.symm.trans hy
      cases this
      exact HP.out (by first|rfl|trivial)
     ·exact HALL.out i y (by omega) hy⟩
    case measure=>simp [intOf];omega
  ·obtain rfl:j=n:=by omega
   go_wp2_with fail
   go_ret
   exact ⟨-1,rfl,HBR.out,fun _ x hx=>by
    obtain ⟨i,hi,rfl⟩:=List.mem_iff_getElem.1 hx
    exact HALL.out i _ (by omega) (List.getElem?_eq_getElem hi)⟩
set_option maxRecDepth 100000 in
theorem BrHas_any {A:Option Addr} {n c gM:Nat} {many:Int} {l:List (List NodV)} (w:World) (h:RdE layEn w (Under w.heap.size) A n l) (hM:w.cell? ⟨gM,0,none⟩=some (.int .i64 many)) (hg:gM < w.heap.size) (hmany:many≤100000) (hn:n≤100000) (hsm:∀ns∈l,FineN ns) :
  Calls Tryd.prog 19 #[.slice A n c,.func (.func 20) #[] #[.pointer (some ⟨gM,0,none⟩)]] w (IfRet w false (∀ns∈l,FewB many ns)):=by
 have H:=hide h
 have HM:=hide hM
 clear h hM
 go_enter Tryd.func19,Tryd.ntmps19
 go_wp2_with (go_at_call 33;refine (BrIdx_any w H.out HM.out hg hmany hn hsm).mono ?_;rintro e w3 ⟨r,rfl,hb3,hp⟩;have HP:=hide hp;have HB3:=hide hb3;clear hp hb3)
 go_ret
 exact ⟨_,rfl,HB3.out,fun h=>HP.out (by simpa using h)⟩
set_option maxRecDepth 100000 in
set_option maxHeartbeats 4000000 in
theorem PStackM_any {many:Int} (hmm:many≤24) {g:GeoQ} {AU AL:Option Addr} {nU cU nL cL:Nat} {up:List NodV} {ls:List (List NodV)} (w:World) (hu:RdE nodEn w (Under w.heap.size) AU nU up) (h:RdE layEn w (Under w.heap.size) AL nL ls) (hfu:FineN up) (hfl:∀ns∈ls,FineN ns) :
  Calls Tryd.prog 5 #[.agg (stkC g (.slice AU nU cU) (.slice AL nL cL)).toArray,.int .i64 many] w (IfRet w true (FewL ls∧FewB many up)):=by
 obtain ⟨r0,r1,hb2,hs2⟩:=rows2 w (stkC g (.slice AU nU cU) (.slice AL nL cL)) [.int .i64 many] 29 3
 obtain ⟨W2,hW2⟩:∃W2,(w.alloc (.cells (stkC g (.slice AU nU cU) (.slice AL nL cL)).toArray 29)).alloc (.cells [Value.int .i64 many].toArray 3)=W2:=⟨_,rfl⟩
 rw [hW2] at r0 r1 hb2 hs2
 have hW2':(w.alloc (.cells #[.int .i64 g.a,.int .i64 g.b,.int .i64 g.c,.int .i64 g.d,.slice AU nU cU,.slice AL nL cL] 29)).alloc (.cells #[.int .i64 many] 3)=W2:=hW2
 have q4:W2.cell? ⟨w.heap.size,4,none⟩=some (.slice AU nU cU):=r0.cell 4
 have q5:W2.cell? ⟨w.heap.size,5,none⟩=some (.slice AL nL cL):=r0.cell 5
 have m0:W2.cell? ⟨w.heap.size+1,0,none⟩=some (.int .i64 many):=r1.cell 0
 have R0:=hide r0
 have R1:=hide r1
 have HB2:=hide hb2
 have HU:=hide (hu.on hb2)
 have HL:=hide (h.on hb2)
 have HLL:=hide h.1
 have HUL:=hide hu.1
 have HFU:=hide hfu
 have HFL:=hide hfl
 have hsl:w.heap.size+2≤W2.heap.size:=by omega
 unfold stkC
 clear r0 r1 hb2 hW2 hs2 hu h hfu hfl
 by_cases k0:(nL:Int)≤3
 rotate_left
 ·have c0:decide ((nL:Int)≤3)=false:=decide_eq_false k0
  clear q4
  go_enter Tryd.func5,Tryd.ntmps5
  go_wp2_with fail
  go_ret
  exact ⟨false,rfl,HB2.out,fun h=>by cases h⟩
 have c0:decide ((nL:Int)≤3)=true:=decide_eq_true k0
 go_enter Tryd.func5,Tryd.ntmps5
 go_wp2_with fail
 clear hW2'
 refine (PBranch_any W2 HU.out (by omega) HFU.out).mono ?_
 rintro e w3 ⟨p,rfl,hb3,hp⟩
 have HP:=hide hp
 have HB3:=hide (HB2.out.trans (hb3.mono (by omega)))
 have s5:w3.cell? ⟨w.heap.size,5,none⟩=some (.slice AL nL cL):=(R0.out.on hb3).cell 5
 have M3:=hide ((R1.out.on hb3).cell 0)
 have HL3:=hide (HL.out.on hb3)
 have hs3:=hb3.size
 clear hp hb3 q4 q5 m0
 cases p
 ·clear s5
  go_wp2_with fail
  go_ret
  exact ⟨false,rfl,HB3.out,fun h=>by cases h⟩
 go_wp2_with fail
 refine (BrHas_any w3 HL3.out M3.out (by omega) (by omega) (by omega) HFL.out).mono ?_
 rintro e w4 ⟨p,rfl,hb4,hp4⟩
 have HP4:=hide hp4
 have HB4:=hide (HB3.out.trans (hb4.mono HB3.out.size))
 clear hp4 hb4 s5
 cases p
 ·go_wp2_with fail
  go_ret
  refine ⟨true,rfl,HB4.out,fun _=>?_⟩
  have h1:=HP.out (by first|rfl|trivial)
  have h2:=HP4.out (by first|rfl|trivial)
  exact ⟨⟨by rw [HLL.out];omega,fun ns hn=>⟨by have:=(h2 ns hn).1;omega,(h2 ns hn).2⟩⟩,⟨by rw [HUL.out];exact h1.1,h1.2⟩⟩
 ·go_wp2_with fail
  go_ret
  exact ⟨false,rfl,HB4.out,fun h=>by cases h⟩
theorem PStack_any {g:GeoQ} {AU AL:Option Addr} {nU cU nL cL:Nat} {up:List NodV} {ls:List (List NodV)} (w:World) (hu:RdE nodEn w (Under w.heap.size) AU nU up) (h:RdE layEn w (Under w.heap.size) AL nL ls) (hfu:FineN up) (hfl:∀ns∈ls,FineN ns) :
  Calls Tryd.prog 5 #[.agg (stkC g (.slice AU nU cU) (.slice AL nL cL)).toArray,.int .i64 24] w (IfRet w true (FewL ls∧FewB 24 up)):=PStackM_any (by omega) w hu h hfu hfl
end Go.Proofs.YtfdbhldnohaopaaDoor

namespace Go.Proofs.YtfdbhldnohaopaaDoor
open Go.RowKit Go.Shelf Plain

def ndD:NodV:={nod0 with k:=1,n:=2}
def ndA:NodV:={nod0 with k:=1,n:=2,ents:=[⟨0,2,[97]⟩]}
def ndF:NodV:={nod0 with k:=2,n:=1,g:=3,data:=[120]}
def lyB:List NodV:=[ndA,ndF,nod0,nod0,nod0]
def lsB:List (List NodV):=[lyB]
def gB:GeoQ:=⟨1,5,6,5⟩
theorem ba_few:FewL lsB:=by
 refine ⟨by decide,fun ns hns=>?_⟩
 rw [List.mem_singleton.1 hns]
 refine ⟨by decide,fun x hx=>?_⟩
 simp only [lyB,List.mem_cons,List.not_mem_nil,or_false] at hx
 rcases hx with rfl|rfl|rfl|rfl|rfl
 ·refine ⟨fun i e hi he=>?_,by decide,by decide,by decide,by decide,by decide,fun e he=>?_⟩
  ·obtain rfl:i=0:=by have:i < 1:=hi;omega
   cases he
   exact ⟨by decide,by decide,fun p h=>absurd h (by omega)⟩
  ·rw [List.mem_singleton.1 he]
   decide
 ·exact ⟨fun i e hi he=>absurd hi (by simp [ndF,nod0]),by decide,by decide,by decide,by decide,by decide,fun e he=>by simp [ndF,nod0] at he⟩
 ·exact plain0
 ·exact plain0
 ·exact plain0
def AggRet (w:World) (cs:List Value) (e:Ending) (w':World):Prop:=e=.returned (.agg cs.toArray)∧Below w.heap.size w w'
set_option maxRecDepth 100000 in
set_option maxHeartbeats 1600000 in
theorem Dir_any {C:Option Addr} {m d:Nat} (w:World):Calls Tryd.prog 49 #[.slice C m d] w (AggRet w (nodC ndD (.slice none 0 0) (.slice C m d))):=by
 have hz:=RowL.new w 37 (nodC nod0 (.slice none 0 0) (.slice none 0 0))
 have hb:=below_new (below_self w) (.cells (nodC nod0 (.slice none 0 0) (.slice none 0 0)).toArray 37)
 have HZ:=hide hz
 have HB:=hide hb
 clear hz hb
 go_enter Tryd.func49,Tryd.ntmps49
 go_wp2_with (refine wpList_storeW rfl 37 (.tmp 2) (.tmp 4) rfl 13 nod_size w.heap.size 37 rfl (nodC nod0 (.slice none 0 0) (.slice none 0 0)) (nodC ndD (.slice none 0 0) (.slice C m d)) rfl HZ.out rfl rfl (nodC_one _ _ _ _ _ _ _) ?_;intro w9 hr9 hg9 hs9;have HR9:=hide hr9;have HB9:=hide (HB.out.grown hg9 HB.out.size (pu4 (by omega)));clear hr9 hg9 hs9)
 exact bodyPost_ret (res_cell Tryd.results49 rfl nod_agg nod_size HR9.out rfl) rfl ⟨rfl,HB9.out⟩
set_option maxRecDepth 100000 in
theorem lit_nods {c0 c1 c2 c3 c4:List Value} (h0:c0.length=13) (h1:c1.length=13) (h2:c2.length=13) (h3:c3.length=13) (h4:c4.length=13) (W:World):(Instr.buildSlice 24 5 #[(0,.agg c0.toArray),(1,.agg c1.toArray),(2,.agg c2.toArray),(3,.agg c3.toArray),(4,.agg c4.toArray)]).run Tryd.prog W=.ok (.slice (some ⟨W.heap.size,0,none⟩) 5 5) (W.alloc (.cells (c0++(c1++(c2++(c3++c4)))).toArray 37)):=by
 obtain ⟨it,hi,hz,hsz,-⟩:=info_parts nodw_info
 refine run_buildSlice W _ 37 5 _ _ it _ Tryd.underlying24 hi hz (by omega) (by omega) ?_
 rw [hsz]
 have:=Great.fill_whole (s:=13) (by omega) [.agg c0.toArray,.agg c1.toArray,.agg c2.toArray,.agg c3.toArray,.agg c4.toArray] ((Array.range (5*13)).map ((Value.agg nodZ.toArray).cells[· % (Value.agg nodZ.toArray).cells.size]!)) (by intro v hv;simp only [List.mem_cons,List.not_mem_nil,or_false] at hv;rcases hv with rfl|rfl|rfl|rfl|rfl <;> simp [Value.cells,h0,h1,h2,h3,h4]) (by simp)
 simpa [Value.cells] using this
theorem wpList_lit5 {P:Program} {w w':World} {ops:Array Oper} {rest:List Oper} {o:Oper} {a:Act} {Q:Exit→Act→World→Prop} (hgd:o.guard=none) (t:Nat) (x0 x1 x2 x3 x4:Operand) (ho:o.op=.buildSlice t 5 #[(0,x0),(1,x1),(2,x2),(3,x3),(4,x4)]) (v0 v1 v2 v3 v4 v:Value) (h0:a.eval x0=v0) (h1:a.eval x1=v1) (h2:a.eval x2=v2) (h3:a.eval x3=v3) (h4:a.eval x4=v4) (hr:(Instr.buildSlice t 5 #[(0,v0),(1,v1),(2,v2),(3,v3),(4,v4)]).run P w=.ok v w') (hK:wpList P ops Q rest (a.put o.dst v) w'):wpList P ops Q (o::rest) a w:=by
 refine wpList_plain hgd fun K hK'=>?_
 unfold Oper.wp execOp
 simp only [ho,List.map_toArray,List.map_cons,List.map_nil,h0,h1,h2,h3,h4,Sem.run_bind,Sem.run_pure,Result.andThen_ok,hr]
 exact hK' _ _ hK
theorem nods_row {W:World} {D:Nat→Prop} {g:Nat} {c0 c1 c2 c3 c4:List Value} {x0 x1 x2 x3 x4:NodV} (h:RowL W g 37 (c0++(c1++(c2++(c3++c4))))) (hD:D g) (h0:NodR W D c0 x0) (h1:NodR W D c1 x1) (h2:NodR W D c2 x2) (h3:NodR W D c3 x3) (h4:NodR W D c4 x4):RdE nodEn W D (some ⟨g,0,none⟩) 5 [x0,x1,x2,x3,x4]:=by
 have hcs:CellsE nodEn W D [c0,c1,c2,c3,c4] [x0,x1,x2,x3,x4]:=by
  refine ⟨rfl,fun i cs x hc hx=>?_⟩
  have hi:i < 5:=(List.getElem?_eq_some_iff.1 hx).1
  obtain rfl|rfl|rfl|rfl|rfl:i=0∨i=1∨i=2∨i=3∨i=4:=by omega
  all_goals (cases hc;cases hx;assumption)
 refine ⟨rfl,fun _=>⟨g,0,rfl,hD,fun i x hx=>?_⟩⟩
 have hi:i < 5:=(List.getElem?_eq_some_iff.1 hx).1
 have hc:[c0,c1,c2,c3,c4][i]?=some ([c0,c1,c2,c3,c4][i]'hi):=List.getElem?_eq_getElem (l:=[c0,c1,c2,c3,c4]) hi
 have hR:=hcs.2 i _ x hc hx
 refine ⟨_,hR,fun j v hv=>?_⟩
 have hj:j < 13:=by have:=(List.getElem?_eq_some_iff.1 hv).1;have h13:=nodEn.len hR;rw [h13] at this;exact this
 rw [Nat.zero_add,h.cell]
 have:=flat_get hcs.lens hc hj
 rw [show [c0,c1,c2,c3,c4].flatten=c0++(c1++(c2++(c3++c4))) from by simp] at this
 exact this.trans hv
theorem nod0R (W:World) (D:Nat→Prop):NodR W D (nodC nod0 (.slice none 0 0) (.slice none 0 0)) nod0:=⟨none,0,0,none,0,0,rfl,Nat.le_refl _,RdE.none_ _ _ _ _,Nat.le_refl _,RdE.none_ _ _ _ _⟩
theorem ndDR (W:World) (D:Nat→Prop):NodR W D (nodC ndD (.slice none 0 0) (.slice none 0 0)) ndD:=⟨none,0,0,none,0,0,rfl,Nat.le_refl _,RdE.none_ _ _ _ _,Nat.le_refl _,RdE.none_ _ _ _ _⟩
theorem lay_row {W:World} {D:Nat→Prop} {g t n c:Nat} {A:Option Addr} {ns:List NodV} (h:RowL W g t [.slice A n c]) (hD:D g) (hc:n≤c) (hr:RdE nodEn W D A n ns):RdE layEn W D (some ⟨g,0,none⟩) 1 [ns]:=by
 refine ⟨rfl,fun _=>⟨g,0,rfl,hD,fun i x hx=>?_⟩⟩
 have hi:i=0:=by have:=(List.getElem?_eq_some_iff.1 hx).1;simpa using this
 subst hi
 cases hx
 refine ⟨[.slice A n c],⟨A,n,c,rfl,hc,hr⟩,fun j v hv=>?_⟩
 rw [Nat.zero_mul,Nat.zero_add,Nat.zero_add]
 exact (h.cell j).trans hv
def Fr (base:Nat) (W:World) (b:Nat):Prop:=base≤b∧b < W.heap.size
theorem RdE.onF {α:Type} {E:Enc α} {W W':World} {base n:Nat} {A:Option Addr} {l:List α} (h:RdE E W (Fr base W) A n l) (hb:Below W.heap.size W W'):RdE E W' (Fr base W') A n l:=h.mono (fun b hb'=>hb.block b hb'.2) (fun _ hb'=>⟨hb'.1,Nat.lt_of_lt_of_le hb'.2 hb.size⟩)
theorem RdE.grF {α:Type} {E:Enc α} {W W':World} {base n g:Nat} {A:Option Addr} {l:List α} (h:RdE E W (Fr base W) A n l) (hg:W.grownBy W' (some g)) (hgb:g < base):RdE E W' (Fr base W') A n l:=h.mono (fun b hb'=>hg.block b hb'.2 (fun e=>by have:=Option.some.inj e;have:=hb'.1;omega)) (fun _ hb'=>⟨hb'.1,Nat.lt_of_lt_of_le hb'.2 hg.size⟩)
theorem wpList_lit5N {w : World} {ops : Array Oper} {rest : List Oper} {o : Oper} {a : Act} {Q : Exit → Act → World → Prop} (hgd : o.guard = none) (x0 x1 x2 x3 x4 : Operand) (ho : o.op = .buildSlice 24 5 #[(0, x0), (1, x1), (2, x2), (3, x3), (4, x4)]) {c0 c1 c2 c3 c4 : List Value} (h0 : a.eval x0 = .agg c0.toArray) (h1 : a.eval x1 = .agg c1.toArray) (h2 : a.eval x2 = .agg c2.toArray) (h3 : a.eval x3 = .agg c3.toArray) (h4 : a.eval x4 = .agg c4.toArray) (k0 : c0.length = 13) (k1 : c1.length = 13) (k2 : c2.length = 13) (k3 : c3.length = 13) (k4 : c4.length = 13)
  (hK:∀w',RowL w' w.heap.size 37 (c0++(c1++(c2++(c3++c4))))→Below w.heap.size w w'→wpList Tryd.prog ops Q rest (a.put o.dst (.slice (some ⟨w.heap.size,0,none⟩) 5 5)) w'):wpList Tryd.prog ops Q (o::rest) a w :=
 wpList_lit5 hgd 24 x0 x1 x2 x3 x4 ho _ _ _ _ _ _ h0 h1 h2 h3 h4 (lit_nods k0 k1 k2 k3 k4 w) (hK _ (RowL.new w 37 _) (below_new (below_self w) _))
theorem byte_row {W:World} {D:Nat→Prop} {g t:Nat} {l:List UInt8} (h:RowL W g t (bvs l)) (hD:D g):RdE Enc.byte W D (some ⟨g,0,none⟩) l.length l :=
 RdE.of_bs (B:=W.heap.size) ⟨rfl,fun _=>⟨g,0,rfl,h.lt,fun i x hx=>by rw [Nat.zero_add,h.cell];exact bvs_get hx⟩⟩ (fun _ a ha=>by cases ha;exact hD)
end Go.Proofs.YtfdbhldnohaopaaDoor

namespace Go.Proofs.YtfdbhldnohaopaaDoor
open Go.RowKit Plain

abbrev ViewV:=Int×List (Int×Int)
def PlainX (x:NodV):Prop:=True∧(0≤x.k∧x.k≤4)∧(0≤x.att.h∧x.att.h≤31)∧x.data.length≤300∧x.ents.length≤17∧x.att.r.length≤40∧True
theorem PlainN.toX {x:NodV} (h:PlainN x):PlainX x:=⟨trivial,h.2.1,h.2.2.1,h.2.2.2.1,Nat.le_succ_of_le h.2.2.2.2.1,h.2.2.2.2.2.1,trivial⟩
end Go.Proofs.YtfdbhldnohaopaaDoor

