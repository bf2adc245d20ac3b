import Derived.Test.YtmhiohnkjpglfaaGreatWs14
import Derived.Test.YtmhiohnkjpglfaaGreatWs18
import Derived.Test.YtmhiohnkjpglfaaGreatWs17
import Derived.Test.YtmhiohnkjpglfaaGreatWs1
import Derived.Test.YtmhiohnkjpglfaaGreatWs2
import Derived.Lib.CutLaws
import Derived.IntWalk
import Derived.BigQuiet
import Derived.Deep.QuietTactic
import Derived.Test.YtmhiohnkjpglfaaGreatWs16
import Derived.StillTailTactics

namespace Go.Proofs.YtmhiohnkjpglfaaGreat
open Go.RowKit Go.Shelf Plain

theorem fr_on {α:Type} {E:Enc α} {w w':World} {lo:Nat} {A:Option Addr} {n:Nat} {l:List α} (h:RdE E w (fun b=>lo≤b∧b < w.heap.size) A n l) (hb:Below w.heap.size w w'):RdE E w' (fun b=>lo≤b∧b < w'.heap.size) A n l :=
 h.mono (Kept.of_below hb fun _ h=>h.2) fun _ h=>⟨h.1,Nat.lt_of_lt_of_le h.2 hb.size⟩
theorem fr_grown {α:Type} {E:Enc α} {w w':World} {lo g:Nat} {A:Option Addr} {n:Nat} {l:List α} (h:RdE E w (fun b=>lo≤b∧b < w.heap.size) A n l) (hg:w.grownBy w' (some g)) (hlo:g < lo):RdE E w' (fun b=>lo≤b∧b < w'.heap.size) A n l :=
 h.mono (fun b hb=>hg.block b hb.2 (pu5 (by omega))) fun _ h=>⟨h.1,Nat.lt_of_lt_of_le h.2 hg.size⟩
theorem und_grown {α:Type} {E:Enc α} {w w':World} {B g:Nat} {A:Option Addr} {n:Nat} {l:List α} (h:RdE E w (Under B) A n l) (hg:w.grownBy w' (some g)) (hB:B≤w.heap.size) (hlo:B≤g):RdE E w' (Under B) A n l :=
 h.mono (fun b hb=>hg.block b (Nat.lt_of_lt_of_le hb hB) (fun e=>by have:=Option.some.inj e;unfold Under at hb;omega)) fun _ h=>h
theorem fr_under {α:Type} {E:Enc α} {w:World} {lo:Nat} {A:Option Addr} {n:Nat} {l:List α} (h:RdE E w (fun b=>lo≤b∧b < w.heap.size) A n l):RdE E w (Under w.heap.size) A n l:=h.mono (fun _ _=>rfl) fun _ h=>h.2
theorem fr_low {α:Type} {E:Enc α} {w:World} {lo lo':Nat} {A:Option Addr} {n:Nat} {l:List α} (h:RdE E w (fun b=>lo≤b∧b < w.heap.size) A n l) (hl:lo'≤lo):RdE E w (fun b=>lo'≤b∧b < w.heap.size) A n l:=h.mono (fun _ _=>rfl) fun _ h=>⟨Nat.le_trans hl h.1,h.2⟩
theorem splice_one (l:List Value) (p:Nat) (v:Value) (h:p < l.length):splice l p [v]=l.set p v:=by
 apply List.ext_getElem?
 intro i
 rw [splice_get _ _ _ _ (by simp;omega),List.getElem?_set]
 by_cases h1:p=i
 ·subst h1
  simp [h]
 ·rw [if_neg h1]
  by_cases h2:i < p
  ·rw [if_pos h2]
  ·have h3:¬i < p+[v].length:=by simp;omega
   rw [if_neg h2,if_neg h3]
theorem wpList_storeV {P : Program} {w : World} {ops : Array Oper} {rest : List Oper} {o : Oper} {a : Act} {Q : Exit → Act → World → Prop} (hgd : o.guard = none) (T : Nat) (x y : Operand) (ho : o.op = .store T x y)
  (hsz:∀w,(sizeOf T).run P w=.ok 1 w) (g off t:Nat) (hx:a.eval x=.pointer (some ⟨g,off,none⟩)) (v:Value) (hy:a.eval y=v) (hv:v.cells=#[v]) (h1:v.oneCell'=true) (cur:List Value) (h:RowL w g t cur) (hfit:off < cur.length)
  (hK:∀w',RowL w' g t (cur.set off v)→w.grownBy w' (some g)→w'.heap.size=w.heap.size→wpList P ops Q rest (a.put o.dst undef) w'):wpList P ops Q (o::rest) a w:=by
 refine wpList_plain hgd fun K hK'=>?_
 have hst:=run_storeCells_at P g off t [v] 0 cur.toArray w h (by simp;omega) (by simp [h1])
 simp only [Nat.add_zero] at hst
 have hr:(Instr.storeAt T (.pointer (some ⟨g,off,none⟩)) v).run P w=.ok () (w.setRow g (splice cur off [v]).toArray):=by
  simp [Instr.storeAt,Instr.sureAddr,storeVar,hsz,hv,hst,splice]
 unfold Oper.wp execOp
 simp only [ho,Sem.run_bind,Sem.run_pure,Result.andThen_ok,hx,hy,hr]
 have hrow:=h.setRow_ (splice cur off [v])
 rw [splice_one _ _ _ hfit] at hrow ⊢
 exact hK' _ _ (hK _ hrow (grownBy_setRow _ _ _) (by simp))
theorem und_up {α:Type} {E:Enc α} {w:World} {B:Nat} {A:Option Addr} {n:Nat} {l:List α} (h:RdE E w (Under B) A n l) (hB:B≤w.heap.size):RdE E w (Under w.heap.size) A n l:=h.mono (fun _ _=>rfl) fun _ h=>Nat.lt_of_lt_of_le h hB
theorem sub_cell {cur cs:List Value} {off k:Nat} (h:(cur.drop off).take k=cs) {j:Nat} {v:Value} (hv:cs[j]?=some v):cur[off+j]?=some v:=by
 subst h
 rw [List.getElem?_take] at hv
 split at hv
 ·rwa [List.getElem?_drop] at hv
 ·cases hv
theorem rowA1 (w:World) (c1:List Value) (t1:Nat) {W:World} (hW:w.alloc (.cells c1.toArray t1)=W):RowL W w.heap.size t1 c1∧Below w.heap.size w W∧W.heap.size=w.heap.size+1:=by
 subst hW
 exact ⟨RowL.new w t1 c1,below_new (below_self w) _,by simp⟩
theorem rowA2 (w:World) (c1:List Value) (t1:Nat) (c2:List Value) (t2:Nat) {W:World} (hW:(w.alloc (.cells c1.toArray t1)).alloc (.cells c2.toArray t2)=W):RowL W w.heap.size t1 c1∧RowL W (w.heap.size+1) t2 c2∧Below w.heap.size w W∧W.heap.size=w.heap.size+2:=by
 subst hW
 exact rows2 w c1 c2 t1 t2
theorem rowA3 (w:World) (c1:List Value) (t1:Nat) (c2:List Value) (t2:Nat) (c3:List Value) (t3:Nat) {W:World} (hW:((w.alloc (.cells c1.toArray t1)).alloc (.cells c2.toArray t2)).alloc (.cells c3.toArray t3)=W):RowL W w.heap.size t1 c1∧RowL W (w.heap.size+1) t2 c2∧RowL W (w.heap.size+1+1) t3 c3∧Below w.heap.size w W∧W.heap.size=w.heap.size+3:=by
 subst hW
 exact rows3 w c1 c2 c3 t1 t2 t3
theorem rowA4 (w:World) (c1:List Value) (t1:Nat) (c2:List Value) (t2:Nat) (c3:List Value) (t3:Nat) (c4:List Value) (t4:Nat) {W:World} (hW:(((w.alloc (.cells c1.toArray t1)).alloc (.cells c2.toArray t2)).alloc (.cells c3.toArray t3)).alloc (.cells c4.toArray t4)=W):RowL W w.heap.size t1 c1∧RowL W (w.heap.size+1) t2 c2∧RowL W (w.heap.size+1+1) t3 c3∧RowL W (w.heap.size+1+1+1) t4 c4∧Below w.heap.size w W∧W.heap.size=w.heap.size+4:=rows4 w _ _ _ _ _ _ _ _ hW
end Go.Proofs.YtmhiohnkjpglfaaGreat

namespace Go.Proofs.YtmhiohnkjpglfaaGreat
open Go.RowKit Go.Shelf Plain

def viwC (u:Int) (s:Value):List Value:=[.int .i64 u,s]
def vwdC (g:GeoQ) (U L:Value) (u:Int) (s:Value):List Value:=[.int .i64 g.a,.int .i64 g.b,.int .i64 g.c,.int .i64 g.d,U,L,.int .i64 u,s]
theorem viwC_one (u:Int) (A:Option Addr) (n c:Nat):∀v∈viwC u (.slice A n c),v.oneCell'=true:=by simp [viwC,Value.oneCell']
theorem vwdC_one (g:GeoQ) (A B C:Option Addr) (n c m d k e:Nat) (u:Int):∀v∈vwdC g (.slice A n c) (.slice B m d) u (.slice C k e),v.oneCell'=true:=by simp [vwdC,Value.oneCell']
set_option maxRecDepth 100000 in
theorem viw_agg:∀w,(isAgg 51).run Tryz.prog w=.ok true w:=fun w=>by kernel_rfl
set_option maxRecDepth 100000 in
theorem viw_size:∀w,(Go.sizeOf 51).run Tryz.prog w=.ok 2 w:=fun w=>by kernel_rfl
set_option maxRecDepth 100000 in
theorem vwd_agg:∀w,(isAgg 186).run Tryz.prog w=.ok true w:=fun w=>by kernel_rfl
set_option maxRecDepth 100000 in
theorem vwd_size:∀w,(Go.sizeOf 186).run Tryz.prog w=.ok 8 w:=fun w=>by kernel_rfl
set_option maxRecDepth 100000 in
theorem int_size:∀w,(Go.sizeOf 3).run Tryz.prog w=.ok 1 w:=fun w=>by kernel_rfl
def FewU (up:List NodV):Prop:=up.length≤24∧∀x∈up,PlainN x
def FewX (up:List NodV):Prop:=up.length≤24∧∀x∈up,PlainX x
theorem FewU.toX {up:List NodV} (h:FewU up):FewX up:=⟨h.1,fun x hx=>(h.2 x hx).toX⟩
instance coeFewX {up:List NodV}:Coe (FewU up) (FewX up):=⟨FewU.toX⟩
def ViewF (lo:Nat) (w:World) (v:ViewV) (e:Ending) (w':World):Prop:=∃A c,e=.returned (.agg (viwC v.1 (.slice A v.2.length c)).toArray)∧RdE prEn w' (fun b=>lo≤b∧b < w'.heap.size) A v.2.length v.2∧Below w.heap.size w w'
set_option maxRecDepth 100000 in
set_option maxHeartbeats 1600000 in
theorem VOpq_b {x:NodV} {D C:Option Addr} {n c m d:Nat} {b:Bool} (hb:opqD x=b) (h0:0≤x.att.h) (h1:x.att.h≤31) (w:World):Calls Tryz.prog 122 #[.agg (nodC x (.slice D n c) (.slice C m d)).toArray] w (BoolB w b):=by
 obtain ⟨W1,hW1⟩:∃W1,(w.alloc (.cells (nodC x (.slice D n c) (.slice C m d)).toArray 67))=W1:=⟨_,rfl⟩
 obtain ⟨r0,hb1,hs1⟩:=rowA1 w _ _ hW1
 have hW1':(w.alloc (.cells #[.int .i64 x.k,.int .i64 x.p,.int .i64 x.n,.int .i64 x.g,.slice D n c,.slice C m d,.int .i64 x.att.h,.int .i64 x.att.o,.string ⟨x.att.r.toArray⟩,.int .i64 x.att.l,.int .i64 x.att.i,.int .i64 x.att.g,.int .i64 x.att.s] 67))=W1:=hW1
 have R1:=hide r0
 have HB:=hide hb1
 have hsz0:=hb1.size
 obtain ⟨b1,hb1'⟩:∃b1,(x.k==1)=b1:=⟨_,rfl⟩
 obtain ⟨b2,hb2⟩:∃b2,opq x=b2:=⟨_,rfl⟩
 have HO:=hide hb2
 have e:b=(b1&&b2):=by
  rw [←hb,←hb1',←hb2]
  unfold opqD
  congr 1
 subst e
 have q1_0:W1.cell? ⟨w.heap.size,0,none⟩=some (.int .i64 x.k):=R1.out.cell 0
 have q1_1:W1.cell? ⟨w.heap.size,1,none⟩=some (.int .i64 x.p):=R1.out.cell 1
 have q1_2:W1.cell? ⟨w.heap.size,2,none⟩=some (.int .i64 x.n):=R1.out.cell 2
 have q1_3:W1.cell? ⟨w.heap.size,3,none⟩=some (.int .i64 x.g):=R1.out.cell 3
 have q1_4:W1.cell? ⟨w.heap.size,4,none⟩=some (.slice D n c):=R1.out.cell 4
 have q1_5:W1.cell? ⟨w.heap.size,5,none⟩=some (.slice C m d):=R1.out.cell 5
 have q1_6:W1.cell? ⟨w.heap.size,6,none⟩=some (.int .i64 x.att.h):=R1.out.cell 6
 have q1_7:W1.cell? ⟨w.heap.size,7,none⟩=some (.int .i64 x.att.o):=R1.out.cell 7
 have q1_8:W1.cell? ⟨w.heap.size,8,none⟩=some (.string ⟨x.att.r.toArray⟩):=R1.out.cell 8
 have q1_9:W1.cell? ⟨w.heap.size,9,none⟩=some (.int .i64 x.att.l):=R1.out.cell 9
 have q1_10:W1.cell? ⟨w.heap.size,10,none⟩=some (.int .i64 x.att.i):=R1.out.cell 10
 have q1_11:W1.cell? ⟨w.heap.size,11,none⟩=some (.int .i64 x.att.g):=R1.out.cell 11
 have q1_12:W1.cell? ⟨w.heap.size,12,none⟩=some (.int .i64 x.att.s):=R1.out.cell 12
 unfold nodC
 clear r0 hb1 hW1 hb hb2
 cases b1 <;> cases b2
 all_goals
  go_enter Tryz.func122,Tryz.ntmps122
  go_wp2_with (first|(go_at_call 159;refine (Marked_b (by exact HO.out) h0 h1 W1).mono ?_;rintro e1 wX ⟨rfl,hbel⟩;clear q1_0 q1_1 q1_2 q1_3 q1_4 q1_5 q1_6 q1_7 q1_8 q1_9 q1_10 q1_11 q1_12;replace HB:=hide (HB.out.trans (hbel.mono HB.out.size));replace R1:=hide (R1.out.on hbel);have hsz2:=hbel.size;have q1_0:wX.cell? ⟨w.heap.size,0,none⟩=some (.int .i64 x.k):=R1.out.cell 0;have q1_1:wX.cell? ⟨w.heap.size,1,none⟩=some (.int .i64 x.p):=R1.out.cell 1;have q1_2:wX.cell? ⟨w.heap.size,2,none⟩=some (.int .i64 x.n):=R1.out.cell 2;have q1_3:wX.cell? ⟨w.heap.size,3,none⟩=some (.int .i64 x.g):=R1.out.cell 3;have q1_4:wX.cell? ⟨w.heap.size,4,none⟩=some (.slice D n c):=R1.out.cell 4;have q1_5:wX.cell? ⟨w.heap.size,5,none⟩=some (.slice C m d):=R1.out.cell 5;have q1_6:wX.cell? ⟨w.heap.size,6,none⟩=some (.int .i64 x.att.h):=R1.out.cell 6;have q1_7:wX.cell? ⟨w.heap.size,7,none⟩=some (.int .i64 x.att.o):=R1.out.cell 7;have q1_8:wX.cell? ⟨w.heap.size,8,none⟩=some (.string ⟨x.att.r.toArray⟩):=R1.out.cell 8;have q1_9:wX.cell? ⟨w.heap.size,9,none⟩=some (.int .i64 x.att.l):=R1.out.cell 9;have q1_10:wX.cell? ⟨w.heap.size,10,none⟩=some (.int .i64 x.att.i):=R1.out.cell 10;have q1_11:wX.cell? ⟨w.heap.size,11,none⟩=some (.int .i64 x.att.g):=R1.out.cell 11;have q1_12:wX.cell? ⟨w.heap.size,12,none⟩=some (.int .i64 x.att.s):=R1.out.cell 12;clear hbel))
  go_ret
  exact BoolB.of HB.out
end Go.Proofs.YtmhiohnkjpglfaaGreat

namespace Go.Proofs.YtmhiohnkjpglfaaGreat
open Go.RowKit Plain

theorem index_no {l:List UInt8} (h:∀c∈l,c≠47):Lib.indexByte l 47 = -1:=by
 induction l with
 | nil=>rfl
 | cons x r ih =>
  have hx:(x==47)=false:=by simpa using h x List.mem_cons_self
  have hr:=ih (fun c hc=>h c (List.mem_cons_of_mem _ hc))
  unfold Lib.indexByte
  rw [hx,hr]
  rfl
theorem index_yes {p q:List UInt8} (h:∀c∈p,c≠47):Lib.indexByte (p++47::q) 47=p.length:=by
 induction p with
 | nil=>rfl
 | cons x r ih =>
  have hx:(x==47)=false:=by simpa using h x List.mem_cons_self
  have hr:=ih (fun c hc=>h c (List.mem_cons_of_mem _ hc))
  rw [List.cons_append]
  unfold Lib.indexByte
  rw [hx,hr]
  have:(((r.length:Nat):Int) == -1)=false:=by simp
  rw [this]
  simp

def CutRet (w:World) (p q:List UInt8) (b:Bool) (x:Ending) (w':World):Prop:=x=.returned (.tuple #[st p,st q,.bool b])∧∃n,w'=w.drewN n

set_option maxHeartbeats 400000 in
theorem CutL_no {l:List UInt8} (h:∀c∈l,c≠47) (w:World) :
  Calls Tryz.prog 150 #[st l,.string ⟨#[47]⟩] w (CutRet w l [] false):=by
 have hc:=fun (w:World)=>Tryz.stringslite_Index_one ⟨l.toArray⟩ 47 w
 simp only [index_no h] at hc
 have HC:=hide hc
 clear hc h
 unfold st
 go_enter Tryz.func150,Tryz.ntmps150
 go_wp2_with fail
 refine (HC.out _).mono ?_
 rintro e w' ⟨rfl,rfl⟩
 go_wp2_with fail
 go_ret3
 exact ⟨rfl,0,rfl⟩

set_option maxHeartbeats 400000 in
theorem CutL_yes {p q:List UInt8} (h:∀c∈p,c≠47) (w:World) (hn:(p++47::q).length≤140737488355328) :
  Calls Tryz.prog 150 #[st (p++47::q),.string ⟨#[47]⟩] w (CutRet w p q true):=by
 have hc:=fun (w:World)=>Tryz.stringslite_Index_one ⟨(p++47::q).toArray⟩ 47 w
 simp only [index_yes h] at hc
 have HC:=hide hc
 obtain ⟨l,hl⟩:∃l,p++47::q=l:=⟨_,rfl⟩
 rw [hl] at HC hn ⊢
 have hln:p.length+1≤l.length:=by rw [←hl];simp
 have HL:=hide hl
 clear hc h hl
 unfold st
 have c1:(0:Int)≤(p.length:Int):=by omega
 have c2:(p.length:Int)≤(l.length:Int):=by omega
 have c3:(0:Int)≤(p.length:Int)+1:=by omega
 have c4:(p.length:Int)+1≤(l.length:Int):=by omega
 have hw1:IntKind.i64.wrap ((p.length:Int)+1)=(p.length:Int)+1:=IntWalk.i64_in _ (by omega)
 have hw2:((p.length:Int)+1).toNat=p.length+1:=by omega
 go_enter Tryz.func150,Tryz.ntmps150
 go_wp2_with fail
 refine (HC.out _).mono ?_
 rintro e w' ⟨rfl,rfl⟩
 go_wp2_with fail
 go_region
 go_wp2
 go_ret3
 have hl:=HL.out
 have e1:({data:=l.toArray}:ByteArray).extract 0 p.length=⟨p.toArray⟩:=by rw [Lib.extract_eq,←hl];simp
 have e2:({data:=l.toArray}:ByteArray).extract (p.length+1) l.length=⟨q.toArray⟩:=by
  rw [Lib.extract_eq,←hl]
  simp
  exact List.take_of_length_le (by omega)
 refine ⟨?_,1,rfl⟩
 show Ending.returned (.tuple #[.string (({data:=l.toArray}:ByteArray).extract 0 p.length),.string (({data:=l.toArray}:ByteArray).extract (p.length+1) l.length),.bool true])=_
 rw [e1,e2]
 rfl
theorem Cut_of {l p q:List UInt8} {b:Bool} (h:∀w:World,Calls Tryz.prog 150 #[st l,.string ⟨#[47]⟩] w (CutRet w p q b)) (w:World) :
  Calls Tryz.prog 111 #[st l,.string ⟨#[47]⟩] w (CutRet w p q b):=by
 have H:=hide h
 clear h
 unfold st
 go_enter Tryz.func111,Tryz.ntmps111
 go_wp2_with fail
 refine (H.out _).mono ?_
 rintro e w' ⟨rfl,n,rfl⟩
 go_wp2_with fail
 go_ret3
 exact ⟨rfl,n,rfl⟩
theorem Cut_no {l:List UInt8} (h:∀c∈l,c≠47) (w:World):Calls Tryz.prog 111 #[st l,.string ⟨#[47]⟩] w (CutRet w l [] false):=Cut_of (fun w=>CutL_no h w) w
theorem Cut_yes {p q:List UInt8} (h:∀c∈p,c≠47) (w:World) (hn:(p++47::q).length≤140737488355328):Calls Tryz.prog 111 #[st (p++47::q),.string ⟨#[47]⟩] w (CutRet w p q true):=Cut_of (fun w=>CutL_yes h w hn) w
end Go.Proofs.YtmhiohnkjpglfaaGreat

namespace Go.Proofs.YtmhiohnkjpglfaaGreat.Plain
theorem snoc_ind {α:Type} {P:List α→Prop} (h0:P []) (h1:∀l x,P l→P (l++[x])):∀l,P l:=by
  intro l
  rw [←List.reverse_reverse l]
  generalize l.reverse=r
  induction r with
  | nil=>exact h0
  | cons x r ih=>rw [List.reverse_cons];exact h1 _ _ ih
theorem joinS_head (l:List (List UInt8)):∃b,joinS l=47::b:=by
  induction l using snoc_ind with
  | h0=>exact ⟨[],rfl⟩
  | h1 l x ih =>
    obtain ⟨b,hb⟩:=ih
    rw [joinS_snoc,hb]
    split
    · exact ⟨b++x,rfl⟩
    · exact ⟨b++[47]++x,rfl⟩
theorem fold_noslash (x:List UInt8) (hx:∀c∈x,c≠47):∀(o:List (List UInt8)) (y:List UInt8),x.foldl stepP (o++[y])=o++[y++x]:=by
  induction x with
  | nil=>intro o y;simp
  | cons c r ih =>
    intro o y
    rw [List.foldl_cons]
    have hc:c≠47:=hx c List.mem_cons_self
    have hs:stepP (o++[y]) c=o++[y++[c]]:=by
      unfold stepP
      rw [if_neg hc]
      have hl:(o++[y]).length - 1=o.length:=by simp
      rw [hl,List.set_append_right _ _ (Nat.le_refl _),Nat.sub_self,List.set_cons_zero]
      have hg:(o++[y]).getD o.length []=y:=by simp [List.getD]
      rw [hg]
    rw [hs,ih (fun c hc=>hx c (List.mem_cons_of_mem _ hc))]
    simp
theorem parts_join {l:List (List UInt8)} (h:∀x∈l,∀c∈x,c≠47):partsS (joinS l)=if l=[] then [[]] else l:=by
  induction l using snoc_ind with
  | h0=>rfl
  | h1 l x ih =>
    have ih:=ih (fun y hy=>h y (List.mem_append_left _ hy))
    have hx:=h x (List.mem_append_right _ (List.mem_singleton.2 rfl))
    rw [if_neg (by simp),joinS_snoc]
    by_cases hl:l=[]
    · subst hl
      simp only [List.length_nil,if_true]
      show ((x.foldl stepP ([]++[[]])):List (List UInt8))=[]++[x]
      rw [fold_noslash x hx]
      rfl
    · have hll:¬l.length=0:=by intro e;exact hl (List.eq_nil_of_length_eq_zero e)
      rw [if_neg hll]
      rw [if_neg hl] at ih
      obtain ⟨b,hb⟩:=joinS_head l
      rw [hb] at ih ⊢
      have ih2:b.foldl stepP [[]]=l:=ih
      show ((b++[47]++x).foldl stepP [[]])=l++[x]
      rw [List.foldl_append,List.foldl_append,ih2]
      have h47:List.foldl stepP l [47]=l++[[]]:=rfl
      rw [h47,fold_noslash x hx]
      rfl
theorem join_parts {s:List UInt8} (h:headB s=true):joinS (partsS s)=s:=by
  obtain ⟨r,rfl⟩:∃r,s=47::r:=by
    cases s with
    | nil=>simp [headB] at h
    | cons c r => exact ⟨r, by have : c = 47 := by simpa [headB] using h
                               rw [this]⟩
  show joinS (r.foldl stepP [[]])=47::r
  suffices hh:(r.foldl stepP [[]])≠[]∧joinS (r.foldl stepP [[]])=47::r from hh.2
  clear h
  induction r using snoc_ind with
  | h0=>exact ⟨by simp,rfl⟩
  | h1 r c ih =>
    obtain ⟨ih1,ih2⟩:=ih
    rw [List.foldl_append,List.foldl_cons,List.foldl_nil]
    generalize r.foldl stepP [[]]=P at ih1 ih2 ⊢
    by_cases hc:c=47
    · subst hc
      have hs:stepP P 47=P++[[]]:=rfl
      rw [hs]
      refine ⟨by simp,?_⟩
      rw [joinS_snoc,if_neg (by intro e;exact ih1 (List.eq_nil_of_length_eq_zero e)),ih2]
      simp
    · obtain ⟨Q,y,rfl⟩:∃Q y,P=Q++[y]:=⟨P.dropLast,P.getLast ih1,(List.dropLast_concat_getLast ih1).symm⟩
      have hs:stepP (Q++[y]) c=Q++[y++[c]]:=by
        have:=fold_noslash [c] (by intro d hd;rw [List.mem_singleton] at hd;rw [hd];exact hc) Q y
        simpa using this
      rw [hs]
      refine ⟨by simp,?_⟩
      rw [joinS_snoc,←List.append_assoc,←joinS_snoc,ih2]
      rfl
theorem nameB_noslash {x:List UInt8} (h:nameB x=true):∀c∈x,c≠47:=by
  intro c hc e
  simp only [nameB,Bool.and_eq_true,List.all_eq_true] at h
  have:=h.2 c hc
  subst e
  simp [letB] at this
theorem nameB_not {x:List UInt8} (h:nameB x=true):¬(x=[]∨x=[46])∧¬x=[46,46]:=by
  refine ⟨?_,?_⟩
  · rintro (rfl|rfl) <;> simp [nameB] at h
  · rintro rfl;simp [nameB] at h
theorem left_names {l:List (List UInt8)} (h:l.all nameB=true):leftS l=some l:=by
  induction l using snoc_ind with
  | h0=>rfl
  | h1 l x ih =>
    rw [List.all_append,Bool.and_eq_true] at h
    have hx:nameB x=true:=by simpa using h.2
    rw [leftS_snoc,ih h.1]
    obtain ⟨n1,n2⟩:=nameB_not hx
    simp only [stepC,if_neg n1,if_neg n2,hx,if_true]
theorem left_all {l o:List (List UInt8)} (h:leftS l=some o):o.all nameB=true:=by
  induction l using snoc_ind generalizing o with
  | h0=>cases h;rfl
  | h1 l x ih =>
    rw [leftS_snoc] at h
    cases hl:leftS l with
    | none=>rw [hl] at h;cases h
    | some o1 =>
      rw [hl] at h
      have i1:=ih hl
      unfold stepC at h
      simp only at h
      split at h
      · cases h;exact i1
      · split at h
        · split at h
          · cases h
          · cases h
            rw [List.all_eq_true] at i1 ⊢
            exact fun y hy=>i1 y (List.dropLast_subset _ hy)
        · split at h
          · rename_i hx
            cases h
            rw [List.all_append,i1]
            simpa using hx
          · cases h
theorem split_join {o:List (List UInt8)} (h:o.all nameB=true):splitB (joinS o)=true∧splitS (joinS o)=o:=by
  have hn:∀x∈o,∀c∈x,c≠47:=fun x hx=>nameB_noslash (List.all_eq_true.1 h x hx)
  have hp:=parts_join hn
  by_cases ho:o=[]
  · subst ho;exact ⟨rfl,rfl⟩
  · rw [if_neg ho] at hp
    obtain ⟨b,hb⟩:=joinS_head o
    have hh:headB (joinS o)=true:=by rw [hb];rfl
    have hne:joinS o≠[47]:=by
      intro e
      rw [e] at hp
      have:partsS [47]=[[]]:=rfl
      rw [this] at hp
      rw [←hp] at h
      simp [nameB] at h
    refine ⟨?_,?_⟩
    · unfold splitB
      rw [hh,hp,h]
      simp
    · unfold splitS
      rw [if_neg hne,hh,hp,h]
      rfl
theorem clean_join {o:List (List UInt8)} (h:o.all nameB=true):cleanB (joinS o)=true∧cleanS (joinS o)=joinS o:=by
  have hn:∀x∈o,∀c∈x,c≠47:=fun x hx=>nameB_noslash (List.all_eq_true.1 h x hx)
  have hp:=parts_join hn
  obtain ⟨b,hb⟩:=joinS_head o
  have hh:headB (joinS o)=true:=by rw [hb];rfl
  have hl:leftS (partsS (joinS o))=some o:=by
    rw [hp]
    by_cases ho:o=[]
    · subst ho;rfl
    · rw [if_neg ho];exact left_names h
  refine ⟨?_,?_⟩
  · unfold cleanB;rw [hh,hl];rfl
  · unfold cleanS;rw [if_pos hh,hl]
theorem split_back {s:List UInt8} (h:splitB s=true):joinS (splitS s)=s∧cleanB s=true∧cleanS s=s:=by
  have key:(splitS s).all nameB=true∧joinS (splitS s)=s:=by
    by_cases h1:s=[47]
    · subst h1;exact ⟨rfl,rfl⟩
    · have h2:(headB s&&(partsS s).all nameB)=true:=by
        unfold splitB at h
        rw [Bool.or_eq_true,beq_iff_eq] at h
        rcases h with h|h
        · exact absurd h h1
        · exact h
      unfold splitS
      rw [if_neg h1,if_pos h2]
      rw [Bool.and_eq_true] at h2
      exact ⟨h2.2,join_parts h2.1⟩
  obtain ⟨k1,k2⟩:=key
  have:=clean_join k1
  rw [k2] at this
  exact ⟨k2,this⟩
end Go.Proofs.YtmhiohnkjpglfaaGreat.Plain

namespace Go.Proofs.YtmhiohnkjpglfaaGreat
open Go.RowKit Plain

def LRet (w:World) (e:Nat) (l:List (List UInt8)) (b:Bool) (x:Ending) (w':World):Prop :=
 ∃A n c,x=.returned (.tuple #[.slice A n c,.bool b])∧Ow st w' w.heap.size e A n c l∧Below w.heap.size w w'
theorem LRet.nil {w w':World} {e:Nat} {b:Bool} (h:Below w.heap.size w w'):LRet w e [] b (.returned (.tuple #[.slice none 0 0,.bool b])) w':=⟨none,0,0,rfl,Ow.nil_ _ _ _ _,h⟩

end Go.Proofs.YtmhiohnkjpglfaaGreat

