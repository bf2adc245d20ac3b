import Derived.Test.YtnhegahpfacdgaaDoorHn10
import Derived.Test.YtnhegahpfacdgaaDoorHn16
import Derived.RangeFuncCalls
import Derived.OwnWalkIn
import Derived.Test.YtnhegahpfacdgaaDoorHn13
import Derived.Great.BuildSlice
import Derived.Test.YtnhegahpfacdgaaDoorHn1
import Derived.Test.YtnhegahpfacdgaaDoorHn2
import Derived.Test.YtnhegahpfacdgaaDoorRows
import Derived.Test.YtnhegahpfacdgaaDoorHn3
import Derived.Test.YtnhegahpfacdgaaDoorHn4
import Derived.Sort.OwnSorted
import Derived.Lib.RowBridge
import Derived.DeepKeys4

namespace Go.Proofs.YtnhegahpfacdgaaDoor
open Go.RowKit Plain

section
variable {P : Program} {T : TypeId}
theorem execOp_load {ρ:Operand→Value} {o:Oper} {x:Operand} {k:Nat} {w:World} (ho:o.op=.load T x) (hag:∀w,(isAgg T).run P w=.ok true w) (hsz:∀w,(sizeOf T).run P w=.ok k w) {g off:Nat} {cs:List Value} (hx:ρ x=.pointer (some ⟨g,off,none⟩)) (h:∀j v,cs[j]?=some v→w.cell? ⟨g,off+j,none⟩=some v) (hk:cs.length=k) :
  (execOp ρ o).run P w=.ok (.value (.agg cs.toArray)) w:=by
 have hr:=run_loadAt_cells (P:=P) hag hsz h hk
 unfold execOp
 simp only [ho,Sem.run_bind,Sem.run_pure,Result.andThen_ok,hx,hr]
end
end Go.Proofs.YtnhegahpfacdgaaDoor

namespace Go.Proofs.YtnhegahpfacdgaaDoor
open Go

def ClosedP (md:Region.Mode) (ops:Array Oper) (listed:Array Bool):Prop:=∀k o,ops[k]?=some o→listed.getD k false=true→∀e∈o.after,Region.binds md e=true→listed.getD e.on false=true
section
variable {P : Program} {ops : Array Oper} {Q : Exit → Act → World → Prop} {S : World → Prop} {md : Region.Mode}
theorem gd_mono {listed:Array Bool} {k:Nat} (i:Nat) (h:listed.getD k false=true):(listed.setIfInBounds i true).getD k false=true:=by
 rw [Array.getD_eq_getD_getElem?] at h ⊢
 rw [Array.getElem?_setIfInBounds]
 split
 ·rename_i e
  subst e
  split
  ·rfl
  ·rename_i hn
   rw [Array.getElem?_eq_none (by omega)] at h
   exact h
 ·exact h
theorem ClosedP.zero (md:Region.Mode) (ops:Array Oper):ClosedP md ops (Array.replicate ops.size false):=fun k o _ h=>by
 rw [Array.getD_eq_getD_getElem?,Array.getElem?_replicate] at h
 split at h <;> cases h
theorem ClosedP.set {listed:Array Bool} {i:Nat} (h:ClosedP md ops listed) (hi:i∈Region.ready md ops listed):ClosedP md ops (listed.setIfInBounds i true):=fun k o ho hk e he hb=>by
 by_cases e':k=i
 ·subst e'
  obtain ⟨_,_,o',ho',h3⟩:=mem_ready.1 hi
  rw [ho] at ho'
  cases ho'
  exact gd_mono _ (h3 e he hb)
 ·refine gd_mono _ (h k o ho ?_ e he hb)
  rw [Array.getD_eq_getD_getElem?,Array.getElem?_setIfInBounds_ne (fun h=>e' h.symm)] at hk
  rw [Array.getD_eq_getD_getElem?]
  exact hk
end
end Go.Proofs.YtnhegahpfacdgaaDoor

namespace Go.Proofs.YtnhegahpfacdgaaDoor
open Go.RowKit Go.Shelf Plain
attribute [local go_sem] Oper.semAt_some

section
variable {B g m1 m2 : Nat} {ns : List NodV} {U V W : World}
end
theorem below_stored' {W2 W3:World} {o:Obj} (hg:(W2.alloc o).grownBy W3 (some W2.heap.size)):Below W2.heap.size W2 W3:=(below_new (below_self W2) o).grown hg (by simp) (fun g hg=>by have:=Option.some.inj hg;omega)
end Go.Proofs.YtnhegahpfacdgaaDoor

namespace Go.Proofs.YtnhegahpfacdgaaDoor
open Go.RowKit Go.Shelf Plain

def prC (q:Int×Int):List Value:=[.int .i64 q.1,.int .i64 q.2]
end Go.Proofs.YtnhegahpfacdgaaDoor

namespace Go.Proofs.YtnhegahpfacdgaaDoor.Plain
def letB (x:Nat):Bool:=decide ((97≤x∧x≤122)∨(48≤x∧x≤57)∨x=46∨x=95∨x=45)
def nameB (l:List UInt8):Bool:=(decide (1≤l.length∧l.length≤12)&&(!(l==[46])&&!(l==[46,46])))&&l.all fun x=>letB x.toNat
end Go.Proofs.YtnhegahpfacdgaaDoor.Plain

namespace Go.Proofs.YtnhegahpfacdgaaDoor
open Go.RowKit Plain
def st (l:List UInt8):Value:=.string ⟨l.toArray⟩
theorem add_lists {P:Program} {x y z:List UInt8} (h:x.length+y.length≤9223372036854775807) (hz:x++y=z) (W:World):(Op.stringOp .add ⟨x.toArray⟩ ⟨y.toArray⟩).run P W=.ok (.string ⟨z.toArray⟩) W:=by
 subst hz
 rw [run_string_add_sum W _ _ (by simp [ByteArray.size];omega),ByteArray.mk_append_mk]
end Go.Proofs.YtnhegahpfacdgaaDoor

namespace Go.Proofs.YtnhegahpfacdgaaDoor
open Go.RowKit Go.Shelf Plain

set_option maxRecDepth 100000 in
theorem u8_info':(Tryd.prog.info? 5).map (fun i=>(i.zero,i.size,i.bytes))=some (some (.int .u8 0),1,1):=by kernel_rfl
set_option maxHeartbeats 800000 in
theorem SClone_any {A:Option Addr} {n c:Nat} {l:List UInt8} (w:World) (h:Bs w w.heap.size A n l) (hn:n≤100000):Calls Tryd.prog 27 #[.slice A n c] w (BRet w 5 n l):=by
 have H:=hide h
 cases A with
 | none =>
  have h0:n=0:=by
   rcases Nat.eq_zero_or_pos n with h0|h0
   ·exact h0
   ·obtain ⟨_,_,e,_⟩:=h.2 h0;cases e
  subst h0
  obtain rfl:l=[]:=List.eq_nil_of_length_eq_zero h.1
  have hnil:=fun W=>Lib.run_eql_slice_nil (P:=Tryd.prog) W 39 5 none 0 c 0 0 Tryd.underlying39
  clear h
  go_enter Tryd.func27,Tryd.ntmps27
  go_wp2
  go_ret
  exact (Own.nil_ w w.heap.size 5).ret (below_self w)
 | some a =>
  have hnil:=fun W=>Lib.run_eql_slice_nil (P:=Tryd.prog) W 39 5 (some a) n c 0 0 Tryd.underlying39
  clear h
  go_enter Tryd.func27,Tryd.ntmps27
  go_wp2_with (at_builtin;refine wpList_append_Bs _ rfl (.tmp 5) (.tmp 6) 39 rfl w.heap.size 5 Tryd.underlying39 u8_info' (some ⟨w.heap.size,0,none⟩) 0 0 [] rfl (Own.lit w 5 (cs:=[]) (l:=[]) rfl rfl (by omega)) w.heap.size (some a) n c l rfl (H.out.below (below_new (below_self w) _)) n (by omega) (by omega) (by simp) ?_;intro A5 c5 w5 ho5 hb5;have HO5:=hide ho5;have HB5:=hide hb5;clear ho5 hb5)
  go_ret
  exact HO5.out.ret ((below_new (below_self w) _).trans HB5.out)
end Go.Proofs.YtnhegahpfacdgaaDoor

namespace Go.Proofs.YtnhegahpfacdgaaDoor
open Go.RowKit Go.Shelf Plain

def nodZ:List Value:=nodC nod0 (.slice none 0 0) (.slice none 0 0)
theorem flat_put {k:Nat}:∀ {css:List (List Value)} (_:∀cs∈css,cs.length=k) (j:Nat) (cs:List Value) (_:cs.length=k) (_:j < css.length),splice css.flatten (j*k) cs=(css.set j cs).flatten:=by
 intro css
 induction css with
 | nil=>intro _ j cs _ hj;simp at hj
 | cons c0 r ih =>
  intro hk j cs hc hj
  have h0:c0.length=k:=hk c0 List.mem_cons_self
  cases j with
  | zero =>
   simp only [splice,Nat.zero_mul,List.take_zero,List.nil_append,Nat.zero_add,List.set_cons_zero,List.flatten_cons]
   rw [List.drop_left' (by omega)]
  | succ j =>
   have:=ih (fun c h=>hk c (List.mem_cons_of_mem _ h)) j cs hc (by simpa using hj)
   simp only [List.set_cons_succ,List.flatten_cons,←this]
   unfold splice
   have e1:(j+1)*k=c0.length+j*k:=by rw [Nat.succ_mul,h0];omega
   rw [e1,List.take_append,List.take_of_length_le (by omega),Nat.add_sub_cancel_left,List.append_assoc,show c0.length+j*k+cs.length=c0.length+(j*k+cs.length) from by omega,List.drop_append,List.drop_of_length_le (by omega),Nat.add_sub_cancel_left,List.nil_append]
def NodesAt (B g:Nat) (l:List NodV) (W:World):Prop:=∃css,RowL W g 44 css.flatten∧CellsE nodEn W (fun b=>B≤b∧b < W.heap.size∧b≠g) css l
theorem NodesAt.on {B g:Nat} {l:List NodV} {W W':World} (h:NodesAt B g l W) (hb:Below W.heap.size W W'):NodesAt B g l W':=by
 obtain ⟨css,h1,h2⟩:=h
 exact ⟨css,h1.on hb,h2.mono (fun b hb'=>hb.block b hb'.2.1) (fun b hb'=>⟨hb'.1,Nat.lt_of_lt_of_le hb'.2.1 hb.size,hb'.2.2⟩)⟩
theorem NodesAt.len {B g:Nat} {l:List NodV} {W:World} (h:NodesAt B g l W):∃cs,RowL W g 44 cs∧cs.length=l.length*13:=by
 obtain ⟨css,h1,h2⟩:=h
 exact ⟨_,h1,by rw [flat_len h2.lens,h2.1];rfl⟩
theorem NodesAt.put {B g j:Nat} {l:List NodV} {x:NodV} {W W':World} {cur cs:List Value} (h:NodesAt B g l W) (hj:j < l.length) (hx:NodR W (fun b=>B≤b∧b < W.heap.size∧b≠g) cs x) (hcur:RowL W g 44 cur) (hr:RowL W' g 44 (splice cur (j*13) cs)) (hg:W.grownBy W' (some g)):NodesAt B g (l.set j x) W':=by
 obtain ⟨css,h1,h2⟩:=h
 have hc:cs.length=13:=nodEn.len hx
 have e:cur=css.flatten:=by
  have:=h1.symm.trans hcur
  injection this with this
  injection this with this
  simpa using this.symm
 subst e
 rw [flat_put (k:=13) (fun c hc=>h2.lens c hc) j cs hc (by rw [h2.1];exact hj)] at hr
 have hk:Kept (fun b=>B≤b∧b < W.heap.size∧b≠g) W W':=fun b hb=>hg.block b hb.2.1 (fun e=>hb.2.2 (Option.some.inj e))
 have hD:∀b,(B≤b∧b < W.heap.size∧b≠g)→(B≤b∧b < W'.heap.size∧b≠g):=fun b hb=>⟨hb.1,Nat.lt_of_lt_of_le hb.2.1 hg.size,hb.2.2⟩
 refine ⟨css.set j cs,hr,by rw [List.length_set,List.length_set,h2.1],fun i c y hc1 hy1=>?_⟩
 by_cases hi:j=i
 ·subst hi
  rw [List.getElem?_set_self (by rw [h2.1];exact hj)] at hc1
  rw [List.getElem?_set_self hj] at hy1
  cases hc1
  cases hy1
  exact NodR.mono hx hk hD
 ·rw [List.getElem?_set_ne hi] at hc1 hy1
  exact nodEn.mono (h2.2 i c y hc1 hy1) hk hD
theorem NodesAt.rd {B g n:Nat} {l:List NodV} {W:World} (h:NodesAt B g l W) (hB:B≤g) (hn:l.length=n):RdE nodEn W (fun b=>B≤b∧b < W.heap.size) (some ⟨g,0,none⟩) n l:=by
 subst hn
 obtain ⟨css,h1,h2⟩:=h
 refine ⟨rfl,fun _=>⟨g,0,rfl,⟨hB,h1.lt⟩,fun i x hx=>?_⟩⟩
 have hi:=(List.getElem?_eq_some_iff.1 hx).1
 have hc:css[i]?=some (css[i]'(by rw [h2.1];exact hi)):=List.getElem?_eq_getElem _
 have hR:=h2.2 i _ x hc hx
 refine ⟨_,nodEn.mono hR (fun _ _=>rfl) (fun b hb=>⟨hb.1,hb.2.1⟩),fun j v hv=>?_⟩
 have hj:j < 13:=by have:=(List.getElem?_eq_some_iff.1 hv).1;have h13:=nodEn.len hR;rw [h13] at this;exact this
 rw [Nat.zero_add,h1.cell]
 exact (flat_get h2.lens hc hj).trans hv
set_option maxRecDepth 100000 in
theorem nodw_info:(Tryd.prog.info? 44).map (fun i=>(i.zero,i.size,i.bytes))=some (some (.agg nodZ.toArray),13,144):=by kernel_rfl
end Go.Proofs.YtnhegahpfacdgaaDoor

namespace Go.Proofs.YtnhegahpfacdgaaDoor
open Go.RowKit Go.Shelf Plain

set_option maxRecDepth 100000 in
theorem lay_size:∀w,(Go.sizeOf 34).run Tryd.prog w=.ok 1 w:=fun w=>by kernel_rfl
end Go.Proofs.YtnhegahpfacdgaaDoor

