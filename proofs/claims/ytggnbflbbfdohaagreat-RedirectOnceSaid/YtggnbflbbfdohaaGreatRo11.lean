import Derived.Test.YtggnbflbbfdohaaGreatRo10
import Derived.DeepKeys4
import Derived.Test.YtggnbflbbfdohaaGreatRo2
import Derived.BigQuiet
import Derived.Deep.QuietTactic
import Derived.Test.YtggnbflbbfdohaaGreatRo1
import Derived.Lib.Join
import Derived.BigRegion
import Derived.StillTailTactics
import Derived.Test.YtggnbflbbfdohaaGreatRo5
import Derived.Deep.Cut
import Derived.Deep.CutRange

namespace Go.Proofs.YtggnbflbbfdohaaGreat
open Go.RowKit Go.Shelf Plain Go.Maps

def SetN (w:World) (b c:Nat) (f:Int×Int→Bool):Prop:=∃D:DataW Unit,w.ownsMap Tryz.prog 162 unitElem b c D∧∀x y kl,i64 x→i64 y→keyOf Tryz.prog 162 (.agg #[.int .i64 x,.int .i64 y])=some kl→Maps.has D kl=f (x,y)
section
variable {w w' : World} {b c : Nat} {f : Int × Int → Bool}
theorem SetN.made (w:World):SetN (w.alloc (.map #[] 0)) w.heap.size 0 (fun _=>false):=⟨.map [],World.ownsMap_made w _ _ _,fun _ _ _ _ _ _=>rfl⟩
theorem SetN.lt (h:SetN w b c f):b < w.heap.size:=by obtain ⟨D,h1,h2⟩:=h;exact h1.lt
theorem SetN.kept {row:Option Nat} (h:SetN w b c f) (hg:w.grownBy w' row) (hne:some b≠row):SetN w' b c f:=by obtain ⟨D,h1,h2⟩:=h;exact ⟨D,h1.kept hg hne,h2⟩
theorem SetN.on (h:SetN w b c f) (hb:Below w.heap.size w w'):SetN w' b c f:=h.kept (grown_below hb) (by simp)
theorem SetN.eq {g:Int×Int→Bool} (h:SetN w b c f) (e:f=g):SetN w b c g:=e ▸ h
theorem SetN.obj (h:SetN w b c f):∃o:Obj,w.heap[b]?=some o∧(∀x,o≠.deferred x)∧o.isCells=false:=by
 obtain ⟨D,⟨es,clock,h1,_⟩,h2⟩:=h
 exact ⟨_,h1,(fun x e=>by cases e),rfl⟩
end
end Go.Proofs.YtggnbflbbfdohaaGreat

namespace Go.Proofs.YtggnbflbbfdohaaGreat
open Go.RowKit Go.Shelf Plain

theorem wpList_litW {P:Program} {w w':World} {ops:Array Oper} {rest:List Oper} {o:Oper} {a:Act} {Q:Exit→Act→World→Prop} (hgd:o.guard=none) (t:Nat) (x:Operand) (ho:o.op=.buildSlice t 1 #[(0,x)]) (vx v:Value) (hx:a.eval x=vx) (hr:(Instr.buildSlice t 1 #[(0,vx)]).run P w=.ok v w') (hK:wpList P ops Q rest (a.put o.dst v) w'):wpList P ops Q (o::rest) a w:=by
 refine wpList_plain hgd fun K hK'=>?_
 unfold Oper.wp execOp
 simp only [ho,List.map_toArray,List.map_cons,List.map_nil,hx,Sem.run_bind,Sem.run_pure,Result.andThen_ok,hr]
 exact hK' _ _ hK
end Go.Proofs.YtggnbflbbfdohaaGreat

namespace Go.Proofs.YtggnbflbbfdohaaGreat
open Go.RowKit Go.Shelf Plain

def nodZ:List Value:=nodC nod0 (.slice none 0 0) (.slice none 0 0)
theorem flat_put {k:Nat}:∀ {css:List (List Value)} (_:∀cs∈css,cs.length=k) (j:Nat) (cs:List Value) (_:cs.length=k) (_:j < css.length),splice css.flatten (j*k) cs=(css.set j cs).flatten:=by
 intro css
 induction css with
 | nil=>intro _ j cs _ hj;simp at hj
 | cons c0 r ih =>
  intro hk j cs hc hj
  have h0:c0.length=k:=hk c0 List.mem_cons_self
  cases j with
  | zero =>
   simp only [splice,Nat.zero_mul,List.take_zero,List.nil_append,Nat.zero_add,List.set_cons_zero,List.flatten_cons]
   rw [List.drop_left' (by omega)]
  | succ j =>
   have:=ih (fun c h=>hk c (List.mem_cons_of_mem _ h)) j cs hc (by simpa using hj)
   simp only [List.set_cons_succ,List.flatten_cons,←this]
   unfold splice
   have e1:(j+1)*k=c0.length+j*k:=by rw [Nat.succ_mul,h0];omega
   rw [e1,List.take_append,List.take_of_length_le (by omega),Nat.add_sub_cancel_left,List.append_assoc,show c0.length+j*k+cs.length=c0.length+(j*k+cs.length) from by omega,List.drop_append,List.drop_of_length_le (by omega),Nat.add_sub_cancel_left,List.nil_append]
def NodesAt (B g:Nat) (l:List NodV) (W:World):Prop:=∃css,RowL W g 65 css.flatten∧CellsE nodEn W (fun b=>B≤b∧b < W.heap.size∧b≠g) css l
theorem NodesAt.on {B g:Nat} {l:List NodV} {W W':World} (h:NodesAt B g l W) (hb:Below W.heap.size W W'):NodesAt B g l W':=by
 obtain ⟨css,h1,h2⟩:=h
 exact ⟨css,h1.on hb,h2.mono (fun b hb'=>hb.block b hb'.2.1) (fun b hb'=>⟨hb'.1,Nat.lt_of_lt_of_le hb'.2.1 hb.size,hb'.2.2⟩)⟩
theorem NodesAt.len {B g:Nat} {l:List NodV} {W:World} (h:NodesAt B g l W):∃cs,RowL W g 65 cs∧cs.length=l.length*13:=by
 obtain ⟨css,h1,h2⟩:=h
 exact ⟨_,h1,by rw [flat_len h2.lens,h2.1];rfl⟩
theorem NodesAt.put {B g j:Nat} {l:List NodV} {x:NodV} {W W':World} {cur cs:List Value} (h:NodesAt B g l W) (hj:j < l.length) (hx:NodR W (fun b=>B≤b∧b < W.heap.size∧b≠g) cs x) (hcur:RowL W g 65 cur) (hr:RowL W' g 65 (splice cur (j*13) cs)) (hg:W.grownBy W' (some g)):NodesAt B g (l.set j x) W':=by
 obtain ⟨css,h1,h2⟩:=h
 have hc:cs.length=13:=nodEn.len hx
 have e:cur=css.flatten:=by
  have:=h1.symm.trans hcur
  injection this with this
  injection this with this
  simpa using this.symm
 subst e
 rw [flat_put (k:=13) (fun c hc=>h2.lens c hc) j cs hc (by rw [h2.1];exact hj)] at hr
 have hk:Kept (fun b=>B≤b∧b < W.heap.size∧b≠g) W W':=fun b hb=>hg.block b hb.2.1 (fun e=>hb.2.2 (Option.some.inj e))
 have hD:∀b,(B≤b∧b < W.heap.size∧b≠g)→(B≤b∧b < W'.heap.size∧b≠g):=fun b hb=>⟨hb.1,Nat.lt_of_lt_of_le hb.2.1 hg.size,hb.2.2⟩
 refine ⟨css.set j cs,hr,by rw [List.length_set,List.length_set,h2.1],fun i c y hc1 hy1=>?_⟩
 by_cases hi:j=i
 ·subst hi
  rw [List.getElem?_set_self (by rw [h2.1];exact hj)] at hc1
  rw [List.getElem?_set_self hj] at hy1
  cases hc1
  cases hy1
  exact NodR.mono hx hk hD
 ·rw [List.getElem?_set_ne hi] at hc1 hy1
  exact nodEn.mono (h2.2 i c y hc1 hy1) hk hD
theorem NodesAt.rd {B g n:Nat} {l:List NodV} {W:World} (h:NodesAt B g l W) (hB:B≤g) (hn:l.length=n):RdE nodEn W (fun b=>B≤b∧b < W.heap.size) (some ⟨g,0,none⟩) n l:=by
 subst hn
 obtain ⟨css,h1,h2⟩:=h
 refine ⟨rfl,fun _=>⟨g,0,rfl,⟨hB,h1.lt⟩,fun i x hx=>?_⟩⟩
 have hi:=(List.getElem?_eq_some_iff.1 hx).1
 have hc:css[i]?=some (css[i]'(by rw [h2.1];exact hi)):=List.getElem?_eq_getElem _
 have hR:=h2.2 i _ x hc hx
 refine ⟨_,nodEn.mono hR (fun _ _=>rfl) (fun b hb=>⟨hb.1,hb.2.1⟩),fun j v hv=>?_⟩
 have hj:j < 13:=by have:=(List.getElem?_eq_some_iff.1 hv).1;have h13:=nodEn.len hR;rw [h13] at this;exact this
 rw [Nat.zero_add,h1.cell]
 exact (flat_get h2.lens hc hj).trans hv
set_option maxRecDepth 100000 in
theorem nodw_info:(Tryz.prog.info? 65).map (fun i=>(i.zero,i.size,i.bytes))=some (some (.agg nodZ.toArray),13,144):=by kernel_rfl
end Go.Proofs.YtggnbflbbfdohaaGreat

namespace Go.Proofs.YtggnbflbbfdohaaGreat
open Go.RowKit Go.Shelf Plain

theorem cell_same {W W':World} {b o:Nat} (h:W'.heap[b]?=W.heap[b]?):W'.cell? ⟨b,o,none⟩=W.cell? ⟨b,o,none⟩:=by
 unfold World.cell?
 simp only [h]
set_option maxRecDepth 100000 in
theorem lay_agg:∀w,(isAgg 26).run Tryz.prog w=.ok true w:=fun w=>by kernel_rfl
set_option maxRecDepth 100000 in
theorem lay_size:∀w,(Go.sizeOf 26).run Tryz.prog w=.ok 1 w:=fun w=>by kernel_rfl
end Go.Proofs.YtggnbflbbfdohaaGreat

namespace Go.Proofs.YtggnbflbbfdohaaGreat
open Go.RowKit

theorem quietL {P:Program} {C:World→Prop} {o:Oper} {a:Act} {K:Act→Prop} (T:Nat) (x:Operand) (ho:o.op=.load T x) (p v:Value) (hx:a.eval x=p) (hl:∀w,C w→(Instr.loadAt T p).run P w=.ok v w) (hk:K (a.put o.dst v)):o.quiet P a C K :=
 ⟨v,fun w hw=>by
  unfold Oper.quietAt execOp
  simp only [ho,Sem.run_bind,Sem.run_pure,Result.andThen_ok,hx,hl w hw]
  exact ⟨rfl,rfl⟩,hk⟩
end Go.Proofs.YtggnbflbbfdohaaGreat

namespace Go.Proofs.YtggnbflbbfdohaaGreat
open Go.RowKit Plain

def BRt (w:World) (b:Bool) (x:Ending) (w':World):Prop:=x=.returned (.bool b)∧Below w.heap.size w w'
theorem BRt.of {w w':World} {b c:Bool} (h:Below w.heap.size w w') (hb:b=c):BRt w c (.returned (.bool b)) w':=by subst hb;exact ⟨rfl,h⟩

set_option maxHeartbeats 800000 in
theorem EqualS_any {A B:Option Addr} {n m c d:Nat} {l k:List (List UInt8)} {W1 W2:Nat} (w:World) (ha:Rd st w W1 A n l) (hb:Rd st w W2 B m k) (hn:n≤140737488355328) :
  Calls Tryz.prog 13 #[.slice A n c,.slice B m d] w (BRt w (l==k)):=by
 by_cases hnm:n=m
 case neg =>
  have hne:(l==k)=false:=by
   simp only [beq_eq_false_iff_ne,ne_eq]
   intro e
   apply hnm
   rw [←ha.len,←hb.len,e]
  have HNE:=hide hne
  have hd:((n:Int) != (m:Int))=true:=by simp;omega
  clear ha hb hne
  go_enter Tryz.func13,Tryz.ntmps13
  go_wp2
  go_ret
  exact BRt.of (below_self w) HNE.out.symm
 subst hnm
 obtain ⟨r,hr⟩:∃r,(l==k)=r:=⟨_,rfl⟩
 rw [hr]
 have HR:=hide hr
 have HA:=hide ha
 have HB:=hide hb
 clear hr ha hb
 have hd:((n:Int) != (n:Int))=false:=by simp
 go_enter Tryz.func13,Tryz.ntmps13
 go_wp2
 go_loopw [13] (fun i wr=>∃j q:Nat,j≤n∧i=.int .i64 j∧l.take j=k.take j∧wr=w.drewN q) (fun i _=>n - (intOf i).toNat)
 case atStart=>exact ⟨0,0,by omega,rfl,rfl,rfl⟩
 case round =>
  obtain ⟨j,q,hj,rfl,htake,rfl⟩:=hrel
  have HT:=hide htake
  clear htake
  by_cases hlt:j < n
  ·obtain ⟨b1,o1,rfl,_,hc1⟩:=HA.out.2 (by omega)
   obtain ⟨b2,o2,rfl,_,hc2⟩:=HB.out.2 (by omega)
   have hl1:j < l.length:=by rw [HA.out.len];exact hlt
   have hl2:j < k.length:=by rw [HB.out.len];exact hlt
   have hx1:=hc1 j l[j] (List.getElem?_eq_getElem hl1)
   have hx2:=hc2 j k[j] (List.getElem?_eq_getElem hl2)
   clear hc1 hc2
   obtain ⟨x,hx⟩:∃x,x=l[j]:=⟨_,rfl⟩
   obtain ⟨y,hy⟩:∃y,y=k[j]:=⟨_,rfl⟩
   rw [←hx] at hx1
   rw [←hy] at hx2
   unfold st at hx1 hx2
   by_cases hxy:x=y
   ·have ht2:l.take (j+1)=k.take (j+1):=by
     rw [List.take_succ_eq_append_getElem hl1,List.take_succ_eq_append_getElem hl2,HT.out,←hx,←hy,hxy]
    have HT2:=hide ht2
    have hne:(x==y)=true:=by simp [hxy]
    clear hx hy ht2 hxy hl1 hl2
    go_wp2
    go_quiet (fail)
    go_wp2
    go_roundw
    case rel=>exact ⟨j+1,_,by omega,by go_num,HT2.out,rfl⟩
    case measure=>simp [intOf];omega
   ·have hre:r=false:=by
     rw [←HR.out]
     simp only [beq_eq_false_iff_ne,ne_eq]
     intro e
     apply hxy
     subst e
     rw [hx,hy]
    have hne:(x==y)=false:=by simp [hxy]
    have HRE:=hide hre
    clear hx hy hre hxy hl1 hl2
    go_wp2
    go_quiet (fail)
    go_wp2
    go_ret
    exact BRt.of (below_drewN (below_drewN (below_self w) _) _) HRE.out.symm
  ·obtain rfl:j=n:=by omega
   have hre:r=true:=by
    rw [←HR.out]
    have e:=HT.out
    rw [List.take_of_length_le (by rw [HA.out.len];exact Nat.le_refl _),List.take_of_length_le (by rw [HB.out.len];exact Nat.le_refl _)] at e
    simp [e]
   have HRE:=hide hre
   clear hre
   go_wp2
   go_ret
   exact BRt.of (below_drewN (below_self w) _) HRE.out.symm
end Go.Proofs.YtggnbflbbfdohaaGreat

namespace Go.Proofs.YtggnbflbbfdohaaGreat
open Go.RowKit Go.Shelf Plain

theorem RdE.cellsR {α:Type} {E:Enc α} {w:World} {D:Nat→Prop} {A:Option Addr} {n:Nat} {l:List α} (h:RdE E w D A n l) (hn:0 < n):∃b o,A=some ⟨b,o,none⟩∧∀i x,l[i]?=some x→∃cs,E.R w D cs x∧∀j v,cs[j]?=some v→w.cell? ⟨b,o+i*E.k+j,none⟩=some v:=by
 obtain ⟨b,o,e,-,hc⟩:=h.2 hn
 refine ⟨b,o,e,fun i x hx=>?_⟩
 obtain ⟨cs,h1,h2⟩:=hc i x hx
 exact ⟨cs,h1,fun j v hv=>by rw [Nat.add_assoc];exact h2 j v hv⟩
end Go.Proofs.YtggnbflbbfdohaaGreat

namespace Go.Proofs.YtggnbflbbfdohaaGreat
open Go

inductive PT (α : Type) where
 | leaf:PT α
 | take:α→PT α→PT α
 | alt:α→PT α→PT α→PT α
 | stop:PT α
def PT.map {α β : Type} (f : α → β) : PT α → PT β
 | .leaf=>.leaf
 | .take x t=>.take (f x) (t.map f)
 | .alt x t u=>.alt (f x) (t.map f) (u.map f)
 | .stop=>.stop
def PT.depth {α : Type} : PT α → Nat
 | .leaf=>0
 | .take _ t=>t.depth+1
 | .alt _ t u=>max (t.depth+1) u.depth
 | .stop=>0
def PT.chain {α : Type} : PT α → List α
 | .alt x _ u=>x::u.chain
 | _=>[]
def eqN : List Nat → List Nat → Bool
 | [],[]=>true
 | x::r,y::q=>Nat.beq x y&&eqN r q
 | _,_=>false
mutual
def okT (md : Region.Mode) (ops : Array Oper) (ns : List Nat) (s : Nat) : PT Nat → Bool
 | .leaf=>(readyN s ns 0).isEmpty
 | .take i t=>hasN (readyN s ns 0) i&&(freeN md ops s i ops.toList 0&&okT md ops ns (withN s i) t)
 | .alt i t u=>eqN (readyN s ns 0) (i::u.chain)&&(okT md ops ns (withN s i) t&&okC md ops ns s u)
 | .stop=>false
def okC (md : Region.Mode) (ops : Array Oper) (ns : List Nat) (s : Nat) : PT Nat → Bool
 | .alt i t u=>okT md ops ns (withN s i) t&&okC md ops ns s u
 | .stop=>true
 | .leaf=>false
 | .take _ _=>false
end
theorem eqN_eq : ∀ (l k : List Nat), eqN l k = true → l = k
 | [],[],_=>rfl
 | x::r,y::q,h=>by
  unfold eqN at h
  rw [Bool.and_eq_true] at h
  rw [Nat.eq_of_beq_eq_true h.1,eqN_eq r q h.2]
 | [],_::_,h=>by cases h
 | _::_,[],h=>by cases h

section
variable {P : Program} {ops : Array Oper} {Q : Exit → Act → World → Prop} {S : World → Prop}
def wpPT (P : Program) (ops : Array Oper) (Q : Exit → Act → World → Prop) (S : World → Prop) : PT (Option Oper) → Act → World → Prop
 | .leaf,a,w=>Q .normal a w
 | .take (some o) t,a,w=>∃v,YieldsIf P ops S o v a∧wpPT P ops Q S t (a.put o.dst v) w
 | .alt (some o) t u,a,w=>(if Region.wanted o (yielded ops a.tmps)=true then Oper.wp P o a w (fun a' w'=>S w'∧wpPT P ops Q S t a' w') Q else wpPT P ops Q S t (a.put o.dst undef) w)∧wpPT P ops Q S u a w
 | .stop,_,_=>True
 | _,_,_=>False
theorem wpAnyH_PT {md:Region.Mode} (hs:Region.noSelect ops=true) (hQ:∀c a d v w,Q (.panic c) (Act.put a d v) w→Q (.panic c) a w) (t:PT Nat) :
  ∀(fuel s:Nat) (listed:Array Bool) (a:Act) (w:World),RelN ops listed s→S w→wpPT P ops Q S (t.map fun i=>ops[i]?) a w→t.depth≤fuel →
   (okT md ops (needsN md ops) s t=true→wpAnyH P md ops Q S fuel listed a w) ∧
   (okC md ops (needsN md ops) s t=true→∀k,fuel=k+1→∀x∈t.chain,x < ops.size∧wpOp P ops Q x (fun a' w'=>S w'∧wpAnyH P md ops Q S k (listed.setIfInBounds x true) a' w') a w):=by
 have hlen:(needsN md ops).length=ops.size:=by simp [needsN]
 induction t with
 | leaf =>
  intro fuel s listed a w hr hS h _
  refine ⟨fun hok=>?_,fun hok=>by simp [okC] at hok⟩
  unfold okT at hok
  have e:=ready_same (md:=md) hr
  rw [List.isEmpty_iff] at hok
  exact wpAnyH_done (by rw [e,hok]) h fuel
 | take i t ih =>
  intro fuel s listed a w hr hS h hl
  refine ⟨fun hok=>?_,fun hok=>by simp [okC] at hok⟩
  obtain ⟨fuel,rfl⟩:∃k,fuel=k+1:=⟨fuel - 1,by simp [PT.depth] at hl;omega⟩
  have hl':t.depth≤fuel:=by simpa [PT.depth] using hl
  unfold okT at hok
  rw [Bool.and_eq_true,Bool.and_eq_true] at hok
  obtain ⟨h1,h2,h3⟩:=hok
  have hmem:=hasN_mem _ _ h1
  have hi:i < ops.size:=by rw [←hlen];exact readyN_lt hmem
  have ho:ops[i]?=some ops[i]:=Array.getElem?_eq_getElem hi
  simp only [PT.map,ho] at h
  obtain ⟨v,hy,hw⟩:=h
  exact wpAnyH_take ho hs (free_same hr hi h2) (by rw [ready_same hr];simpa using hmem) (fun c a w=>hQ c a _ _ w) hy hS ((ih fuel _ _ _ w (hr.set hi) hS hw hl').1 h3)
 | alt i t u iht ihu =>
  intro fuel s listed a w hr hS h hl
  have hl1:t.depth+1≤fuel:=by simp [PT.depth] at hl;omega
  have hl2:u.depth≤fuel:=by simp [PT.depth] at hl;omega
  have main:okT md ops (needsN md ops) (withN s i) t=true→okC md ops (needsN md ops) s u=true→i < ops.size→∀k,fuel=k+1→∀x∈i::u.chain,x < ops.size∧wpOp P ops Q x (fun a' w'=>S w'∧wpAnyH P md ops Q S k (listed.setIfInBounds x true) a' w') a w:=by
   intro h2 h3 hi k hk x hx
   have ho:ops[i]?=some ops[i]:=Array.getElem?_eq_getElem hi
   simp only [PT.map,ho] at h
   unfold wpPT at h
   obtain ⟨ha,hu⟩:=h
   rcases List.mem_cons.1 hx with rfl|hx
   ·refine ⟨hi,?_⟩
    unfold wpOp
    simp only [ho]
    split
    ·rename_i hw
     rw [if_pos hw] at ha
     exact .inl (Oper.wp_mono (fun a' w' hk'=>⟨hk'.1,(iht k _ _ _ _ (hr.set hi) hk'.1 hk'.2 (by omega)).1 h2⟩) ha)
    ·rename_i hw
     rw [if_neg hw] at ha
     exact ⟨hS,(iht k _ _ _ _ (hr.set hi) hS ha (by omega)).1 h2⟩
   ·exact (ihu fuel s listed a w hr hS hu hl2).2 h3 k hk x hx
  have lt_of:okT md ops (needsN md ops) (withN s i) t=true→wpPT P ops Q S ((PT.alt i t u).map fun i=>ops[i]?) a w→i < ops.size:=by
   intro _ hw
   rcases Nat.lt_or_ge i ops.size with hi|hi
   ·exact hi
   ·simp only [PT.map,Array.getElem?_eq_none hi] at hw
    unfold wpPT at hw
    exact absurd hw (by simp)
  refine ⟨fun hok=>?_,fun hok k hk x hx=>?_⟩
  ·unfold okT at hok
   rw [Bool.and_eq_true,Bool.and_eq_true] at hok
   obtain ⟨h1,h2,h3⟩:=hok
   have e:=eqN_eq _ _ h1
   obtain ⟨fuel,rfl⟩:∃k,fuel=k+1:=⟨fuel - 1,by omega⟩
   have hrd:=ready_same (md:=md) hr
   rw [e] at hrd
   refine wpAnyH_all hrd (by simp) (fun x hx=>?_)
   exact (main h2 h3 (lt_of h2 h) fuel rfl x hx).2
  ·unfold okC at hok
   rw [Bool.and_eq_true] at hok
   exact main hok.1 hok.2 (lt_of hok.1 h) k hk x hx
 | stop =>
  intro fuel s listed a w hr hS h _
  exact ⟨fun hok=>by simp [okT] at hok,fun _ k _ x hx=>by simp [PT.chain] at hx⟩

theorem wpPT_leaf {a:Act} {w:World} (h:Q .normal a w):wpPT P ops Q S .leaf a w:=h
theorem wpPT_take {o : Oper} {t : PT (Option Oper)} {a : Act} {w : World} {v : Value} (hw : Region.wanted o (yielded ops a.tmps) = true) (hv : ∀ w, S w → (execOp a.eval o).run P w = .ok (.value v) w)
  (h:wpPT P ops Q S t (a.put o.dst v) w):wpPT P ops Q S (.take (some o) t) a w:=⟨v,.inl ⟨hw,hv⟩,h⟩
theorem wpPT_stop {a:Act} {w:World}:wpPT P ops Q S .stop a w:=trivial
theorem wpPT_alt {o : Oper} {t u : PT (Option Oper)} {a : Act} {w : World} (hw : Region.wanted o (yielded ops a.tmps) = true)
  (h:∀K':Act→World→Prop,Shut (∀a' w',S w'→(S w'→wpPT P ops Q S t a' w')→K' a' w')→Oper.wp P o a w K' Q) (hu:wpPT P ops Q S u a w):wpPT P ops Q S (.alt (some o) t u) a w:=by
 unfold wpPT
 rw [if_pos hw]
 exact ⟨h _ (fun a' w' hS hr=>⟨hS,hr hS⟩),hu⟩
theorem wp_region_G {id : Nat} {a : Act} {w : World} (S : World → Prop) (t : PT Nat) {l : PT (Option Oper)} (hm : P.follows .mixedOrders = true) (hok : okT .any ops (needsN .any ops) 0 t = true) (hn : Region.noSelect ops = true) (hlen : decide (t.depth ≤ ops.size) = true)
  (hl:t.map (fun i=>ops[i]?)=l) (hQ:∀c a k v w,Q (.panic c) (Act.put a (some k) v) w→Q (.panic c) a w) (hS:S w.drew) (h:S w.drew→wpPT P ops Q S l a w.drew):(Code.region id ops true).wp P Q a w:=by
 subst hl
 exact wp_region_held hm ((wpAnyH_PT hn (panic_put hQ) t _ _ _ _ _ (relN_zero ops) hS (h hS) (of_decide_eq_true hlen)).1 hok)
end
end Go.Proofs.YtggnbflbbfdohaaGreat

namespace Go.Proofs.YtggnbflbbfdohaaGreat
open Go.RowKit Go.Shelf Plain

theorem int_one (W:World):RdE Enc.int (W.alloc (.cells #[.int .i64 1] 3)) (Under (W.alloc (.cells #[.int .i64 1] 3)).heap.size) (some ⟨W.heap.size,0,none⟩) 1 [1]:=by
 refine ⟨rfl,fun _=>⟨_,_,rfl,by unfold Under;simp,fun i x hx=>⟨[.int .i64 x],rfl,fun j v hv=>?_⟩⟩⟩
 have hi:i=0:=by have:=(List.getElem?_eq_some_iff.1 hx).1;simpa using this
 have hj:j=0:=by have:=(List.getElem?_eq_some_iff.1 hv).1;simpa using this
 subst hi hj
 have h:=(RowL.new W 3 [.int .i64 1]).cell 0
 simp only [List.getElem?_cons_zero,Option.some.injEq] at hx hv
 subst hx hv
 exact h
def RdN {α:Type} (E:Enc α) (W:World) (g:Nat) (A:Option Addr) (n:Nat) (l:List α):Prop:=RdE E W (fun b=>b < W.heap.size∧b≠g) A n l
section
variable {α : Type} {E : Enc α} {W W' : World} {g n : Nat} {A : Option Addr} {l : List α}
theorem RdN.on (h:RdN E W g A n l) (hb:Below W.heap.size W W'):RdN E W' g A n l:=RdE.mono h (fun _ hb'=>hb.block _ hb'.1) (fun _ hb'=>⟨Nat.lt_of_lt_of_le hb'.1 hb.size,hb'.2⟩)
theorem RdN.of_fresh {w0:Nat} (h:RdE E W (fun b=>w0≤b∧b < W.heap.size) A n l) (hg:g < w0):RdN E W g A n l:=RdE.mono h (fun _ _=>rfl) (fun _ hb=>⟨hb.2,by omega⟩)
theorem RdN.grown (h:RdN E W g A n l) (hg:W.grownBy W' (some g)):RdE E W' (Under W'.heap.size) A n l:=RdE.mono h (fun _ hb=>hg.block _ hb.1 (fun e=>hb.2 (Option.some.inj e))) (fun _ hb=>Nat.lt_of_lt_of_le hb.1 hg.size)
end
theorem ent_row {W:World} {g t:Nat} {l:List EntV} {D:Nat→Prop} (h:RowL W g t (flatE l)) (hD:D g):RdE entEn W D (some ⟨g,0,none⟩) l.length l:=by
 refine ⟨rfl,fun _=>⟨g,0,rfl,hD,fun i x hx=>⟨cellsE x,⟨[_],[_,_],rfl,rfl,[_],[_],rfl,rfl,rfl⟩,fun j v hv=>?_⟩⟩⟩
 have hj:j < 3:=by have:=(List.getElem?_eq_some_iff.1 hv).1;simpa [cellsE] using this
 rw [Nat.zero_add,h.cell]
 have:=flat_get (k:=3) (css:=l.map cellsE) (fun cs hc=>by obtain ⟨z,_,rfl⟩:=List.mem_map.1 hc;rfl) (i:=i) (j:=j) (cs:=cellsE x) (by rw [List.getElem?_map,hx];rfl) hj
 rw [show flatE l=(l.map cellsE).flatten from by simp [flatE,List.flatMap]]
 exact this.trans hv
end Go.Proofs.YtggnbflbbfdohaaGreat

