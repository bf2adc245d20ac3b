import Derived.Test.YtpndfahgflgocaaGreatDoorLn9
import Derived.Test.YtpndfahgflgocaaGreatDoorLn2
import Derived.BigQuiet
import Derived.Deep.QuietTactic
import Derived.Test.YtpndfahgflgocaaGreatDoorLn1
import Derived.Test.YtpndfahgflgocaaGreatDoorLn8
import Derived.Test.YtpndfahgflgocaaGreatDoorLn5
import Derived.Lib.Join
import Derived.BigRegion
import Derived.StillTailTactics
import Derived.Deep.Cut
import Derived.Deep.CutRange

namespace Go.Proofs.YtpndfahgflgocaaGreatDoor
open Go.RowKit Go.Shelf Plain

def nodZ:List Value:=nodC nod0 (.slice none 0 0) (.slice none 0 0)
theorem flat_put {k:Nat}:∀ {css:List (List Value)} (_:∀cs∈css,cs.length=k) (j:Nat) (cs:List Value) (_:cs.length=k) (_:j < css.length),splice css.flatten (j*k) cs=(css.set j cs).flatten:=by
 intro css
 induction css with
 | nil=>intro _ j cs _ hj;simp at hj
 | cons c0 r ih =>
  intro hk j cs hc hj
  have h0:c0.length=k:=hk c0 List.mem_cons_self
  cases j with
  | zero =>
   simp only [splice,Nat.zero_mul,List.take_zero,List.nil_append,Nat.zero_add,List.set_cons_zero,List.flatten_cons]
   rw [List.drop_left' (by omega)]
  | succ j =>
   have:=ih (fun c h=>hk c (List.mem_cons_of_mem _ h)) j cs hc (by simpa using hj)
   simp only [List.set_cons_succ,List.flatten_cons,←this]
   unfold splice
   have e1:(j+1)*k=c0.length+j*k:=by rw [Nat.succ_mul,h0];omega
   rw [e1,List.take_append,List.take_of_length_le (by omega),Nat.add_sub_cancel_left,List.append_assoc,show c0.length+j*k+cs.length=c0.length+(j*k+cs.length) from by omega,List.drop_append,List.drop_of_length_le (by omega),Nat.add_sub_cancel_left,List.nil_append]
def NodesAt (B g:Nat) (l:List NodV) (W:World):Prop:=∃css,RowL W g 51 css.flatten∧CellsE nodEn W (fun b=>B≤b∧b < W.heap.size∧b≠g) css l
theorem NodesAt.on {B g:Nat} {l:List NodV} {W W':World} (h:NodesAt B g l W) (hb:Below W.heap.size W W'):NodesAt B g l W':=by
 obtain ⟨css,h1,h2⟩:=h
 exact ⟨css,h1.on hb,h2.mono (fun b hb'=>hb.block b hb'.2.1) (fun b hb'=>⟨hb'.1,Nat.lt_of_lt_of_le hb'.2.1 hb.size,hb'.2.2⟩)⟩
theorem NodesAt.len {B g:Nat} {l:List NodV} {W:World} (h:NodesAt B g l W):∃cs,RowL W g 51 cs∧cs.length=l.length*13:=by
 obtain ⟨css,h1,h2⟩:=h
 exact ⟨_,h1,by rw [flat_len h2.lens,h2.1];rfl⟩
theorem NodesAt.put {B g j:Nat} {l:List NodV} {x:NodV} {W W':World} {cur cs:List Value} (h:NodesAt B g l W) (hj:j < l.length) (hx:NodR W (fun b=>B≤b∧b < W.heap.size∧b≠g) cs x) (hcur:RowL W g 51 cur) (hr:RowL W' g 51 (splice cur (j*13) cs)) (hg:W.grownBy W' (some g)):NodesAt B g (l.set j x) W':=by
 obtain ⟨css,h1,h2⟩:=h
 have hc:cs.length=13:=nodEn.len hx
 have e:cur=css.flatten:=by
  have:=h1.symm.trans hcur
  injection this with this
  injection this with this
  simpa using this.symm
 subst e
 rw [flat_put (k:=13) (fun c hc=>h2.lens c hc) j cs hc (by rw [h2.1];exact hj)] at hr
 have hk:Kept (fun b=>B≤b∧b < W.heap.size∧b≠g) W W':=fun b hb=>hg.block b hb.2.1 (fun e=>hb.2.2 (Option.some.inj e))
 have hD:∀b,(B≤b∧b < W.heap.size∧b≠g)→(B≤b∧b < W'.heap.size∧b≠g):=fun b hb=>⟨hb.1,Nat.lt_of_lt_of_le hb.2.1 hg.size,hb.2.2⟩
 refine ⟨css.set j cs,hr,by rw [List.length_set,List.length_set,h2.1],fun i c y hc1 hy1=>?_⟩
 by_cases hi:j=i
 ·subst hi
  rw [List.getElem?_set_self (by rw [h2.1];exact hj)] at hc1
  rw [List.getElem?_set_self hj] at hy1
  cases hc1
  cases hy1
  exact NodR.mono hx hk hD
 ·rw [List.getElem?_set_ne hi] at hc1 hy1
  exact nodEn.mono (h2.2 i c y hc1 hy1) hk hD
theorem NodesAt.rd {B g n:Nat} {l:List NodV} {W:World} (h:NodesAt B g l W) (hB:B≤g) (hn:l.length=n):RdE nodEn W (fun b=>B≤b∧b < W.heap.size) (some ⟨g,0,none⟩) n l:=by
 subst hn
 obtain ⟨css,h1,h2⟩:=h
 refine ⟨rfl,fun _=>⟨g,0,rfl,⟨hB,h1.lt⟩,fun i x hx=>?_⟩⟩
 have hi:=(List.getElem?_eq_some_iff.1 hx).1
 have hc:css[i]?=some (css[i]'(by rw [h2.1];exact hi)):=List.getElem?_eq_getElem _
 have hR:=h2.2 i _ x hc hx
 refine ⟨_,nodEn.mono hR (fun _ _=>rfl) (fun b hb=>⟨hb.1,hb.2.1⟩),fun j v hv=>?_⟩
 have hj:j < 13:=by have:=(List.getElem?_eq_some_iff.1 hv).1;have h13:=nodEn.len hR;rw [h13] at this;exact this
 rw [Nat.zero_add,h1.cell]
 exact (flat_get h2.lens hc hj).trans hv
set_option maxRecDepth 100000 in
theorem nodw_info:(Tryz.prog.info? 51).map (fun i=>(i.zero,i.size,i.bytes))=some (some (.agg nodZ.toArray),13,144):=by kernel_rfl
end Go.Proofs.YtpndfahgflgocaaGreatDoor

namespace Go.Proofs.YtpndfahgflgocaaGreatDoor
open Go.RowKit Go.Shelf Plain

theorem cell_same {W W':World} {b o:Nat} (h:W'.heap[b]?=W.heap[b]?):W'.cell? ⟨b,o,none⟩=W.cell? ⟨b,o,none⟩:=by
 unfold World.cell?
 simp only [h]
set_option maxRecDepth 100000 in
theorem lay_agg:∀w,(isAgg 26).run Tryz.prog w=.ok true w:=fun w=>by kernel_rfl
set_option maxRecDepth 100000 in
theorem lay_size:∀w,(Go.sizeOf 26).run Tryz.prog w=.ok 1 w:=fun w=>by kernel_rfl
end Go.Proofs.YtpndfahgflgocaaGreatDoor

namespace Go.Proofs.YtpndfahgflgocaaGreatDoor
open Go.RowKit

theorem quietL {P:Program} {C:World→Prop} {o:Oper} {a:Act} {K:Act→Prop} (T:Nat) (x:Operand) (ho:o.op=.load T x) (p v:Value) (hx:a.eval x=p) (hl:∀w,C w→(Instr.loadAt T p).run P w=.ok v w) (hk:K (a.put o.dst v)):o.quiet P a C K :=
 ⟨v,fun w hw=>by
  unfold Oper.quietAt execOp
  simp only [ho,Sem.run_bind,Sem.run_pure,Result.andThen_ok,hx,hl w hw]
  exact ⟨rfl,rfl⟩,hk⟩
end Go.Proofs.YtpndfahgflgocaaGreatDoor

namespace Go.Proofs.YtpndfahgflgocaaGreatDoor.Plain
def lessS (a b:List UInt8):Bool:=Op.bytesLess a b
def posS (x:List UInt8) (o:List (List UInt8)):Nat:=(o.takeWhile fun y=>lessS y x).length
def insS (x:List UInt8) (o:List (List UInt8)):List (List UInt8):=if o[posS x o]?=some x then o else o.take (posS x o)++x::o.drop (posS x o)
def sortS (l:List (List UInt8)):List (List UInt8):=l.foldl (fun o x=>insS x o) []
theorem insS_length (x:List UInt8) (o:List (List UInt8)):(insS x o).length≤o.length+1:=by
 unfold insS
 split
 ·omega
 ·simp;omega
theorem sortS_length (l:List (List UInt8)):(sortS l).length≤l.length:=by
 suffices h:∀(l o:List (List UInt8)),(l.foldl (fun o x=>insS x o) o).length≤o.length+l.length from by simpa [sortS] using h l []
 intro l
 induction l with
 | nil=>intro o;simp
 | cons x r ih =>
  intro o
  rw [List.foldl_cons,List.length_cons]
  have:=ih (insS x o)
  have:=insS_length x o
  omega
end Go.Proofs.YtpndfahgflgocaaGreatDoor.Plain

namespace Go.Proofs.YtpndfahgflgocaaGreatDoor
open Go.RowKit Plain

def BRt (w:World) (b:Bool) (x:Ending) (w':World):Prop:=x=.returned (.bool b)∧Below w.heap.size w w'
theorem BRt.of {w w':World} {b c:Bool} (h:Below w.heap.size w w') (hb:b=c):BRt w c (.returned (.bool b)) w':=by subst hb;exact ⟨rfl,h⟩

end Go.Proofs.YtpndfahgflgocaaGreatDoor

namespace Go.Proofs.YtpndfahgflgocaaGreatDoor
open Go

inductive PT (α : Type) where
 | leaf:PT α
 | take:α→PT α→PT α
 | alt:α→PT α→PT α→PT α
 | stop:PT α
def PT.map {α β : Type} (f : α → β) : PT α → PT β
 | .leaf=>.leaf
 | .take x t=>.take (f x) (t.map f)
 | .alt x t u=>.alt (f x) (t.map f) (u.map f)
 | .stop=>.stop
def PT.depth {α : Type} : PT α → Nat
 | .leaf=>0
 | .take _ t=>t.depth+1
 | .alt _ t u=>max (t.depth+1) u.depth
 | .stop=>0
def PT.chain {α : Type} : PT α → List α
 | .alt x _ u=>x::u.chain
 | _=>[]
def eqN : List Nat → List Nat → Bool
 | [],[]=>true
 | x::r,y::q=>Nat.beq x y&&eqN r q
 | _,_=>false
mutual
def okT (md : Region.Mode) (ops : Array Oper) (ns : List Nat) (s : Nat) : PT Nat → Bool
 | .leaf=>(readyN s ns 0).isEmpty
 | .take i t=>hasN (readyN s ns 0) i&&(freeN md ops s i ops.toList 0&&okT md ops ns (withN s i) t)
 | .alt i t u=>eqN (readyN s ns 0) (i::u.chain)&&(okT md ops ns (withN s i) t&&okC md ops ns s u)
 | .stop=>false
def okC (md : Region.Mode) (ops : Array Oper) (ns : List Nat) (s : Nat) : PT Nat → Bool
 | .alt i t u=>okT md ops ns (withN s i) t&&okC md ops ns s u
 | .stop=>true
 | .leaf=>false
 | .take _ _=>false
end
theorem eqN_eq : ∀ (l k : List Nat), eqN l k = true → l = k
 | [],[],_=>rfl
 | x::r,y::q,h=>by
  unfold eqN at h
  rw [Bool.and_eq_true] at h
  rw [Nat.eq_of_beq_eq_true h.1,eqN_eq r q h.2]
 | [],_::_,h=>by cases h
 | _::_,[],h=>by cases h

section
variable {P : Program} {ops : Array Oper} {Q : Exit → Act → World → Prop} {S : World → Prop}
def wpPT (P : Program) (ops : Array Oper) (Q : Exit → Act → World → Prop) (S : World → Prop) : PT (Option Oper) → Act → World → Prop
 | .leaf,a,w=>Q .normal a w
 | .take (some o) t,a,w=>∃v,YieldsIf P ops S o v a∧wpPT P ops Q S t (a.put o.dst v) w
 | .alt (some o) t u,a,w=>(if Region.wanted o (yielded ops a.tmps)=true then Oper.wp P o a w (fun a' w'=>S w'∧wpPT P ops Q S t a' w') Q else wpPT P ops Q S t (a.put o.dst undef) w)∧wpPT P ops Q S u a w
 | .stop,_,_=>True
 | _,_,_=>False
theorem wpAnyH_PT {md:Region.Mode} (hs:Region.noSelect ops=true) (hQ:∀c a d v w,Q (.panic c) (Act.put a d v) w→Q (.panic c) a w) (t:PT Nat) :
  ∀(fuel s:Nat) (listed:Array Bool) (a:Act) (w:World),RelN ops listed s→S w→wpPT P ops Q S (t.map fun i=>ops[i]?) a w→t.depth≤fuel →
   (okT md ops (needsN md ops) s t=true→wpAnyH P md ops Q S fuel listed a w) ∧
   (okC md ops (needsN md ops) s t=true→∀k,fuel=k+1→∀x∈t.chain,x < ops.size∧wpOp P ops Q x (fun a' w'=>S w'∧wpAnyH P md ops Q S k (listed.setIfInBounds x true) a' w') a w):=by
 have hlen:(needsN md ops).length=ops.size:=by simp [needsN]
 induction t with
 | leaf =>
  intro fuel s listed a w hr hS h _
  refine ⟨fun hok=>?_,fun hok=>by simp [okC] at hok⟩
  unfold okT at hok
  have e:=ready_same (md:=md) hr
  rw [List.isEmpty_iff] at hok
  exact wpAnyH_done (by rw [e,hok]) h fuel
 | take i t ih =>
  intro fuel s listed a w hr hS h hl
  refine ⟨fun hok=>?_,fun hok=>by simp [okC] at hok⟩
  obtain ⟨fuel,rfl⟩:∃k,fuel=k+1:=⟨fuel - 1,by simp [PT.depth] at hl;omega⟩
  have hl':t.depth≤fuel:=by simpa [PT.depth] using hl
  unfold okT at hok
  rw [Bool.and_eq_true,Bool.and_eq_true] at hok
  obtain ⟨h1,h2,h3⟩:=hok
  have hmem:=hasN_mem _ _ h1
  have hi:i < ops.size:=by rw [←hlen];exact readyN_lt hmem
  have ho:ops[i]?=some ops[i]:=Array.getElem?_eq_getElem hi
  simp only [PT.map,ho] at h
  obtain ⟨v,hy,hw⟩:=h
  exact wpAnyH_take ho hs (free_same hr hi h2) (by rw [ready_same hr];simpa using hmem) (fun c a w=>hQ c a _ _ w) hy hS ((ih fuel _ _ _ w (hr.set hi) hS hw hl').1 h3)
 | alt i t u iht ihu =>
  intro fuel s listed a w hr hS h hl
  have hl1:t.depth+1≤fuel:=by simp [PT.depth] at hl;omega
  have hl2:u.depth≤fuel:=by simp [PT.depth] at hl;omega
  have main:okT md ops (needsN md ops) (withN s i) t=true→okC md ops (needsN md ops) s u=true→i < ops.size→∀k,fuel=k+1→∀x∈i::u.chain,x < ops.size∧wpOp P ops Q x (fun a' w'=>S w'∧wpAnyH P md ops Q S k (listed.setIfInBounds x true) a' w') a w:=by
   intro h2 h3 hi k hk x hx
   have ho:ops[i]?=some ops[i]:=Array.getElem?_eq_getElem hi
   simp only [PT.map,ho] at h
   unfold wpPT at h
   obtain ⟨ha,hu⟩:=h
   rcases List.mem_cons.1 hx with rfl|hx
   ·refine ⟨hi,?_⟩
    unfold wpOp
    simp only [ho]
    split
    ·rename_i hw
     rw [if_pos hw] at ha
     exact .inl (Oper.wp_mono (fun a' w' hk'=>⟨hk'.1,(iht k _ _ _ _ (hr.set hi) hk'.1 hk'.2 (by omega)).1 h2⟩) ha)
    ·rename_i hw
     rw [if_neg hw] at ha
     exact ⟨hS,(iht k _ _ _ _ (hr.set hi) hS ha (by omega)).1 h2⟩
   ·exact (ihu fuel s listed a w hr hS hu hl2).2 h3 k hk x hx
  have lt_of:okT md ops (needsN md ops) (withN s i) t=true→wpPT P ops Q S ((PT.alt i t u).map fun i=>ops[i]?) a w→i < ops.size:=by
   intro _ hw
   rcases Nat.lt_or_ge i ops.size with hi|hi
   ·exact hi
   ·simp only [PT.map,Array.getElem?_eq_none hi] at hw
    unfold wpPT at hw
    exact absurd hw (by simp)
  refine ⟨fun hok=>?_,fun hok k hk x hx=>?_⟩
  ·unfold okT at hok
   rw [Bool.and_eq_true,Bool.and_eq_true] at hok
   obtain ⟨h1,h2,h3⟩:=hok
   have e:=eqN_eq _ _ h1
   obtain ⟨fuel,rfl⟩:∃k,fuel=k+1:=⟨fuel - 1,by omega⟩
   have hrd:=ready_same (md:=md) hr
   rw [e] at hrd
   refine wpAnyH_all hrd (by simp) (fun x hx=>?_)
   exact (main h2 h3 (lt_of h2 h) fuel rfl x hx).2
  ·unfold okC at hok
   rw [Bool.and_eq_true] at hok
   exact main hok.1 hok.2 (lt_of hok.1 h) k hk x hx
 | stop =>
  intro fuel s listed a w hr hS h _
  exact ⟨fun hok=>by simp [okT] at hok,fun _ k _ x hx=>by simp [PT.chain] at hx⟩

theorem wpPT_leaf {a:Act} {w:World} (h:Q .normal a w):wpPT P ops Q S .leaf a w:=h
theorem wpPT_take {o : Oper} {t : PT (Option Oper)} {a : Act} {w : World} {v : Value} (hw : Region.wanted o (yielded ops a.tmps) = true) (hv : ∀ w, S w → (execOp a.eval o).run P w = .ok (.value v) w)
  (h:wpPT P ops Q S t (a.put o.dst v) w):wpPT P ops Q S (.take (some o) t) a w:=⟨v,.inl ⟨hw,hv⟩,h⟩
theorem wpPT_stop {a:Act} {w:World}:wpPT P ops Q S .stop a w:=trivial
theorem wpPT_alt {o : Oper} {t u : PT (Option Oper)} {a : Act} {w : World} (hw : Region.wanted o (yielded ops a.tmps) = true)
  (h:∀K':Act→World→Prop,Shut (∀a' w',S w'→(S w'→wpPT P ops Q S t a' w')→K' a' w')→Oper.wp P o a w K' Q) (hu:wpPT P ops Q S u a w):wpPT P ops Q S (.alt (some o) t u) a w:=by
 unfold wpPT
 rw [if_pos hw]
 exact ⟨h _ (fun a' w' hS hr=>⟨hS,hr hS⟩),hu⟩
theorem wp_region_G {id : Nat} {a : Act} {w : World} (S : World → Prop) (t : PT Nat) {l : PT (Option Oper)} (hm : P.follows .mixedOrders = true) (hok : okT .any ops (needsN .any ops) 0 t = true) (hn : Region.noSelect ops = true) (hlen : decide (t.depth ≤ ops.size) = true)
  (hl:t.map (fun i=>ops[i]?)=l) (hQ:∀c a k v w,Q (.panic c) (Act.put a (some k) v) w→Q (.panic c) a w) (hS:S w.drew) (h:S w.drew→wpPT P ops Q S l a w.drew):(Code.region id ops true).wp P Q a w:=by
 subst hl
 exact wp_region_held hm ((wpAnyH_PT hn (panic_put hQ) t _ _ _ _ _ (relN_zero ops) hS (h hS) (of_decide_eq_true hlen)).1 hok)
end
end Go.Proofs.YtpndfahgflgocaaGreatDoor

namespace Go.Proofs.YtpndfahgflgocaaGreatDoor
open Go.RowKit Go.Shelf Plain

def eA:List EntV:=[⟨0,3,[120]⟩,⟨1,1,[121]⟩]
def RdN {α:Type} (E:Enc α) (W:World) (g:Nat) (A:Option Addr) (n:Nat) (l:List α):Prop:=RdE E W (fun b=>b < W.heap.size∧b≠g) A n l
section
variable {α : Type} {E : Enc α} {W W' : World} {g n : Nat} {A : Option Addr} {l : List α}
theorem RdN.on (h:RdN E W g A n l) (hb:Below W.heap.size W W'):RdN E W' g A n l:=RdE.mono h (fun _ hb'=>hb.block _ hb'.1) (fun _ hb'=>⟨Nat.lt_of_lt_of_le hb'.1 hb.size,hb'.2⟩)
theorem RdN.grown (h:RdN E W g A n l) (hg:W.grownBy W' (some g)):RdE E W' (Under W'.heap.size) A n l:=RdE.mono h (fun _ hb=>hg.block _ hb.1 (fun e=>hb.2 (Option.some.inj e))) (fun _ hb=>Nat.lt_of_lt_of_le hb.1 hg.size)
end
theorem ent_row {W:World} {g t:Nat} {l:List EntV} {D:Nat→Prop} (h:RowL W g t (flatE l)) (hD:D g):RdE entEn W D (some ⟨g,0,none⟩) l.length l:=by
 refine ⟨rfl,fun _=>⟨g,0,rfl,hD,fun i x hx=>⟨cellsE x,⟨[_],[_,_],rfl,rfl,[_],[_],rfl,rfl,rfl⟩,fun j v hv=>?_⟩⟩⟩
 have hj:j < 3:=by have:=(List.getElem?_eq_some_iff.1 hv).1;simpa [cellsE] using this
 rw [Nat.zero_add,h.cell]
 have:=flat_get (k:=3) (css:=l.map cellsE) (fun cs hc=>by obtain ⟨z,_,rfl⟩:=List.mem_map.1 hc;rfl) (i:=i) (j:=j) (cs:=cellsE x) (by rw [List.getElem?_map,hx];rfl) hj
 rw [show flatE l=(l.map cellsE).flatten from by simp [flatE,List.flatMap]]
 exact this.trans hv
end Go.Proofs.YtpndfahgflgocaaGreatDoor

namespace Go.Proofs.YtpndfahgflgocaaGreatDoor
open Go.RowKit Go.Shelf Plain

def RiseE (l:List EntV) (k:Nat):Prop:=∀i e,i < k→l[i]?=some e→0≤e.slot∧e.slot < 16∧∀p,0 < i→l[i - 1]?=some p→p.slot < e.slot
def PlainN (x:NodV):Prop:=RiseE x.ents x.ents.length∧(0≤x.k∧x.k≤4)∧(0≤x.att.h∧x.att.h≤31)∧x.data.length≤300∧x.ents.length≤16∧x.att.r.length≤40∧∀e∈x.ents,nameB e.name=true
theorem RRight_all (l:List UInt8) (w:World):Calls Tryz.prog 88 #[.string ⟨l.toArray⟩] w fun e w'=>e=.returned (.bool (nameB l))∧w=w':=by
 by_cases hl:l.length≤12
 ·exact RNRight_any l w (by omega)
 ·have hr:nameB l=false:=by
   have:decide (1≤l.length∧l.length≤12)=false:=by simp;omega
   simp [nameB,this]
  rw [hr]
  clear hr
  have d1:decide ((l.length:Int) < 1)=false:=by simp;omega
  have d2:decide ((12:Int) < (l.length:Int))=true:=by simp;omega
  go_enter Tryz.func88,Tryz.ntmps88
  go_wp2
  go_ret
  exact ⟨rfl,rfl⟩
theorem rise_succ {l:List EntV} {j:Nat} {e:EntV} (h:RiseE l j) (he:l[j]?=some e) (h0:0≤e.slot) (h1:e.slot < 16) (h2:∀p,0 < j→l[j - 1]?=some p→p.slot < e.slot):RiseE l (j+1):=by
 intro i x hi hx
 by_cases hij:i=j
 ·subst hij
  rw [he] at hx
  cases hx
  exact ⟨h0,h1,h2⟩
 ·exact h i x (by omega) hx
set_option maxRecDepth 100000 in
theorem odd_any (x:EntV) (w:World):Calls Tryz.prog 63 #[.agg (cellsE x).toArray] w (fun e w'=>∃p:Bool,e=.returned (.bool p)∧Below w.heap.size w w'∧(p=false→nameB x.name=true)):=by
 have r:=RowL.new w 31 (cellsE x)
 have hb:=below_new (below_self w) (.cells (cellsE x).toArray 31)
 have q:(w.alloc (.cells (cellsE x).toArray 31)).cell? ⟨w.heap.size,2,none⟩=some (.string ⟨x.name.toArray⟩):=r.cell 2
 have HB:=hide hb
 clear r hb
 go_enter Tryz.func63,Tryz.ntmps63
 go_wp2_with (go_at_call 88;refine (RRight_all x.name _).mono ?_;rintro e w3 ⟨rfl,rfl⟩)
 go_ret
 exact ⟨_,rfl,HB.out,fun h=>by simpa using h⟩
set_option maxRecDepth 100000 in
set_option maxHeartbeats 1600000 in
theorem EntIdx_any {A:Option Addr} {n c:Nat} {l:List EntV} (w:World) (h:RdE entEn w (Under w.heap.size) A n l) (hm:l.length≤9223372036854775807) :
  Calls Tryz.prog 87 #[.slice A n c,.func (.func 63) #[] #[]] w (fun e w'=>∃r:Int,e=.returned (.int .i64 r)∧Below w.heap.size w w'∧(r < 0→∀x∈l,nameB x.name=true)):=by
 have H:=hide h
 have hn:=h.1
 clear h
 go_enter Tryz.func87,Tryz.ntmps87
 go_wp2
 go_loopw [8] (fun iv wr=>∃j:Nat,j≤n∧iv=.int .i64 j∧Below w.heap.size w wr∧∀i x,i < j→l[i]?=some x→nameB x.name=true) (fun iv _=>n - (intOf iv).toNat)
 case atStart=>exact ⟨0,by omega,rfl,below_self _,fun i x hi=>by omega⟩
 case round =>
  obtain ⟨j,hj,rfl,hbr,hall⟩:=hrel
  have HBR:=hide hbr
  have HALL:=hide hall
  clear hbr hall
  by_cases hlt:j < n
  ·obtain ⟨x,hx⟩:∃x,l[j]?=some x:=⟨_,List.getElem?_eq_getElem (by omega)⟩
   obtain ⟨b,o,rfl,-,hc⟩:=ent_get (H.out.under HBR.out (Nat.le_refl _)) hx
   have HC:=hide hc
   clear hc
   have HX:=hide hx
   clear hx
   go_wp2_with (refine wpList_loadX rfl 31 (.tmp 14) rfl 3 entw_agg entw_size b (o+j*3) rfl (cellsE x) HC.out rfl ?_)
   refine (odd_any x wr).mono ?_
   rintro e w3 ⟨p,rfl,hb3,hp⟩
   have HP:=hide hp
   have HB3:=hide (below_step HBR.out hb3)
   clear hp hb3
   cases p with
   | true =>
    go_wp2
    go_ret
    exact ⟨(j:Int),rfl,HB3.out,fun h=>by omega⟩
   | false =>
    go_wp2
    go_roundw
    case rel=>exact ⟨j+1,by omega,by go_num,HB3.out,fun i y hi hy=>by
     by_cases e:i=j
     ·subst e
      have:=HX.out.symm.trans hy
      cases this
      exact HP.out (by first|rfl|trivial)
     ·exact HALL.out i y (by omega) hy⟩
    case measure=>simp [intOf];omega
  ·obtain rfl:j=n:=by omega
   go_wp2
   go_ret
   exact ⟨-1,rfl,HBR.out,fun _ x hx=>by
    obtain ⟨i,hi,rfl⟩:=List.mem_iff_getElem.1 hx
    exact HALL.out i _ (by omega) (List.getElem?_eq_getElem hi)⟩
set_option maxRecDepth 100000 in
theorem EntHas_any {A:Option Addr} {n c:Nat} {l:List EntV} (w:World) (h:RdE entEn w (Under w.heap.size) A n l) (hm:l.length≤9223372036854775807) :
  Calls Tryz.prog 62 #[.slice A n c,.func (.func 63) #[] #[]] w (fun e w'=>∃r:Bool,e=.returned (.bool r)∧Below w.heap.size w w'∧(r=false→∀x∈l,nameB x.name=true)):=by
 have H:=hide h
 clear h
 go_enter Tryz.func62,Tryz.ntmps62
 go_wp2_with (go_at_call 87;refine (EntIdx_any w H.out hm).mono ?_;rintro e w3 ⟨r,rfl,hb3,hp⟩;have HP:=hide hp;have HB3:=hide hb3;clear hp hb3)
 go_ret
 exact ⟨_,rfl,HB3.out,fun h=>HP.out (by simpa using h)⟩
set_option maxRecDepth 100000 in
set_option maxHeartbeats 16000000 in
theorem PNode_any {D C:Option Addr} {n c m d:Nat} {x:NodV} (w:World) (hD:x.data.length=n) (hC:RdE entEn w (Under w.heap.size) C m x.ents) (hm:m≤9223372036854775807) :
  Calls Tryz.prog 44 #[.agg (nodC x (.slice D n c) (.slice C m d)).toArray] w (fun e w'=>∃p:Bool,e=.returned (.bool p)∧Below w.heap.size w w'∧(p=true→PlainN x)):=by
 have hb:=below_new (below_self w) (.cells (nodC x (.slice D n c) (.slice C m d)).toArray 51)
 obtain ⟨W1,hW1⟩:∃W1,w.alloc (.cells (nodC x (.slice D n c) (.slice C m d)).toArray 51)=W1:=⟨_,rfl⟩
 have r:=RowL.new w 51 (nodC x (.slice D n c) (.slice C m d))
 rw [hW1] at hb r
 have hW1':w.alloc (.cells #[.int .i64 x.k,.int .i64 x.p,.int .i64 x.n,.int .i64 x.g,.slice D n c,.slice C m d,.int .i64 x.att.h,.int .i64 x.att.o,.string ⟨x.att.r.toArray⟩,.int .i64 x.att.l,.int .i64 x.att.i,.int .i64 x.att.g,.int .i64 x.att.s] 51)=W1:=hW1
 have q5:W1.cell? ⟨w.heap.size,5,none⟩=some (.slice C m d):=r.cell 5
 have R:=hide r
 have HB:=hide hb
 have HC:=hide hC
 have HD:=hide hD
 have hml:=hC.1
 unfold nodC
 clear r hb hC hD hW1
 go_enter Tryz.func44,Tryz.ntmps44
 go_wp2
 clear hW1' q5
 go_loopw [8] (fun iv wr=>∃j:Nat,j≤m∧iv=.int .i64 j∧Below W1.heap.size W1 wr∧RiseE x.ents j) (fun iv _=>m - (intOf iv).toNat)
 case atStart=>exact ⟨0,by omega,rfl,below_self _,fun i e hi=>by omega⟩
 case round =>
  obtain ⟨j,hj,rfl,hbr,hall⟩:=hrel
  have HBR:=hide hbr
  have HALL:=hide hall
  have HBW:=hide (HB.out.trans (hbr.mono HB.out.size))
  have hbsz:=HBW.out.size
  have hgl:=(R.out.on hbr).lt
  clear hbr hall
  by_cases hlt:j < m
  ·obtain ⟨e,he⟩:∃e,x.ents[j]?=some e:=⟨_,List.getElem?_eq_getElem (by omega)⟩
   obtain ⟨b,o,hCe,-,hc⟩:=ent_get (HC.out.under HBW.out (Nat.le_refl _)) he
   have HCC:=hide (fun j v hv=>show wr.cell? ⟨b,o+_*3+j,none⟩=some v from hc j v hv)
   have HE:=hide he
   have HP0:Hid (∀p,x.ents[j - 1]?=some p→wr.cell? ⟨b,o+(j - 1)*3,none⟩=some (.int .i64 p.slot)):=hide (fun p hp=>by
    obtain ⟨b',o',e',-,hc'⟩:=ent_get (HC.out.under HBW.out (Nat.le_refl _)) hp
    rw [hCe] at e'
    cases e'
    exact hc' 0 _ rfl)
   have HZ:=hide (RowL.new wr 31 [.int .i64 0,.int .i64 0,.string ⟨#[]⟩])
   have HCN:=hide (HC.out.under HBW.out (Nat.le_refl _))
   subst hCe
   clear hc he
   go_wp2_with (first|(refine wpList_loadX rfl 31 (.tmp 11) rfl 3 entw_agg entw_size b (o+j*3) rfl (cellsE e) HCC.out rfl ?_)|(refine wpList_storeW rfl 31 (.tmp 4) (.tmp 12) rfl 3 entw_size wr.heap.size 31 rfl [.int .i64 0,.int .i64 0,.string ⟨#[]⟩] (cellsE e) rfl HZ.out rfl rfl (cellsE_one e) ?_;intro w3 hr3 hg3 hs3;have HB3:=hide (below_stored' hg3);have HR3:=hide hr3;clear hr3 hg3 hs3))
   simp only [Act.put]
   have qs:w3.cell? ⟨wr.heap.size,0,none⟩=some (.int .i64 e.slot):=HR3.out.cell 0
   have hb3:=HBR.out.trans (HB3.out.mono HBR.out.size)
   have hbe:b < wr.heap.size:=by have h5:=HC.out.2 (by omega);obtain ⟨b5,o5,e5,hlt5,-⟩:=h5;cases e5;have:b < w.heap.size:=hlt5;omega
   have qn:w3.cell? ⟨w.heap.size,5,none⟩=some (.slice (some ⟨b,o,none⟩) m d):=(R.out.on hb3).cell 5
   have HB3w:=hide hb3
   clear hb3
   clear HCC HCN HBW HZ HC
   by_cases h0:e.slot < 0
   ·have d0:decide (e.slot < 0)=true:=by simpa using h0
    go_quiet (fail)
    go_wp2
    go_ret
    first|exact ⟨false,rfl,(HB.out.trans ((below_drewN HB3w.out _).mono HB.out.size)),fun h=>by cases h⟩|exact .inl ⟨rfl,(HB.out.trans ((below_drewN HB3w.out _).mono HB.out.size))⟩
   have d0:decide (e.slot < 0)=false:=by simpa using h0
   by_cases h1:16≤e.slot
   ·have d1:decide (16≤e.slot)=true:=by simpa using h1
    go_quiet (fail)
    go_wp2
    go_ret
    first|exact ⟨false,rfl,(HB.out.trans ((below_drewN HB3w.out _).mono HB.out.size)),fun h=>by cases h⟩|exact .inl ⟨rfl,(HB.out.trans ((below_drewN HB3w.out _).mono HB.out.size))⟩
   have d1:decide (16≤e.slot)=false:=by simpa using h1
   by_cases h2:j=0
   ·have d2:decide (0 < (j:Int))=false:=by simp;omega
    have d2b:decide (0 < j)=false:=by simp;omega
    have HRS:=hide (rise_succ HALL.out HE.out (by omega) (by omega) (fun p hp=>by omega))
    clear h2
    go_quiet (fail)
    go_wp2
    go_roundw
    case rel=>exact ⟨j+1,by omega,by go_num,below_drewN HB3w.out _,HRS.out⟩
    case measure=>simp [intOf];omega
   have d2:decide (0 < (j:Int))=true:=by simp;omega
   have d2b:decide (0 < j)=true:=by simp;omega
   obtain ⟨p,hp⟩:∃p,x.ents[j - 1]?=some p:=⟨_,List.getElem?_eq_getElem (by omega)⟩
   have qp:w3.cell? ⟨b,o+(j - 1)*3,none⟩=some (.int .i64 p.slot):=(HB3.out.cell (p:=⟨b,o+(j - 1)*3,none⟩) hbe).trans (HP0.out p hp)
   have hw:IntKind.i64.wrap ((j:Int) - 1)=((j - 1:Nat):Int):=by rw [show (j:Int) - 1=((j - 1:Nat):Int) from by omega];exact IntWalk.i64_in _ (by omega)
   have hj1:j - 1 < m:=by omega
   have hj2:((j - 1:Nat):Int) < (m:Int):=by omega
   by_cases h3:e.slot≤p.slot
   ·have d3:decide (e.slot≤p.slot)=true:=by simpa using h3
    clear hp
    go_quiet (fail)
    go_wp2
    go_ret
    first|exact ⟨false,rfl,(HB.out.trans ((below_drewN HB3w.out _).mono HB.out.size)),fun h=>by cases h⟩|exact .inl ⟨rfl,(HB.out.trans ((below_drewN HB3w.out _).mono HB.out.size))⟩
   have d3:decide (e.slot≤p.slot)=false:=by simpa using h3
   have HRS:=hide (rise_succ HALL.out HE.out (by omega) (by omega) (fun y hy hy2=>by rw [hp] at hy2;cases hy2;omega))
   clear hp
   go_quiet (fail)
   go_wp2
   go_roundw
   case rel=>exact ⟨j+1,by omega,by go_num,below_drewN HB3w.out _,HRS.out⟩
   case measure=>simp [intOf];omega
  ·obtain rfl:j=m:=by omega
   have q0:wr.cell? ⟨w.heap.size,0,none⟩=some (.int .i64 x.k):=(R.out.on HBR.out).cell 0
   have q4:wr.cell? ⟨w.heap.size,4,none⟩=some (.slice D n c):=(R.out.on HBR.out).cell 4
   have q5:wr.cell? ⟨w.heap.size,5,none⟩=some (.slice C j d):=(R.out.on HBR.out).cell 5
   have q6:wr.cell? ⟨w.heap.size,6,none⟩=some (.int .i64 x.att.h):=(R.out.on HBR.out).cell 6
   have q8:wr.cell? ⟨w.heap.size,8,none⟩=some (.string ⟨x.att.r.toArray⟩):=(R.out.on HBR.out).cell 8
   by_cases k0:0≤x.k
   rotate_left
   ·have c0:decide (0≤x.k)=false:=decide_eq_false k0
    go_wp2_with fail
    go_ret
    first|exact ⟨false,rfl,HBW.out,fun h=>by cases h⟩|exact .inl ⟨rfl,HBW.out⟩
   have c0:decide (0≤x.k)=true:=decide_eq_true k0
   by_cases k1:x.k≤4
   rotate_left
   ·have c1:decide (x.k≤4)=false:=decide_eq_false k1
    go_wp2_with fail
    go_ret
    first|exact ⟨false,rfl,HBW.out,fun h=>by cases h⟩|exact .inl ⟨rfl,HBW.out⟩
   have c1:decide (x.k≤4)=true:=decide_eq_true k1
   by_cases k2:0≤x.att.h
   rotate_left
   ·have c2:decide (0≤x.att.h)=false:=decide_eq_false k2
    go_wp2_with fail
    go_ret
    first|exact ⟨false,rfl,HBW.out,fun h=>by cases h⟩|exact .inl ⟨rfl,HBW.out⟩
   have c2:decide (0≤x.att.h)=true:=decide_eq_true k2
   by_cases k3:x.att.h≤31
   rotate_left
   ·have c3:decide (x.att.h≤31)=false:=decide_eq_false k3
    go_wp2_with fail
    go_ret
    first|exact ⟨false,rfl,HBW.out,fun h=>by cases h⟩|exact .inl ⟨rfl,HBW.out⟩
   have c3:decide (x.att.h≤31)=true:=decide_eq_true k3
   by_cases k4:(n:Int)≤300
   rotate_left
   ·have c4:decide ((n:Int)≤300)=false:=decide_eq_false k4
    go_wp2_with fail
    go_ret
    first|exact ⟨false,rfl,HBW.out,fun h=>by cases h⟩|exact .inl ⟨rfl,HBW.out⟩
   have c4:decide ((n:Int)≤300)=true:=decide_eq_true k4
   by_cases k5:(j:Int)≤16
   rotate_left
   ·have c5:decide ((j:Int)≤16)=false:=decide_eq_false k5
    go_wp2_with fail
    go_ret
    first|exact ⟨false,rfl,HBW.out,fun h=>by cases h⟩|exact .inl ⟨rfl,HBW.out⟩
   have c5:decide ((j:Int)≤16)=true:=decide_eq_true k5
   by_cases k6:(x.att.r.length:Int)≤40
   rotate_left
   ·have c6:decide ((x.att.r.length:Int)≤40)=false:=decide_eq_false k6
    go_wp2_with fail
    go_ret
    first|exact ⟨false,rfl,HBW.out,fun h=>by cases h⟩|exact .inl ⟨rfl,HBW.out⟩
   have c6:decide ((x.att.r.length:Int)≤40)=true:=decide_eq_true k6
   have HCN:=hide (HC.out.under HBW.out (Nat.le_refl _))
   have HCU:=hide (HCN.out.mono (fun _ _=>rfl) (fun b hb=>Nat.lt_of_lt_of_le hb hbsz):RdE entEn wr (Under wr.heap.size) C j x.ents)
   clear HCN
   go_wp2_with (go_at_call 62;refine (EntHas_any wr HCU.out (by omega)).mono ?_;rintro e w3 ⟨r,rfl,hb3,hp⟩;have HP:=hide hp;have HB3:=hide (HBW.out.trans (hb3.mono HBW.out.size));clear hp hb3)
   go_ret
   refine ⟨_,rfl,HB3.out,fun h=>⟨by rw [hml];exact HALL.out,⟨k0,k1⟩,⟨k2,k3⟩,by have:=HD.out;omega,by omega,by omega,HP.out (by simpa using h)⟩⟩
set_option maxRecDepth 100000 in
theorem PBr1_any (x:NodV) {D C:Option Addr} {n c m d:Nat} (w:World) (hD:x.data.length=n) (hC:RdE entEn w (Under w.heap.size) C m x.ents) (hm:m≤9223372036854775807) :
  Calls Tryz.prog 43 #[.agg (nodC x (.slice D n c) (.slice C m d)).toArray] w (fun e w'=>∃p:Bool,e=.returned (.bool p)∧Below w.heap.size w w'∧(p=false→PlainN x)):=by
 have r:=RowL.new w 51 (nodC x (.slice D n c) (.slice C m d))
 have hb:=below_new (below_self w) (.cells (nodC x (.slice D n c) (.slice C m d)).toArray 51)
 have HR:=hide r
 have HB:=hide hb
 have HC:=hide (hC.on hb)
 have HD:=hide hD
 clear r hb hC hD
 go_enter Tryz.func43,Tryz.ntmps43
 go_wp2_with (refine wpList_loadW rfl 51 (.tmp 1) rfl 13 nod_agg nod_size w.heap.size 51 rfl (nodC x (.slice D n c) (.slice C m d)) HR.out rfl ?_)
 refine (PNode_any _ HD.out HC.out hm).mono ?_
 rintro e w3 ⟨p,rfl,hb3,hp⟩
 have HP:=hide hp
 have HB3:=hide (below_step HB.out hb3)
 clear hp hb3
 cases p
 ·go_wp2
  go_ret
  first|exact ⟨true,rfl,HB3.out,fun h=>by cases h⟩|exact .inr ⟨rfl,HB3.out⟩
 ·go_wp2
  go_ret
  have hg:=HP.out (by first|rfl|trivial)
  first|exact ⟨false,rfl,HB3.out,fun _=>hg⟩|exact .inl ⟨rfl,HB3.out,hg⟩|exact .inl ⟨rfl,HB3.out,fun _=>hg⟩
set_option maxRecDepth 100000 in
set_option maxHeartbeats 1600000 in
theorem NodIdx_any {A:Option Addr} {n c:Nat} {l:List NodV} (w:World) (h:RdE nodEn w (Under w.heap.size) A n l) (hm:l.length≤9223372036854775807) (hsm:∀x∈l,x.ents.length≤9223372036854775807) :
  Calls Tryz.prog 61 #[.slice A n c,.func (.func 43) #[] #[]] w (fun e w'=>∃r:Int,e=.returned (.int .i64 r)∧Below w.heap.size w w'∧(r < 0→∀x∈l,PlainN x)):=by
 have H:=hide h
 have hn:=h.1
 clear h
 go_enter Tryz.func61,Tryz.ntmps61
 go_wp2
 go_loopw [8] (fun iv wr=>∃j:Nat,j≤n∧iv=.int .i64 j∧Below w.heap.size w wr∧∀i x,i < j→l[i]?=some x→PlainN x) (fun iv _=>n - (intOf iv).toNat)
 case atStart=>exact ⟨0,by omega,rfl,below_self _,fun i x hi=>by omega⟩
 case round =>
  obtain ⟨j,hj,rfl,hbr,hall⟩:=hrel
  have HBR:=hide hbr
  have HALL:=hide hall
  clear hbr hall
  by_cases hlt:j < n
  ·obtain ⟨x,hx⟩:∃x,l[j]?=some x:=⟨_,List.getElem?_eq_getElem (by omega)⟩
   obtain ⟨b,o,cs,rfl,-,hNd,hc⟩:=(H.out.under HBR.out (Nat.le_refl _)).get_nod hx
   obtain ⟨D,n1,c1,C,m1,d1,rfl,e2,e3,e4,e5⟩:=hNd
   have HC:=hide hc
   have E3:=hide e3.1
   have E5:=hide (e5.mono (fun _ _=>rfl) (fun b hb=>Nat.lt_of_lt_of_le hb HBR.out.size):RdE entEn wr (Under wr.heap.size) C m1 x.ents)
   have hm1:m1≤9223372036854775807:=by rw [←e5.1];exact hsm x (List.mem_of_getElem? hx)
   clear hc e3 e5
   have HX:=hide hx
   clear hx
   go_wp2_with (refine wpList_loadX rfl 51 (.tmp 14) rfl 13 nod_agg nod_size b (o+j*13) rfl (nodC x (.slice D n1 c1) (.slice C m1 d1)) HC.out rfl ?_)
   refine (PBr1_any x wr E3.out E5.out hm1).mono ?_
   rintro e w3 ⟨p,rfl,hb3,hp⟩
   have HP:=hide hp
   have HB3:=hide (below_step HBR.out hb3)
   clear hp hb3
   cases p with
   | true =>
    go_wp2
    go_ret
    exact ⟨(j:Int),rfl,HB3.out,fun h=>by omega⟩
   | false =>
    go_wp2
    go_roundw
    case rel=>exact ⟨j+1,by omega,by go_num,HB3.out,fun i y hi hy=>by
     by_cases e:i=j
     ·subst e
      have:=HX.out.symm.trans hy
      cases this
      exact HP.out (by first|rfl|trivial)
     ·exact HALL.out i y (by omega) hy⟩
    case measure=>simp [intOf];omega
  ·obtain rfl:j=n:=by omega
   go_wp2
   go_ret
   exact ⟨-1,rfl,HBR.out,fun _ x hx=>by
    obtain ⟨i,hi,rfl⟩:=List.mem_iff_getElem.1 hx
    exact HALL.out i _ (by omega) (List.getElem?_eq_getElem hi)⟩
set_option maxRecDepth 100000 in
theorem NodHas_any {A:Option Addr} {n c:Nat} {l:List NodV} (w:World) (h:RdE nodEn w (Under w.heap.size) A n l) (hm:l.length≤9223372036854775807) (hsm:∀x∈l,x.ents.length≤9223372036854775807) :
  Calls Tryz.prog 42 #[.slice A n c,.func (.func 43) #[] #[]] w (fun e w'=>∃r:Bool,e=.returned (.bool r)∧Below w.heap.size w w'∧(r=false→∀x∈l,PlainN x)):=by
 have H:=hide h
 clear h
 go_enter Tryz.func42,Tryz.ntmps42
 go_wp2_with (go_at_call 61;refine (NodIdx_any w H.out hm hsm).mono ?_;rintro e w3 ⟨r,rfl,hb3,hp⟩;have HP:=hide hp;have HB3:=hide hb3;clear hp hb3)
 go_ret
 exact ⟨_,rfl,HB3.out,fun h=>HP.out (by simpa using h)⟩
set_option maxRecDepth 100000 in
theorem PBranch_any {A:Option Addr} {n c:Nat} {many:Int} {ns:List NodV} (w:World) (h:RdE nodEn w (Under w.heap.size) A n ns) (hmany:many≤100000) (hsm:∀x∈ns,x.ents.length≤9223372036854775807) :
  Calls Tryz.prog 21 #[.agg #[.slice A n c],.int .i64 many] w (fun e w'=>∃p:Bool,e=.returned (.bool p)∧Below w.heap.size w w'∧(p=true→(n:Int)≤many∧∀x∈ns,PlainN x)):=by
 have r:=RowL.new w 26 [.slice A n c]
 have hb:=below_new (below_self w) (.cells [.slice A n c].toArray 26)
 have q:(w.alloc (.cells #[.slice A n c] 26)).cell? ⟨w.heap.size,0,none⟩=some (.slice A n c):=r.cell 0
 have HB:=hide hb
 have H:=hide (h.on hb)
 have hl:=h.1
 clear r hb h
 by_cases k0:(n:Int)≤many
 rotate_left
 ·have c0:decide ((n:Int)≤many)=false:=decide_eq_false k0
  go_enter Tryz.func21,Tryz.ntmps21
  go_wp2
  go_ret
  first|exact ⟨false,rfl,HB.out,fun h=>by cases h⟩|exact .inl ⟨rfl,HB.out⟩
 have c0:decide ((n:Int)≤many)=true:=decide_eq_true k0
 have hlm:ns.length≤9223372036854775807:=by omega
 go_enter Tryz.func21,Tryz.ntmps21
 go_wp2_with fail
 refine (NodHas_any _ H.out hlm hsm).mono ?_
 rintro e w3 ⟨p,rfl,hb3,hp⟩
 have HP:=hide hp
 have HB3:=hide (below_step HB.out hb3)
 clear hp hb3
 cases p
 ·go_wp2
  go_ret
  have hg:=HP.out (by first|rfl|trivial)
  first|exact ⟨true,rfl,HB3.out,fun _=>⟨k0,hg⟩⟩|exact .inr ⟨rfl,HB3.out,k0,hg⟩|exact .inr ⟨rfl,HB3.out,fun _=>⟨k0,hg⟩⟩
 ·go_wp2
  go_ret
  first|exact ⟨false,rfl,HB3.out,fun h=>by cases h⟩|exact .inl ⟨rfl,HB3.out⟩
end Go.Proofs.YtpndfahgflgocaaGreatDoor

