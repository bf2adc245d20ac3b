import Derived.Test.YtmhiohnkjpglfaaIs24
import Derived.Test.YtmhiohnkjpglfaaIs11
import Derived.Test.YtmhiohnkjpglfaaIs22
import Derived.Deep.Cut
import Derived.Deep.CutRange
import Derived.Test.YtmhiohnkjpglfaaIs15

namespace Go.Proofs.Ytmhiohnkjpglfaa
open Go.RowKit Go.Shelf Plain

structure GeoQ where
 (a b c d:Int)
def stkC (g:GeoQ) (U L:Value):List Value:=[.int .i64 g.a,.int .i64 g.b,.int .i64 g.c,.int .i64 g.d,U,L]
def layEn:Enc (List NodV):=Enc.list nodEn
set_option maxRecDepth 100000 in
theorem stk_agg:∀w,(isAgg 29).run Try.prog w=.ok true w:=fun w=>by kernel_rfl
set_option maxRecDepth 100000 in
theorem stk_size:∀w,(Go.sizeOf 29).run Try.prog w=.ok 6 w:=fun w=>by kernel_rfl
theorem Of_e {A:Option Addr} {B:Nat} {n c:Nat} {ns:List NodV} {i:Int} {x:NodV} (hx:nodAt ns i=x) (w:World) (h:RdE nodEn w (Under B) A n ns) (hB:B≤w.heap.size) (hm:ns.length≤100000):Calls Try.prog 32 #[.agg #[.slice A n c],.int .i64 i] w (NodRet w B x):=by rw [←hx];exact Of_any w h hB hm
end Go.Proofs.Ytmhiohnkjpglfaa

namespace Go.Proofs.Ytmhiohnkjpglfaa
open Go.RowKit Go.Shelf Plain

set_option maxRecDepth 100000 in
set_option maxHeartbeats 1600000 in
theorem NHas_b {x:NodV} {D C:Option Addr} {n c m d:Nat} {q:Int} {b:Bool} (hb:(bits .and .i64 x.att.h q==q)=b) (w:World):Calls Try.prog 31 #[.agg (nodC x (.slice D n c) (.slice C m d)).toArray,.int .i64 q] w (BoolB w b):=by
 have r:=RowL.new w 46 (nodC x (.slice D n c) (.slice C m d))
 have hb1:=below_new (below_self w) (.cells (nodC x (.slice D n c) (.slice C m d)).toArray 46)
 obtain ⟨W1,hW1⟩:∃W1,w.alloc (.cells (nodC x (.slice D n c) (.slice C m d)).toArray 46)=W1:=⟨_,rfl⟩
 rw [hW1] at r hb1
 have hW1':w.alloc (.cells #[.int .i64 x.k,.int .i64 x.p,.int .i64 x.n,.int .i64 x.g,.slice D n c,.slice C m d,.int .i64 x.att.h,.int .i64 x.att.o,.string ⟨x.att.r.toArray⟩,.int .i64 x.att.l,.int .i64 x.att.i,.int .i64 x.att.g,.int .i64 x.att.s] 46)=W1:=hW1
 have q6:W1.cell? ⟨w.heap.size,6,none⟩=some (.int .i64 x.att.h):=r.cell 6
 have HB1:=hide hb1
 have HBB:=hide hb
 unfold nodC
 clear r hb1 hW1
 go_enter Try.func31,Try.ntmps31
 go_wp2
 go_ret
 exact BoolB.of HB1.out
end Go.Proofs.Ytmhiohnkjpglfaa

namespace Go.Proofs.Ytmhiohnkjpglfaa
open Go.RowKit Go.Shelf Plain

section
variable {P : Program} {T T' k k' : Nat}
end
def FirstBS (w9:World) (base ge gn r1 r2:Nat) (ec nc:List Value) (W:World):Prop:=RowL W ge 53 ec∧RowL W gn 46 nc∧(∃cu,RowL W r1 53 cu∧cu.length=3)∧(∃cu,RowL W r2 46 cu∧cu.length=13)∧Below base w9 W
theorem FirstBS.drew {w9:World} {base ge gn r1 r2:Nat} {ec nc:List Value} {W:World} (h:FirstBS w9 base ge gn r1 r2 ec nc W):FirstBS w9 base ge gn r1 r2 ec nc W.drew:=⟨h.1,h.2.1,h.2.2.1,h.2.2.2.1,⟨h.2.2.2.2.os,h.2.2.2.2.tape,h.2.2.2.2.output,h.2.2.2.2.size,h.2.2.2.2.block⟩⟩
end Go.Proofs.Ytmhiohnkjpglfaa

namespace Go.Proofs.Ytmhiohnkjpglfaa
open Go.RowKit Go.Shelf Plain

section
variable {gS gL : Nat} {p : List UInt8 → Bool} {B0 : Nat}
def DelN (p:List UInt8→Bool) (l:List (List UInt8)) (n c g a b:Nat) (W:World):Prop:=∃cs,RowL W g 9 cs∧cs.length=c∧n≤c∧((l.take b).filter (fun x=>!p x)).length=a∧cs.take a=((l.take b).filter (fun x=>!p x)).map st∧∀i x,b≤i→l[i]?=some x→cs[i]?=some (st x)
theorem DelN.on {l:List (List UInt8)} {n c g a b:Nat} {W W':World} (h:DelN p l n c g a b W) (hb:Below W.heap.size W W'):DelN p l n c g a b W':=by
 obtain ⟨cs,h1,h2⟩:=h
 exact ⟨cs,h1.on hb,h2⟩
theorem DelN.skip {l:List (List UInt8)} {n c g a b:Nat} {W:World} {x:List UInt8} (h:DelN p l n c g a b W) (hx:l[b]?=some x) (hp:p x=true):DelN p l n c g a (b+1) W:=by
 obtain ⟨cs,h1,h2,h3,h4,h5,h6⟩:=h
 have e:(l.take (b+1)).filter (fun x=>!p x)=(l.take b).filter (fun x=>!p x):=by rw [List.take_add_one,hx,List.filter_append];simp [hp]
 exact ⟨cs,h1,h2,h3,by rw [e];exact h4,by rw [e];exact h5,fun i y hi hy=>h6 i y (by omega) hy⟩
theorem DelN.put {l:List (List UInt8)} {n c g a b:Nat} {W:World} {x:List UInt8} (h:DelN p l n c g a b W) (hx:l[b]?=some x) (hp:p x=false) (hab:a < b) (hbc:b < c):DelN p l n c g (a+1) (b+1) (W.setCell ⟨g,a,none⟩ (st x)):=by
 obtain ⟨cs,h1,h2,h3,h4,h5,h6⟩:=h
 have e:(l.take (b+1)).filter (fun x=>!p x)=(l.take b).filter (fun x=>!p x)++[x]:=by rw [List.take_add_one,hx,List.filter_append];simp [hp]
 refine ⟨cs.set a (st x),h1.set_ a _,by rw [List.length_set];exact h2,h3,by rw [e,List.length_append,h4];rfl,?_,fun i y hi hy=>?_⟩
 ·rw [e,List.map_append,←h5,List.take_add_one,List.getElem?_set_self (by omega),List.take_set_of_le (Nat.le_refl _)]
  rfl
 ·rw [List.getElem?_set_ne (by omega)]
  exact h6 i y (by omega) hy
end
end Go.Proofs.Ytmhiohnkjpglfaa

