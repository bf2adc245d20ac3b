import Derived.Test.YtnhegahpfacdgaaDoorHf10
import Derived.RangeFuncNested
import Derived.RangeFuncBound
import Derived.RangeFuncCalls
import Derived.RangeFuncLeaves
import Derived.RangeFuncFrom
import Derived.RangeFuncWrites
import Derived.Shelf.Abstract
import Derived.Shelf.RegionOpen
import Derived.WalkKit
import Derived.OwnWalkIn
import Derived.TacticsInMore
import Derived.LoopNIn
import Derived.LoopIn
import Derived.Test.YtnhegahpfacdgaaDoorRows
import Derived.Test.YtnhegahpfacdgaaDoorHf11

namespace Go.Proofs.YtnhegahpfacdgaaDoor
open Go.RowKit Go.Shelf Plain
attribute [local go_sem] Oper.semAt_some

theorem grown_below {W W':World} (h:Below W.heap.size W W'):W.grownBy W' none:=⟨h.os,h.tape,h.output,h.size,fun k hk _=>h.block k hk⟩
section
variable {F : Fence} {n : Nat} {P : Program} {w : World} {o : Oper} {a : Act} {K : Act → World → Prop} {Q : Exit → Act → World → Prop}
end
def Marks (base:Nat) (Ds:List Nat) (W:World):Prop:=Ds.Pairwise (fun a b=>b < a)∧∀D,D∈Ds→base≤D∧W.heap[D]?=some (.deferred (some []))
theorem Marks.none_ (base:Nat) (W:World):Marks base [] W:=⟨List.Pairwise.nil,fun _ h=>by cases h⟩
theorem Marks.lt {base:Nat} {Ds:List Nat} {W:World} (h:Marks base Ds W):∀D,D∈Ds→D < W.heap.size:=fun D hD=>(Array.getElem?_eq_some_iff.1 (h.2 D hD).2).1
theorem Marks.more {base D:Nat} {Ds:List Nat} {W:World} (h:Marks base Ds W) (hD:∀D',D'∈Ds→D' < D) (hb:base≤D) (ho:W.heap[D]?=some (.deferred (some []))):Marks base (D::Ds) W :=
 ⟨List.Pairwise.cons (fun b hb=>hD b hb) h.1,fun D' h'=>by
  rcases List.mem_cons.1 h' with rfl|h'
  ·exact ⟨hb,ho⟩
  ·exact h.2 D' h'⟩
theorem Marks.on {base:Nat} {Ds:List Nat} {W W':World} (h:Marks base Ds W) (hb:Below W.heap.size W W'):Marks base Ds W':=⟨h.1,fun D hD=>⟨(h.2 D hD).1,(hb.block D (h.lt D hD)).trans (h.2 D hD).2⟩⟩
theorem Marks.under {base B:Nat} {Ds:List Nat} {W W':World} (h:Marks base Ds W) (hB:∀D,D∈Ds→D < B) (hb:Below B W W'):Marks base Ds W':=⟨h.1,fun D hD=>⟨(h.2 D hD).1,(hb.block D (hB D hD)).trans (h.2 D hD).2⟩⟩
theorem Marks.grown {base:Nat} {Ds:List Nat} {W W':World} {row:Option Nat} (h:Marks base Ds W) (hg:W.grownBy W' row) (hr:∀r,row=some r→r∉Ds):Marks base Ds W':=⟨h.1,fun D hD=>⟨(h.2 D hD).1,(hg.block D (h.lt D hD) (fun e=>hr D e.symm hD)).trans (h.2 D hD).2⟩⟩
theorem Marks.notin {base g:Nat} {Ds:List Nat} {W:World} {o:Obj} (h:Marks base Ds W) (ho:W.heap[g]?=some o) (hn:∀x,o≠.deferred x):g∉Ds:=fun hm=>by
 have:=(h.2 g hm).2
 rw [ho] at this
 exact hn _ (Option.some.inj this)
theorem Marks.row {base g t:Nat} {cs:List Value} {Ds:List Nat} {W:World} (h:Marks base Ds W) (hr:RowL W g t cs):g∉Ds:=h.notin (o:=.cells cs.toArray t (0,0)) hr (fun x e=>by cases e)
def Unmarked (Ds:List Nat) (W W':World):Prop:=W'.os=W.os∧W'.tape=W.tape∧W'.output=W.output∧W'.heap.size=W.heap.size∧∀j,j∉Ds→W'.heap[j]?=W.heap[j]?
theorem Unmarked.row {Ds:List Nat} {W W':World} {g t:Nat} {cs:List Value} (h:Unmarked Ds W W') (hr:RowL W g t cs) (hg:g∉Ds):RowL W' g t cs:=(h.2.2.2.2 g hg).trans hr
theorem Unmarked.under {base B:Nat} {Ds:List Nat} {W W' W0:World} (h:Unmarked Ds W W') (hm:Marks base Ds W) (hB:B≤base) (hb:Below B W0 W):Below B W0 W' :=
 ⟨h.1.trans hb.os,h.2.1.trans hb.tape,h.2.2.1.trans hb.output,by rw [h.2.2.2.1];exact hb.size,fun k hk=>(h.2.2.2.2 k (fun hD=>by have:=(hm.2 k hD).1;omega)).trans (hb.block k hk)⟩
theorem Unmarked.below {base:Nat} {Ds:List Nat} {W W' W0:World} (h:Unmarked Ds W W') (hm:Marks base Ds W) (hb:Below base W0 W):Below base W0 W' :=
 ⟨h.1.trans hb.os,h.2.1.trans hb.tape,h.2.2.1.trans hb.output,by rw [h.2.2.2.1];exact hb.size,fun k hk=>(h.2.2.2.2 k (fun hD=>by have:=(hm.2 k hD).1;omega)).trans (hb.block k hk)⟩
end Go.Proofs.YtnhegahpfacdgaaDoor

namespace Go.Proofs.YtnhegahpfacdgaaDoor
open Go.RowKit Go.Shelf Plain

def nodC (x:NodV) (d e:Value):List Value:=[.int .i64 x.k,.int .i64 x.p,.int .i64 x.n,.int .i64 x.g,d,e,.int .i64 x.att.h,.int .i64 x.att.o,.string ⟨x.att.r.toArray⟩,.int .i64 x.att.l,.int .i64 x.att.i,.int .i64 x.att.g,.int .i64 x.att.s]
def NodR (w:World) (D:Nat→Prop) (cs:List Value) (x:NodV):Prop:=∃A n c C m d,cs=nodC x (.slice A n c) (.slice C m d)∧n≤c∧RdE Enc.byte w D A n x.data∧m≤d∧RdE entEn w D C m x.ents
theorem NodR.mono {w w':World} {D D':Nat→Prop} {cs:List Value} {x:NodV} (h:NodR w D cs x) (hk:Kept D w w') (hD:∀b,D b→D' b):NodR w' D' cs x:=by
 obtain ⟨A,n,c,C,m,d,h1,h2,h3,h4,h5⟩:=h
 exact ⟨A,n,c,C,m,d,h1,h2,h3.mono hk hD,h4,h5.mono hk hD⟩
def nodEn : Enc NodV where
 k:=13
 R:=NodR
 len:=fun ⟨_,_,_,_,_,_,h,_⟩=>by rw [h];rfl
 one:=fun ⟨_,_,_,_,_,_,h,_⟩ v hv=>by
  rw [h] at hv
  simp only [nodC,List.mem_cons,List.not_mem_nil,or_false] at hv
  rcases hv with rfl|rfl|rfl|rfl|rfl|rfl|rfl|rfl|rfl|rfl|rfl|rfl|rfl <;> rfl
 mono:=NodR.mono
theorem RdE.get_nod {w:World} {D:Nat→Prop} {A:Option Addr} {n:Nat} {l:List NodV} (h:RdE nodEn w D A n l) {i:Nat} {x:NodV} (hx:l[i]?=some x) :
  ∃b o cs,A=some ⟨b,o,none⟩∧D b∧NodR w D cs x∧∀j v,cs[j]?=some v→w.cell? ⟨b,o+i*13+j,none⟩=some v:=by
 have hi:=(List.getElem?_eq_some_iff.1 hx).1
 obtain ⟨b,o,e,hb,hc⟩:=h.2 (by have:=h.1;omega)
 obtain ⟨cs,hcs,hcell⟩:=hc i x hx
 refine ⟨b,o,cs,e,hb,hcs,fun j v hv=>?_⟩
 have:=hcell j v hv
 rwa [show o+(i*nodEn.k+j)=o+i*13+j from by show o+(i*13+j)=o+i*13+j;omega] at this
set_option maxRecDepth 100000 in
theorem nod_agg:∀w,(isAgg 44).run Tryd.prog w=.ok true w:=fun w=>by kernel_rfl
set_option maxRecDepth 100000 in
theorem nod_size:∀w,(Go.sizeOf 44).run Tryd.prog w=.ok 13 w:=fun w=>by kernel_rfl
theorem nodC_one (x:NodV) (A C:Option Addr) (n c m d:Nat):∀v∈nodC x (.slice A n c) (.slice C m d),v.oneCell'=true:=by simp [nodC,Value.oneCell']
def NodRet (w:World) (B:Nat) (x:NodV) (e:Ending) (w':World):Prop:=∃A n c C m d,e=.returned (.agg (nodC x (.slice A n c) (.slice C m d)).toArray)∧n≤c∧RdE Enc.byte w' (Under B) A n x.data∧m≤d∧RdE entEn w' (Under B) C m x.ents∧Below w.heap.size w w'
theorem RdE.under {α:Type} {E:Enc α} {w w':World} {B:Nat} {A:Option Addr} {n:Nat} {l:List α} (h:RdE E w (Under B) A n l) (hb:Below w.heap.size w w') (hB:B≤w.heap.size):RdE E w' (Under B) A n l :=
 h.mono (Kept.of_below hb fun _ h=>Nat.lt_of_lt_of_le h hB) fun _ h=>h
theorem NodRet.of {w w':World} {B:Nat} {x:NodV} {A C:Option Addr} {n c m d:Nat} (hn:n≤c) (h1:RdE Enc.byte w (Under B) A n x.data) (hm:m≤d) (h2:RdE entEn w (Under B) C m x.ents) (hb:Below w.heap.size w w') (hB:B≤w.heap.size):NodRet w B x (.returned (.agg (nodC x (.slice A n c) (.slice C m d)).toArray)) w' :=
 ⟨A,n,c,C,m,d,rfl,hn,h1.under hb hB,hm,h2.under hb hB,hb⟩
def WkN (w:World) (B g:Nat) (ns:List NodV):Prop:=∃A n c,w.cell? ⟨g,0,none⟩=some (.slice A n c)∧RdE nodEn w (Under B) A n ns
theorem WkN.on {w w':World} {B g:Nat} {ns:List NodV} (h:WkN w B g ns) (hb:Below w.heap.size w w') (hB:B≤w.heap.size) (hg:g < w.heap.size):WkN w' B g ns:=by
 obtain ⟨A,n,c,h1,h2⟩:=h
 exact ⟨A,n,c,(hb.cell (p:=⟨g,0,none⟩) hg).trans h1,h2.under hb hB⟩
end Go.Proofs.YtnhegahpfacdgaaDoor

namespace Go.Proofs.YtnhegahpfacdgaaDoor
open Go.RowKit Plain

def AheadW (p:Nat) (s:StW):Prop:=∀q∈s.2,∃j y,j < p∧s.1[j]?=some y∧y.ino=q.1
def AddsW (p:Nat) (s r:StW):Prop:=s.1 <+: r.1∧(∀q∈s.2,q∈r.2)∧∀q∈r.2,q∈s.2∨∃j y,p≤j∧r.1[j]?=some y∧y.ino=q.1
theorem AddsW.refl (p:Nat) (s:StW):AddsW p s s:=⟨List.prefix_refl _,fun _ h=>h,fun _ h=>.inl h⟩
theorem pre_get {l r:List WayV} {j:Nat} {y:WayV} (h:l <+: r) (hy:l[j]?=some y):r[j]?=some y:=by
 obtain ⟨t,rfl⟩:=h
 rw [List.getElem?_append_left (List.getElem?_eq_some_iff.1 hy).1]
 exact hy
theorem AddsW.trans {p p':Nat} {s r u:StW} (h:AddsW p s r) (k:AddsW p' r u) (hp:p≤p'):AddsW p s u:=by
 refine ⟨h.1.trans k.1,fun q hq=>k.2.1 q (h.2.1 q hq),fun q hq=>?_⟩
 rcases k.2.2 q hq with h1|⟨j,y,h1,h2,h3⟩
 ·rcases h.2.2 q h1 with h1|⟨j,y,h1,h2,h3⟩
  ·exact .inl h1
  ·exact .inr ⟨j,y,h1,pre_get k.1 h2,h3⟩
 ·exact .inr ⟨j,y,by omega,h2,h3⟩
theorem AheadW.mono {p p':Nat} {s:StW} (h:AheadW p s) (hp:p≤p'):AheadW p' s:=fun q hq=>by
 obtain ⟨j,y,h1,h2,h3⟩:=h q hq
 exact ⟨j,y,by omega,h2,h3⟩
end Go.Proofs.YtnhegahpfacdgaaDoor

namespace Go.Proofs.YtnhegahpfacdgaaDoor
open Go.RowKit Plain

theorem nodAt_get {ns:List NodV} {j:Nat} {n:NodV} (h:ns[j]?=some n):nodAt ns ((j:Int)+1)=n:=by
 have hj:=(List.getElem?_eq_some_iff.1 h).1
 unfold nodAt
 rw [if_pos (by omega),show ((j:Int)+1 - 1).toNat=j from by omega,h]
 rfl
theorem nodAt_out {ns:List NodV} {i:Int} (h:¬(1≤i∧i≤(ns.length:Int))):nodAt ns i=nod0:=by unfold nodAt;rw [if_neg h]
theorem nodAt_in {ns:List NodV} {i:Int} (h:1≤i∧i≤(ns.length:Int)):∃(j:Nat) (n:NodV),i=(j:Int)+1∧ns[j]?=some n∧nodAt ns i=n:=by
 obtain ⟨j,hj⟩:=Int.eq_ofNat_of_zero_le (show 0≤i - 1 by omega)
 have hl:j < ns.length:=by omega
 refine ⟨j,ns[j],by omega,List.getElem?_eq_getElem hl,?_⟩
 rw [show i=(j:Int)+1 from by omega]
 exact nodAt_get (List.getElem?_eq_getElem hl)
def ComesW (ns:List NodV) (s:StW):Prop:=∀q∈s.2,∃e,(nodAt ns q.1).ents[q.2]?=some e∧∃y∈s.1,y.ino=e.ino
theorem ComesW.pre {ns:List NodV} {l r:List WayV} {t:List (Int×Nat)} (h:ComesW ns (l,t)) (hp:l <+: r):ComesW ns (r,t):=fun q hq=>by
 obtain ⟨e,h1,y,h2,h3⟩:=h q hq
 exact ⟨e,h1,y,hp.subset h2,h3⟩
end Go.Proofs.YtnhegahpfacdgaaDoor

