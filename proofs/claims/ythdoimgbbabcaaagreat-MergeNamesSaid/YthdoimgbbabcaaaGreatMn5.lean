import Derived.Test.YthdoimgbbabcaaaGreatMn4
import Derived.RangeFuncNested
import Derived.RangeFuncBound
import Derived.RangeFuncCalls
import Derived.RangeFuncLeaves
import Derived.RangeFuncFrom
import Derived.RangeFuncWrites
import Derived.Shelf.Abstract
import Derived.Shelf.RegionOpen
import Derived.WalkKit
import Derived.OwnWalkIn
import Derived.TacticsInMore
import Derived.LoopNIn
import Derived.LoopIn
import Derived.Test.YthdoimgbbabcaaaGreatRows
import Derived.Maps.OwnIn
import Derived.Maps.RangeWalk
import Derived.Carry
import Derived.Test.YthdoimgbbabcaaaGreatMn1
import Derived.Deep.RegionHeld3
import Derived.KernelRfl

namespace Go.Proofs.YthdoimgbbabcaaaGreat
open Go.RowKit Go.Shelf Plain
attribute [local go_sem] Oper.semAt_some

theorem grown_below {W W':World} (h:Below W.heap.size W W'):W.grownBy W' none:=⟨h.os,h.tape,h.output,h.size,fun k hk _=>h.block k hk⟩
section
variable {F : Fence} {n : Nat} {P : Program} {w : World} {o : Oper} {a : Act} {K : Act → World → Prop} {Q : Exit → Act → World → Prop}
end
theorem ownsRow_below {w w':World} {base e s n:Nat} {v:Value} {xs:List Value} (h:w.ownsRow base e s v n xs) (hb:Below w.heap.size w w'):w'.ownsRow base e s v n xs:=by
 refine ⟨h.1,?_⟩
 rcases h.2 with h0|⟨g,cap,cur,h1,h2,h3,h4⟩
 ·exact .inl h0
 ·refine .inr ⟨g,cap,cur,h1,h2,?_,h4⟩
  rw [hb.block g ?_]
  ·exact h3
  ·rcases Nat.lt_or_ge g w.heap.size with hlt|hge
   ·exact hlt
   ·rw [Array.getElem?_eq_none hge] at h3;cases h3
theorem own_block {W:World} {base e s n:Nat} {v:Value} {xs:List Value} (h:W.ownsRow base e s v n xs):∀g,v.ownBlock=some g→base≤g∧g < W.heap.size∧∃o:Obj,W.heap[g]?=some o∧o.isCells=true:=by
 intro g hg
 rcases h.2 with ⟨rfl,_⟩|⟨g',cap,cur,rfl,hb,hc,_⟩
 ·cases hg
 ·obtain rfl:g'=g:=Option.some.inj hg
  refine ⟨hb,?_,_,hc,rfl⟩
  rcases Nat.lt_or_ge g' W.heap.size with hlt|hge
  ·exact hlt
  ·rw [Array.getElem?_eq_none hge] at hc;cases hc
theorem owns_slice {W:World} {base e s n:Nat} {v:Value} {xs:List Value} (h:W.ownsRow base e s v n xs):∃A c,v=.slice A n c:=by
 rcases h.2 with ⟨rfl,rfl⟩|⟨g,cap,cur,rfl,_⟩
 ·exact ⟨none,0,rfl⟩
 ·exact ⟨_,_,rfl⟩
theorem row_apart {W:World} {base e s n g t:Nat} {v:Value} {xs cs:List Value} (ho:W.ownsRow base e s v n xs) (hr:RowL W g t cs) (h:t≠e):some g≠v.ownBlock:=fun eq=>by
 rcases ho.2 with ⟨rfl,_⟩|⟨g',cap,cur,rfl,_,hc,_⟩
 ·cases eq
 ·have:g=g':=Option.some.inj eq
  subst this
  rw [show W.heap[g]?=_ from hr] at hc
  have:=Option.some.inj hc
  injection this with _ h' _
  exact h h'
def Marks (base:Nat) (Ds:List Nat) (W:World):Prop:=Ds.Pairwise (fun a b=>b < a)∧∀D,D∈Ds→base≤D∧W.heap[D]?=some (.deferred (some []))
theorem Marks.none_ (base:Nat) (W:World):Marks base [] W:=⟨List.Pairwise.nil,fun _ h=>by cases h⟩
theorem Marks.lt {base:Nat} {Ds:List Nat} {W:World} (h:Marks base Ds W):∀D,D∈Ds→D < W.heap.size:=fun D hD=>(Array.getElem?_eq_some_iff.1 (h.2 D hD).2).1
theorem Marks.more {base D:Nat} {Ds:List Nat} {W:World} (h:Marks base Ds W) (hD:∀D',D'∈Ds→D' < D) (hb:base≤D) (ho:W.heap[D]?=some (.deferred (some []))):Marks base (D::Ds) W :=
 ⟨List.Pairwise.cons (fun b hb=>hD b hb) h.1,fun D' h'=>by
  rcases List.mem_cons.1 h' with rfl|h'
  ·exact ⟨hb,ho⟩
  ·exact h.2 D' h'⟩
theorem Marks.on {base:Nat} {Ds:List Nat} {W W':World} (h:Marks base Ds W) (hb:Below W.heap.size W W'):Marks base Ds W':=⟨h.1,fun D hD=>⟨(h.2 D hD).1,(hb.block D (h.lt D hD)).trans (h.2 D hD).2⟩⟩
theorem Marks.under {base B:Nat} {Ds:List Nat} {W W':World} (h:Marks base Ds W) (hB:∀D,D∈Ds→D < B) (hb:Below B W W'):Marks base Ds W':=⟨h.1,fun D hD=>⟨(h.2 D hD).1,(hb.block D (hB D hD)).trans (h.2 D hD).2⟩⟩
theorem Marks.grown {base:Nat} {Ds:List Nat} {W W':World} {row:Option Nat} (h:Marks base Ds W) (hg:W.grownBy W' row) (hr:∀r,row=some r→r∉Ds):Marks base Ds W':=⟨h.1,fun D hD=>⟨(h.2 D hD).1,(hg.block D (h.lt D hD) (fun e=>hr D e.symm hD)).trans (h.2 D hD).2⟩⟩
theorem Marks.notin {base g:Nat} {Ds:List Nat} {W:World} {o:Obj} (h:Marks base Ds W) (ho:W.heap[g]?=some o) (hn:∀x,o≠.deferred x):g∉Ds:=fun hm=>by
 have:=(h.2 g hm).2
 rw [ho] at this
 exact hn _ (Option.some.inj this)
theorem Marks.row {base g t:Nat} {cs:List Value} {Ds:List Nat} {W:World} (h:Marks base Ds W) (hr:RowL W g t cs):g∉Ds:=h.notin (o:=.cells cs.toArray t (0,0)) hr (fun x e=>by cases e)
def Unmarked (Ds:List Nat) (W W':World):Prop:=W'.os=W.os∧W'.tape=W.tape∧W'.output=W.output∧W'.heap.size=W.heap.size∧∀j,j∉Ds→W'.heap[j]?=W.heap[j]?
theorem Unmarked.row {Ds:List Nat} {W W':World} {g t:Nat} {cs:List Value} (h:Unmarked Ds W W') (hr:RowL W g t cs) (hg:g∉Ds):RowL W' g t cs:=(h.2.2.2.2 g hg).trans hr
theorem Unmarked.under {base B:Nat} {Ds:List Nat} {W W' W0:World} (h:Unmarked Ds W W') (hm:Marks base Ds W) (hB:B≤base) (hb:Below B W0 W):Below B W0 W' :=
 ⟨h.1.trans hb.os,h.2.1.trans hb.tape,h.2.2.1.trans hb.output,by rw [h.2.2.2.1];exact hb.size,fun k hk=>(h.2.2.2.2 k (fun hD=>by have:=(hm.2 k hD).1;omega)).trans (hb.block k hk)⟩
theorem Unmarked.below {base:Nat} {Ds:List Nat} {W W' W0:World} (h:Unmarked Ds W W') (hm:Marks base Ds W) (hb:Below base W0 W):Below base W0 W' :=
 ⟨h.1.trans hb.os,h.2.1.trans hb.tape,h.2.2.1.trans hb.output,by rw [h.2.2.2.1];exact hb.size,fun k hk=>(h.2.2.2.2 k (fun hD=>by have:=(hm.2 k hD).1;omega)).trans (hb.block k hk)⟩
end Go.Proofs.YthdoimgbbabcaaaGreat

namespace Go.Proofs.YthdoimgbbabcaaaGreat
open Go.RowKit Go.Shelf Plain

def nodC (x:NodV) (d e:Value):List Value:=[.int .i64 x.k,.int .i64 x.p,.int .i64 x.n,.int .i64 x.g,d,e,.int .i64 x.att.h,.int .i64 x.att.o,.string ⟨x.att.r.toArray⟩,.int .i64 x.att.l,.int .i64 x.att.i,.int .i64 x.att.g,.int .i64 x.att.s]
def NodR (w:World) (D:Nat→Prop) (cs:List Value) (x:NodV):Prop:=∃A n c C m d,cs=nodC x (.slice A n c) (.slice C m d)∧n≤c∧RdE Enc.byte w D A n x.data∧m≤d∧RdE entEn w D C m x.ents
theorem NodR.mono {w w':World} {D D':Nat→Prop} {cs:List Value} {x:NodV} (h:NodR w D cs x) (hk:Kept D w w') (hD:∀b,D b→D' b):NodR w' D' cs x:=by
 obtain ⟨A,n,c,C,m,d,h1,h2,h3,h4,h5⟩:=h
 exact ⟨A,n,c,C,m,d,h1,h2,h3.mono hk hD,h4,h5.mono hk hD⟩
def nodEn : Enc NodV where
 k:=13
 R:=NodR
 len:=fun ⟨_,_,_,_,_,_,h,_⟩=>by rw [h];rfl
 one:=fun ⟨_,_,_,_,_,_,h,_⟩ v hv=>by
  rw [h] at hv
  simp only [nodC,List.mem_cons,List.not_mem_nil,or_false] at hv
  rcases hv with rfl|rfl|rfl|rfl|rfl|rfl|rfl|rfl|rfl|rfl|rfl|rfl|rfl <;> rfl
 mono:=NodR.mono
theorem RdE.get_nod {w:World} {D:Nat→Prop} {A:Option Addr} {n:Nat} {l:List NodV} (h:RdE nodEn w D A n l) {i:Nat} {x:NodV} (hx:l[i]?=some x) :
  ∃b o cs,A=some ⟨b,o,none⟩∧D b∧NodR w D cs x∧∀j v,cs[j]?=some v→w.cell? ⟨b,o+i*13+j,none⟩=some v:=by
 have hi:=(List.getElem?_eq_some_iff.1 hx).1
 obtain ⟨b,o,e,hb,hc⟩:=h.2 (by have:=h.1;omega)
 obtain ⟨cs,hcs,hcell⟩:=hc i x hx
 refine ⟨b,o,cs,e,hb,hcs,fun j v hv=>?_⟩
 have:=hcell j v hv
 rwa [show o+(i*nodEn.k+j)=o+i*13+j from by show o+(i*13+j)=o+i*13+j;omega] at this
set_option maxRecDepth 100000 in
theorem nod_agg:∀w,(isAgg 38).run Tryz.prog w=.ok true w:=fun w=>by kernel_rfl
set_option maxRecDepth 100000 in
theorem nod_size:∀w,(Go.sizeOf 38).run Tryz.prog w=.ok 13 w:=fun w=>by kernel_rfl
theorem nodC_one (x:NodV) (A C:Option Addr) (n c m d:Nat):∀v∈nodC x (.slice A n c) (.slice C m d),v.oneCell'=true:=by simp [nodC,Value.oneCell']
def NodRet (w:World) (B:Nat) (x:NodV) (e:Ending) (w':World):Prop:=∃A n c C m d,e=.returned (.agg (nodC x (.slice A n c) (.slice C m d)).toArray)∧n≤c∧RdE Enc.byte w' (Under B) A n x.data∧m≤d∧RdE entEn w' (Under B) C m x.ents∧Below w.heap.size w w'
theorem RdE.under {α:Type} {E:Enc α} {w w':World} {B:Nat} {A:Option Addr} {n:Nat} {l:List α} (h:RdE E w (Under B) A n l) (hb:Below w.heap.size w w') (hB:B≤w.heap.size):RdE E w' (Under B) A n l :=
 h.mono (Kept.of_below hb fun _ h=>Nat.lt_of_lt_of_le h hB) fun _ h=>h
theorem NodRet.of {w w':World} {B:Nat} {x:NodV} {A C:Option Addr} {n c m d:Nat} (hn:n≤c) (h1:RdE Enc.byte w (Under B) A n x.data) (hm:m≤d) (h2:RdE entEn w (Under B) C m x.ents) (hb:Below w.heap.size w w') (hB:B≤w.heap.size):NodRet w B x (.returned (.agg (nodC x (.slice A n c) (.slice C m d)).toArray)) w' :=
 ⟨A,n,c,C,m,d,rfl,hn,h1.under hb hB,hm,h2.under hb hB,hb⟩
def WkN (w:World) (B g:Nat) (ns:List NodV):Prop:=∃A n c,w.cell? ⟨g,0,none⟩=some (.slice A n c)∧RdE nodEn w (Under B) A n ns
theorem WkN.on {w w':World} {B g:Nat} {ns:List NodV} (h:WkN w B g ns) (hb:Below w.heap.size w w') (hB:B≤w.heap.size) (hg:g < w.heap.size):WkN w' B g ns:=by
 obtain ⟨A,n,c,h1,h2⟩:=h
 exact ⟨A,n,c,(hb.cell (p:=⟨g,0,none⟩) hg).trans h1,h2.under hb hB⟩
end Go.Proofs.YthdoimgbbabcaaaGreat

namespace Go.Proofs.YthdoimgbbabcaaaGreat
open Go.RowKit Plain

def AheadW (p:Nat) (s:StW):Prop:=∀q∈s.2,∃j y,j < p∧s.1[j]?=some y∧y.ino=q.1
def AddsW (p:Nat) (s r:StW):Prop:=s.1 <+: r.1∧(∀q∈s.2,q∈r.2)∧∀q∈r.2,q∈s.2∨∃j y,p≤j∧r.1[j]?=some y∧y.ino=q.1
theorem AddsW.refl (p:Nat) (s:StW):AddsW p s s:=⟨List.prefix_refl _,fun _ h=>h,fun _ h=>.inl h⟩
theorem pre_get {l r:List WayV} {j:Nat} {y:WayV} (h:l <+: r) (hy:l[j]?=some y):r[j]?=some y:=by
 obtain ⟨t,rfl⟩:=h
 rw [List.getElem?_append_left (List.getElem?_eq_some_iff.1 hy).1]
 exact hy
theorem AddsW.trans {p p':Nat} {s r u:StW} (h:AddsW p s r) (k:AddsW p' r u) (hp:p≤p'):AddsW p s u:=by
 refine ⟨h.1.trans k.1,fun q hq=>k.2.1 q (h.2.1 q hq),fun q hq=>?_⟩
 rcases k.2.2 q hq with h1|⟨j,y,h1,h2,h3⟩
 ·rcases h.2.2 q h1 with h1|⟨j,y,h1,h2,h3⟩
  ·exact .inl h1
  ·exact .inr ⟨j,y,h1,pre_get k.1 h2,h3⟩
 ·exact .inr ⟨j,y,by omega,h2,h3⟩
theorem AheadW.mono {p p':Nat} {s:StW} (h:AheadW p s) (hp:p≤p'):AheadW p' s:=fun q hq=>by
 obtain ⟨j,y,h1,h2,h3⟩:=h q hq
 exact ⟨j,y,by omega,h2,h3⟩
end Go.Proofs.YthdoimgbbabcaaaGreat

namespace Go.Proofs.YthdoimgbbabcaaaGreat
open Go.RowKit Plain

theorem nodAt_get {ns:List NodV} {j:Nat} {n:NodV} (h:ns[j]?=some n):nodAt ns ((j:Int)+1)=n:=by
 have hj:=(List.getElem?_eq_some_iff.1 h).1
 unfold nodAt
 rw [if_pos (by omega),show ((j:Int)+1 - 1).toNat=j from by omega,h]
 rfl
theorem nodAt_out {ns:List NodV} {i:Int} (h:¬(1≤i∧i≤(ns.length:Int))):nodAt ns i=nod0:=by unfold nodAt;rw [if_neg h]
theorem nodAt_in {ns:List NodV} {i:Int} (h:1≤i∧i≤(ns.length:Int)):∃(j:Nat) (n:NodV),i=(j:Int)+1∧ns[j]?=some n∧nodAt ns i=n:=by
 obtain ⟨j,hj⟩:=Int.eq_ofNat_of_zero_le (show 0≤i - 1 by omega)
 have hl:j < ns.length:=by omega
 refine ⟨j,ns[j],by omega,List.getElem?_eq_getElem hl,?_⟩
 rw [show i=(j:Int)+1 from by omega]
 exact nodAt_get (List.getElem?_eq_getElem hl)
end Go.Proofs.YthdoimgbbabcaaaGreat

namespace Go.Proofs.YthdoimgbbabcaaaGreat
open Go.RowKit Go.Shelf Plain

set_option maxRecDepth 100000 in
set_option maxHeartbeats 1600000 in
theorem Of_any {A:Option Addr} {B:Nat} {n c:Nat} {ns:List NodV} {i:Int} (w:World) (h:RdE nodEn w (Under B) A n ns) (hB:B≤w.heap.size) (hm:ns.length≤100000):Calls Tryz.prog 66 #[.agg #[.slice A n c],.int .i64 i] w (NodRet w B (nodAt ns i)):=by
 have hl:=h.1
 obtain ⟨rz0,rz,hbz,-⟩:=rows2 w [.slice A n c] (nodC nod0 (.slice none 0 0) (.slice none 0 0)) 26 38
 have HZ:=hide rz
 have HB:=hide hbz
 have qb:((w.alloc (.cells [Value.slice A n c].toArray 26)).alloc (.cells (nodC nod0 (.slice none 0 0) (.slice none 0 0)).toArray 38)).cell? ⟨w.heap.size,0,none⟩=some (.slice A n c):=rz0.cell 0
 have hN:=h
 by_cases h1:i < 1
 ·have e:nodAt ns i=nod0:=nodAt_out (by omega)
  have d1:decide (i < 1)=true:=by simpa using h1
  rw [e]
  clear h hN rz rz0 hbz e
  go_enter Tryz.func66,Tryz.ntmps66
  go_wp2_with (refine wpList_storeW rfl 38 (.tmp 4) (.tmp 14) rfl 13 nod_size (w.heap.size+1) 38 rfl (nodC nod0 (.slice none 0 0) (.slice none 0 0)) (nodC nod0 (.slice none 0 0) (.slice none 0 0)) rfl HZ.out rfl rfl (nodC_one nod0 none none 0 0 0 0) ?_;intro w9 hr9 hg9 hs9;have HR9:=hide hr9;have HB9:=hide (HB.out.grown hg9 HB.out.size (pu4 (by omega)));clear hr9 hg9 hs9)
  exact bodyPost_ret (res_cell Tryz.results66 rfl nod_agg nod_size HR9.out rfl) rfl (NodRet.of (Nat.le_refl _) (RdE.none_ _ _ _ _) (Nat.le_refl _) (RdE.none_ _ _ _ _) HB9.out hB)
 ·have d1:decide (i < 1)=false:=by simpa using h1
  by_cases h2:(n:Int) < i
  ·have e:nodAt ns i=nod0:=nodAt_out (by omega)
   have d2:decide ((n:Int) < i)=true:=by simpa using h2
   rw [e]
   clear h hN rz rz0 hbz e
   go_enter Tryz.func66,Tryz.ntmps66
   go_wp2_with (refine wpList_storeW rfl 38 (.tmp 4) (.tmp 14) rfl 13 nod_size (w.heap.size+1) 38 rfl (nodC nod0 (.slice none 0 0) (.slice none 0 0)) (nodC nod0 (.slice none 0 0) (.slice none 0 0)) rfl HZ.out rfl rfl (nodC_one nod0 none none 0 0 0 0) ?_;intro w9 hr9 hg9 hs9;have HR9:=hide hr9;have HB9:=hide (HB.out.grown hg9 HB.out.size (pu4 (by omega)));clear hr9 hg9 hs9)
   exact bodyPost_ret (res_cell Tryz.results66 rfl nod_agg nod_size HR9.out rfl) rfl (NodRet.of (Nat.le_refl _) (RdE.none_ _ _ _ _) (Nat.le_refl _) (RdE.none_ _ _ _ _) HB9.out hB)
  ·have d2:decide ((n:Int) < i)=false:=by simpa using h2
   obtain ⟨j,x,rfl,hx,e⟩:=nodAt_in (ns:=ns) (i:=i) (by omega)
   rw [e]
   obtain ⟨b,o,cs,rfl,hbB,hNd,hcell⟩:=hN.get_nod hx
   have hjn:j < n:=by omega
   have hcell1:=fun j' v (hv:cs[j']?=some v)=>(hbz.cell (p:=⟨b,o+j*13+j',none⟩) (Nat.lt_of_lt_of_le hbB hB)).trans (hcell j' v hv)
   obtain ⟨A1,n1,c1,C1,m1,d1',rfl,e2,e3,e4,e5⟩:=hNd
   have HC:=hide hcell1
   have E3:=hide e3
   have E5:=hide e5
   have hw1:IntKind.i64.wrap ((j:Int)+1 - 1)=(j:Int):=by rw [show (j:Int)+1 - 1=j from by omega];exact IntWalk.i64_in _ (by omega)
   have hw2:IntKind.i64.wrap (j:Int)=(j:Int):=IntWalk.i64_in _ (by omega)
   clear h hN rz rz0 hbz e hcell hcell1 e3 e5 hx h1 h2
   go_enter Tryz.func66,Tryz.ntmps66
   go_wp2_with (first|(refine wpList_loadX rfl 38 (.tmp 19) rfl 13 nod_agg nod_size b (o+j*13) rfl (nodC x (.slice A1 n1 c1) (.slice C1 m1 d1')) HC.out rfl ?_)|(refine wpList_storeW rfl 38 (.tmp 4) (.tmp 20) rfl 13 nod_size (w.heap.size+1) 38 rfl (nodC nod0 (.slice none 0 0) (.slice none 0 0)) (nodC x (.slice A1 n1 c1) (.slice C1 m1 d1')) rfl HZ.out rfl rfl (nodC_one x A1 C1 n1 c1 m1 d1') ?_;intro w9 hr9 hg9 hs9;have HR9:=hide hr9;have HB9:=hide (HB.out.grown hg9 HB.out.size (pu4 (by omega)));clear hr9 hg9 hs9))
   exact bodyPost_ret (res_cell Tryz.results66 rfl nod_agg nod_size HR9.out rfl) rfl (NodRet.of e2 E3.out e4 E5.out HB9.out hB)
end Go.Proofs.YthdoimgbbabcaaaGreat

namespace Go.Proofs.YthdoimgbbabcaaaGreat
open Go.RowKit Go.Shelf Plain Go.Maps

def i64 (x:Int):Prop := -9223372036854775808≤x∧x≤9223372036854775807
theorem i64_wf {n:Int} (h:i64 n):(Lit.int .i64 n).wf=true:=by
 unfold i64 at h
 simp [Lit.wf,IntKind.min,IntKind.max,IntKind.signed,IntKind.bits]
 omega
theorem intKey:Keyed Tryz.prog 3:=int_keyed Tryz.underlying3
def SetW (w:World) (b c:Nat) (f:Int→Bool):Prop:=∃D:DataW Unit,w.ownsMap Tryz.prog 3 unitElem b c D∧∀n,i64 n→Maps.has D (.int .i64 n)=f n
section
variable {w w' : World} {b c : Nat} {f : Int → Bool}
theorem SetW.lt (h:SetW w b c f):b < w.heap.size:=by obtain ⟨D,h1,h2⟩:=h;exact h1.lt
theorem SetW.kept {row:Option Nat} (h:SetW w b c f) (hg:w.grownBy w' row) (hne:some b≠row):SetW w' b c f:=by obtain ⟨D,h1,h2⟩:=h;exact ⟨D,h1.kept hg hne,h2⟩
theorem SetW.on (h:SetW w b c f) (hb:Below w.heap.size w w'):SetW w' b c f:=h.kept (grown_below hb) (by simp)
theorem SetW.eq {g:Int→Bool} (h:SetW w b c f) (e:f=g):SetW w b c g:=e ▸ h
theorem SetW.at_ (h:SetW w b c f) (e:w'.heap[b]?=w.heap[b]?):SetW w' b c f:=by
 obtain ⟨D,⟨es,clock,h1,h2⟩,h3⟩:=h
 exact ⟨D,⟨es,clock,e.trans h1,h2⟩,h3⟩
theorem SetW.put (h:SetW w b c f) {n:Int} (hn:i64 n) (hc:c < maxLen):∃w',(Instr.mapUpdate 146 (.map (some b)) (.int .i64 n) (.agg #[])).run Tryz.prog w=.ok () w'∧SetW w' b (c+1) (fun x=>f x||x==n)∧w.grownBy w' (some b):=by
 obtain ⟨D,h1,h2⟩:=h
 obtain ⟨w',hrun,h3,h4⟩:=h1.update (t:=146) (e:=181) intKey Tryz.underlying146 hc (keyOf_int_mk Tryz.underlying3 (i64_wf hn)) unitElem_mk
 have hm:Maps.IsMap D:=h1.isMap
 have hk:WideAt.IsKeyLit (.int .i64 n):=intKey.key (keyOf_int_mk Tryz.underlying3 (i64_wf hn))
 refine ⟨w',hrun,⟨_,h3,fun x hx=>?_⟩,h4⟩
 by_cases e:x=n
 ·subst e
  rw [has_put_same hm hk]
  simp
 ·have hne:Lit.int .i64 x≠Lit.int .i64 n:=by simpa using e
  rw [has_put_other hne,h2 x hx]
  simp [e]
end
end Go.Proofs.YthdoimgbbabcaaaGreat

namespace Go.Proofs.YthdoimgbbabcaaaGreat
open Go

def planOk (md : Region.Mode) (ops : Array Oper) : Array Bool → List (Nat × Bool) → Bool
 | listed,[]=>(Region.ready md ops listed).isEmpty
 | listed,(i,p)::r=>(if p then Region.free md ops listed i&&(Region.ready md ops listed).contains i else Region.ready md ops listed==[i])&&planOk md ops (listed.setIfInBounds i true) r
def planOps (ops:Array Oper) (ps:List (Nat×Bool)):List (Oper×Bool):=ps.filterMap fun x=>(ops[x.1]?).map fun o=>(o,x.2)

section
variable {P : Program} {ops : Array Oper} {Q : Exit → Act → World → Prop} {S : World → Prop}
def wpPlan (P : Program) (ops : Array Oper) (Q : Exit → Act → World → Prop) (S : World → Prop) : List (Oper × Bool) → Act → World → Prop
 | [],a,w=>Q .normal a w
 | (o,true)::r,a,w=>∃v,YieldsIf P ops S o v a∧wpPlan P ops Q S r (a.put o.dst v) w
 | (o,false)::r,a,w=>if Region.wanted o (yielded ops a.tmps)=true then Oper.wp P o a w (fun a' w'=>S w'∧wpPlan P ops Q S r a' w') Q else wpPlan P ops Q S r (a.put o.dst undef) w
theorem wpPlan_end {a:Act} {w:World} (h:Q .normal a w):wpPlan P ops Q S [] a w:=h
theorem wpPlan_take {o : Oper} {r : List (Oper × Bool)} {a : Act} {w : World} {v : Value} (hw : Region.wanted o (yielded ops a.tmps) = true) (hv : ∀ w, S w → (execOp a.eval o).run P w = .ok (.value v) w)
  (h:wpPlan P ops Q S r (a.put o.dst v) w):wpPlan P ops Q S ((o,true)::r) a w:=⟨v,.inl ⟨hw,hv⟩,h⟩
theorem wpPlan_call {o : Oper} {r : List (Oper × Bool)} {a : Act} {w : World} (hw : Region.wanted o (yielded ops a.tmps) = true)
  (h:∀K':Act→World→Prop,Shut (∀a' w',S w'→(S w'→wpPlan P ops Q S r a' w')→K' a' w')→Oper.wp P o a w K' Q):wpPlan P ops Q S ((o,false)::r) a w:=by
 unfold wpPlan
 rw [if_pos hw]
 exact h _ (fun a' w' hS hr=>⟨hS,hr hS⟩)

theorem ready_some {md:Region.Mode} {listed:Array Bool} {i:Nat} (h:i∈Region.ready md ops listed):∃o,ops[i]?=some o:=by
 unfold Region.ready at h
 have:=List.mem_range.1 (List.mem_filter.1 h).1
 exact ⟨ops[i],Array.getElem?_eq_getElem this⟩
theorem wpAnyH_plan {md:Region.Mode} (hs:Region.noSelect ops=true) (hQ:∀c a d v w,Q (.panic c) (Act.put a d v) w→Q (.panic c) a w) :
  ∀(ps:List (Nat×Bool)) (fuel:Nat) (listed:Array Bool) (a:Act) (w:World),planOk md ops listed ps=true→ps.length≤fuel→S w→wpPlan P ops Q S (planOps ops ps) a w→wpAnyH P md ops Q S fuel listed a w:=by
 intro ps
 induction ps with
 | nil =>
  intro fuel listed a w hok _ _ h
  exact wpAnyH_done (List.isEmpty_iff.1 hok) h fuel
 | cons x r ih =>
  obtain ⟨i,p⟩:=x
  intro fuel listed a w hok hl hS h
  obtain ⟨fuel,rfl⟩:∃k,fuel=k+1:=⟨fuel - 1,by simp at hl;omega⟩
  have hl':r.length≤fuel:=by simpa using hl
  unfold planOk at hok
  rw [Bool.and_eq_true] at hok
  obtain ⟨h1,h2⟩:=hok
  cases p with
  | true =>
   simp only [if_true,Bool.and_eq_true] at h1
   obtain ⟨o,ho⟩:=ready_some (md:=md) (listed:=listed) (by simpa using h1.2)
   have e:planOps ops ((i,true)::r)=(o,true)::planOps ops r:=by simp [planOps,ho]
   rw [e] at h
   obtain ⟨v,hy,hr⟩:=h
   exact wpAnyH_take ho hs h1.1 h1.2 (fun c a w=>hQ c a _ _ w) hy hS (ih fuel _ _ w h2 hl' hS hr)
  | false =>
   simp only [Bool.false_eq_true,if_false,beq_iff_eq] at h1
   obtain ⟨o,ho⟩:=ready_some (md:=md) (listed:=listed) (i:=i) (by rw [h1];simp)
   have e:planOps ops ((i,false)::r)=(o,false)::planOps ops r:=by simp [planOps,ho]
   rw [e] at h
   refine wpAnyH_all h1 (by simp) (fun j hj=>?_)
   obtain rfl:j=i:=by simpa using hj
   unfold wpOp
   simp only [ho]
   unfold wpPlan at h
   split
   ·rename_i hw
    rw [if_pos hw] at h
    exact .inl (Oper.wp_mono (fun a' w' hk=>⟨hk.1,ih fuel _ _ _ h2 hl' hk.1 hk.2⟩) h)
   ·rename_i hw
    rw [if_neg hw] at h
    exact ⟨hS,ih fuel _ _ w h2 hl' hS h⟩
theorem panic_put (hQ:∀c a k v w,Q (.panic c) (Act.put a (some k) v) w→Q (.panic c) a w):∀c a d v w,Q (.panic c) (Act.put a d v) w→Q (.panic c) a w:=by
 intro c a d v w h
 cases d with
 | none=>exact h
 | some k=>exact hQ c a k v w h
theorem wp_region_plan {id : Nat} {a : Act} {w : World} (S : World → Prop) (ps : List (Nat × Bool)) {l : List (Oper × Bool)} (hm : P.follows .mixedOrders = true) (hok : planOk .any ops (Array.replicate ops.size false) ps = true) (hn : Region.noSelect ops = true) (hlen : decide (ps.length ≤ ops.size) = true)
  (hl:planOps ops ps=l) (hQ:∀c a k v w,Q (.panic c) (Act.put a (some k) v) w→Q (.panic c) a w) (hS:S w.drew) (h:S w.drew→wpPlan P ops Q S l a w.drew):(Code.region id ops true).wp P Q a w:=by
 subst hl
 exact wp_region_held hm (wpAnyH_plan hn (panic_put hQ) ps _ _ _ _ hok (of_decide_eq_true hlen) hS (h hS))
end
end Go.Proofs.YthdoimgbbabcaaaGreat

