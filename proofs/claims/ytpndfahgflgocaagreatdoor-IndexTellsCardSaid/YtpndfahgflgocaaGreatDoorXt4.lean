import Derived.Test.YtpndfahgflgocaaGreatDoorXt3
import Derived.RangeFuncNested
import Derived.RangeFuncBound
import Derived.RangeFuncCalls
import Derived.RangeFuncLeaves
import Derived.RangeFuncFrom
import Derived.RangeFuncWrites
import Derived.Shelf.Abstract
import Derived.Shelf.RegionOpen
import Derived.WalkKit
import Derived.OwnWalkIn
import Derived.TacticsInMore
import Derived.LoopNIn
import Derived.LoopIn
import Derived.Test.YtpndfahgflgocaaGreatDoorRows

namespace Go.Proofs.YtpndfahgflgocaaGreatDoor
open Go.RowKit Go.Shelf Plain
attribute [local go_sem] Oper.semAt_some

theorem grown_below {W W':World} (h:Below W.heap.size W W'):W.grownBy W' none:=⟨h.os,h.tape,h.output,h.size,fun k hk _=>h.block k hk⟩
theorem kBelow {A B:World} (h:Below A.heap.size A B):KeepsOthers A B:=⟨h.size,fun i _ hi _=>(h.block i (Array.getElem?_eq_some_iff.1 hi).1).trans hi⟩
theorem RowL.turned {W W':World} {g t:Nat} {cs:List Value} {row:Option Nat} (h:RowL W g t cs) (hg:W.grownBy W' row) (hr:∀r,row=some r→∃o:Obj,W.heap[r]?=some o∧o.isCells=false):RowL W' g t cs:=by
 refine h.grown hg fun e=>?_
 obtain ⟨o,ho,hc⟩:=hr g e.symm
 rw [show W.heap[g]?=_ from h] at ho
 cases Option.some.inj ho
 cases hc

section
variable {F : Fence} {n : Nat} {P : Program} {w : World} {o : Oper} {a : Act} {K : Act → World → Prop} {Q : Exit → Act → World → Prop}
theorem wpIn_storeW (T : Nat) (x y : Operand) (ho : o.op = .store T x y) (k : Nat) (hsz : ∀ w, (Go.sizeOf T).run P w = .ok k w) (g t : Nat) (hx : a.eval x = .pointer (some ⟨g, 0, none⟩)) (cur cs : List Value) (hy : a.eval y = .agg cs.toArray) (h : RowL w g t cur) (hk : cs.length = k) (hcur : cur.length = k) (h1 : ∀ v ∈ cs, v.oneCell' = true)
  (hK:∀w',RowL w' g t cs→w.grownBy w' (some g)→w'.heap.size=w.heap.size→K (a.put o.dst undef) w'):o.wpIn F n P a w K Q:=by
 have hr:=run_storeAt_row (P:=P) hsz (off:=0) h hk (by omega) h1
 have e:splice cur 0 cs=cs:=by unfold splice;rw [List.take_zero,List.nil_append,List.drop_of_length_le (by omega),List.append_nil]
 rw [e] at hr
 unfold Oper.wpIn
 refine ⟨by simp [Oper.about,ho],?_⟩
 rw [Oper.semAt_plain F _ _ (by rw [ho];intro c hc';cases hc')]
 simp only [execOp,ho,Sem.run_bind,Sem.run_pure,Result.andThen_ok,hx,hy,hr]
 exact hK _ (h.setRow_ _) (grownBy_setRow _ _ _) (by simp)
theorem wpIn_loadX (T : Nat) (x : Operand) (ho : o.op = .load T x) (k : Nat) (hag : ∀ w, (isAgg T).run P w = .ok true w) (hsz : ∀ w, (Go.sizeOf T).run P w = .ok k w) (g off : Nat) (hx : a.eval x = .pointer (some ⟨g, off, none⟩)) (cs : List Value) (h : ∀ j v, cs[j]? = some v → w.cell? ⟨g, off + j, none⟩ = some v) (hk : cs.length = k)
  (hK:K (a.put o.dst (.agg cs.toArray)) w):o.wpIn F n P a w K Q:=by
 have hr:=run_loadAt_cells (P:=P) hag hsz h hk
 unfold Oper.wpIn
 refine ⟨by simp [Oper.about,ho],?_⟩
 rw [Oper.semAt_plain F _ _ (by rw [ho];intro c hc';cases hc')]
 simp only [execOp,ho,Sem.run_bind,Sem.run_pure,Result.andThen_ok,hx,hr]
 exact hK
end
theorem ownsRow_below {w w':World} {base e s n:Nat} {v:Value} {xs:List Value} (h:w.ownsRow base e s v n xs) (hb:Below w.heap.size w w'):w'.ownsRow base e s v n xs:=by
 refine ⟨h.1,?_⟩
 rcases h.2 with h0|⟨g,cap,cur,h1,h2,h3,h4⟩
 ·exact .inl h0
 ·refine .inr ⟨g,cap,cur,h1,h2,?_,h4⟩
  rw [hb.block g ?_]
  ·exact h3
  ·rcases Nat.lt_or_ge g w.heap.size with hlt|hge
   ·exact hlt
   ·rw [Array.getElem?_eq_none hge] at h3;cases h3
theorem own_block {W:World} {base e s n:Nat} {v:Value} {xs:List Value} (h:W.ownsRow base e s v n xs):∀g,v.ownBlock=some g→base≤g∧g < W.heap.size∧∃o:Obj,W.heap[g]?=some o∧o.isCells=true:=by
 intro g hg
 rcases h.2 with ⟨rfl,_⟩|⟨g',cap,cur,rfl,hb,hc,_⟩
 ·cases hg
 ·obtain rfl:g'=g:=Option.some.inj hg
  refine ⟨hb,?_,_,hc,rfl⟩
  rcases Nat.lt_or_ge g' W.heap.size with hlt|hge
  ·exact hlt
  ·rw [Array.getElem?_eq_none hge] at hc;cases hc
theorem owns_apart {W:World} {b1 b2 e1 e2 s1 s2 n1 n2:Nat} {v1 v2:Value} {x1 x2:List Value} (h1:W.ownsRow b1 e1 s1 v1 n1 x1) (h2:W.ownsRow b2 e2 s2 v2 n2 x2) (he:e1≠e2):v2.ownBlock=none∨v2.ownBlock≠v1.ownBlock:=by
 rcases h2.2 with ⟨rfl,_⟩|⟨g2,_,_,rfl,_,hc2,_⟩
 ·exact .inl rfl
 ·rcases h1.2 with ⟨rfl,_⟩|⟨g1,_,_,rfl,_,hc1,_⟩
  ·exact .inr (fun e=>by cases e)
  ·refine .inr fun e=>?_
   have e':g2=g1:=Option.some.inj e
   subst e'
   rw [hc1] at hc2
   have:=Option.some.inj hc2
   injection this with _ h _
   exact he h
theorem owns_slice {W:World} {base e s n:Nat} {v:Value} {xs:List Value} (h:W.ownsRow base e s v n xs):∃A c,v=.slice A n c:=by
 rcases h.2 with ⟨rfl,rfl⟩|⟨g,cap,cur,rfl,_⟩
 ·exact ⟨none,0,rfl⟩
 ·exact ⟨_,_,rfl⟩
theorem row_apart {W:World} {base e s n g t:Nat} {v:Value} {xs cs:List Value} (ho:W.ownsRow base e s v n xs) (hr:RowL W g t cs) (h:t≠e):some g≠v.ownBlock:=fun eq=>by
 rcases ho.2 with ⟨rfl,_⟩|⟨g',cap,cur,rfl,_,hc,_⟩
 ·cases eq
 ·have:g=g':=Option.some.inj eq
  subst this
  rw [show W.heap[g]?=_ from hr] at hc
  have:=Option.some.inj hc
  injection this with _ h' _
  exact h h'
def markD (D:Nat):Deferred:={target:=.collected D,args:=#[]}
def Marks (base:Nat) (Ds:List Nat) (W:World):Prop:=Ds.Pairwise (fun a b=>b < a)∧∀D,D∈Ds→base≤D∧W.heap[D]?=some (.deferred (some []))
theorem Marks.none_ (base:Nat) (W:World):Marks base [] W:=⟨List.Pairwise.nil,fun _ h=>by cases h⟩
theorem Marks.lt {base:Nat} {Ds:List Nat} {W:World} (h:Marks base Ds W):∀D,D∈Ds→D < W.heap.size:=fun D hD=>(Array.getElem?_eq_some_iff.1 (h.2 D hD).2).1
theorem Marks.more {base D:Nat} {Ds:List Nat} {W:World} (h:Marks base Ds W) (hD:∀D',D'∈Ds→D' < D) (hb:base≤D) (ho:W.heap[D]?=some (.deferred (some []))):Marks base (D::Ds) W :=
 ⟨List.Pairwise.cons (fun b hb=>hD b hb) h.1,fun D' h'=>by
  rcases List.mem_cons.1 h' with rfl|h'
  ·exact ⟨hb,ho⟩
  ·exact h.2 D' h'⟩
theorem Marks.on {base:Nat} {Ds:List Nat} {W W':World} (h:Marks base Ds W) (hb:Below W.heap.size W W'):Marks base Ds W':=⟨h.1,fun D hD=>⟨(h.2 D hD).1,(hb.block D (h.lt D hD)).trans (h.2 D hD).2⟩⟩
theorem Marks.under {base B:Nat} {Ds:List Nat} {W W':World} (h:Marks base Ds W) (hB:∀D,D∈Ds→D < B) (hb:Below B W W'):Marks base Ds W':=⟨h.1,fun D hD=>⟨(h.2 D hD).1,(hb.block D (hB D hD)).trans (h.2 D hD).2⟩⟩
theorem Marks.grown {base:Nat} {Ds:List Nat} {W W':World} {row:Option Nat} (h:Marks base Ds W) (hg:W.grownBy W' row) (hr:∀r,row=some r→r∉Ds):Marks base Ds W':=⟨h.1,fun D hD=>⟨(h.2 D hD).1,(hg.block D (h.lt D hD) (fun e=>hr D e.symm hD)).trans (h.2 D hD).2⟩⟩
theorem Marks.notin {base g:Nat} {Ds:List Nat} {W:World} {o:Obj} (h:Marks base Ds W) (ho:W.heap[g]?=some o) (hn:∀x,o≠.deferred x):g∉Ds:=fun hm=>by
 have:=(h.2 g hm).2
 rw [ho] at this
 exact hn _ (Option.some.inj this)
theorem Marks.row {base g t:Nat} {cs:List Value} {Ds:List Nat} {W:World} (h:Marks base Ds W) (hr:RowL W g t cs):g∉Ds:=h.notin (o:=.cells cs.toArray t (0,0)) hr (fun x e=>by cases e)
def Unmarked (Ds:List Nat) (W W':World):Prop:=W'.os=W.os∧W'.tape=W.tape∧W'.output=W.output∧W'.heap.size=W.heap.size∧∀j,j∉Ds→W'.heap[j]?=W.heap[j]?
theorem Unmarked.row {Ds:List Nat} {W W':World} {g t:Nat} {cs:List Value} (h:Unmarked Ds W W') (hr:RowL W g t cs) (hg:g∉Ds):RowL W' g t cs:=(h.2.2.2.2 g hg).trans hr
theorem Unmarked.under {base B:Nat} {Ds:List Nat} {W W' W0:World} (h:Unmarked Ds W W') (hm:Marks base Ds W) (hB:B≤base) (hb:Below B W0 W):Below B W0 W' :=
 ⟨h.1.trans hb.os,h.2.1.trans hb.tape,h.2.2.1.trans hb.output,by rw [h.2.2.2.1];exact hb.size,fun k hk=>(h.2.2.2.2 k (fun hD=>by have:=(hm.2 k hD).1;omega)).trans (hb.block k hk)⟩
theorem Unmarked.below {base:Nat} {Ds:List Nat} {W W' W0:World} (h:Unmarked Ds W W') (hm:Marks base Ds W) (hb:Below base W0 W):Below base W0 W' :=
 ⟨h.1.trans hb.os,h.2.1.trans hb.tape,h.2.2.1.trans hb.output,by rw [h.2.2.2.1];exact hb.size,fun k hk=>(h.2.2.2.2 k (fun hD=>by have:=(hm.2 k hD).1;omega)).trans (hb.block k hk)⟩
theorem leaves_marks {F:Fence} {n:Nat} {P:Program} {fn:Func} {tmps:Array Value} {R:Ending→World→Prop} {base:Nat}:∀(Ds:List Nat) (W:World),Marks base Ds W→(∀W',Unmarked Ds W W'→LeavesIn F n P fn tmps R [] .returning W')→LeavesInM F n P fn tmps R (Ds.map markD) .returning W:=by
 intro Ds
 induction Ds with
 | nil=>exact fun W _ h=>h W ⟨rfl,rfl,rfl,rfl,fun _ _=>rfl⟩
 | cons D r ih =>
  intro W hm h
  have hD:=hm.2 D List.mem_cons_self
  refine ⟨by simp,.inl ⟨D,W.putObj D (.deferred none),rfl,run_takeDeferred hD.2,?_⟩⟩
  have hg:=grownBy_putObj' W D (.deferred none)
  have hlt:=(Array.getElem?_eq_some_iff.1 hD.2).1
  have hsz:(W.putObj D (.deferred none)).heap.size=W.heap.size:=by simp [World.putObj]
  refine ih _ ⟨(List.pairwise_cons.1 hm.1).2,fun D' h'=>⟨(hm.2 D' (List.mem_cons_of_mem _ h')).1,?_⟩⟩ fun W' hu=>h W' ⟨hu.1.trans hg.os,hu.2.1.trans hg.tape,hu.2.2.1.trans hg.output,hu.2.2.2.1.trans hsz,fun j hj=>?_⟩
  ·have hne:=(List.pairwise_cons.1 hm.1).1 D' h'
   have hm':=hm.2 D' (List.mem_cons_of_mem _ h')
   exact (hg.block D' ((Array.getElem?_eq_some_iff.1 hm'.2).1) (pu5 (by omega))).trans hm'.2
  ·rw [List.mem_cons,not_or] at hj
   rw [hu.2.2.2.2 j hj.2]
   rcases Nat.lt_or_ge j W.heap.size with hj2|hj2
   ·exact hg.block j hj2 (fun e=>hj.1 (Option.some.inj e))
   ·rw [Array.getElem?_eq_none (by rw [hsz];exact hj2),Array.getElem?_eq_none hj2]
end Go.Proofs.YtpndfahgflgocaaGreatDoor

namespace Go.Proofs.YtpndfahgflgocaaGreatDoor
open Go.RowKit Go.Shelf Plain

def nodC (x:NodV) (d e:Value):List Value:=[.int .i64 x.k,.int .i64 x.p,.int .i64 x.n,.int .i64 x.g,d,e,.int .i64 x.att.h,.int .i64 x.att.o,.string ⟨x.att.r.toArray⟩,.int .i64 x.att.l,.int .i64 x.att.i,.int .i64 x.att.g,.int .i64 x.att.s]
def NodR (w:World) (D:Nat→Prop) (cs:List Value) (x:NodV):Prop:=∃A n c C m d,cs=nodC x (.slice A n c) (.slice C m d)∧n≤c∧RdE Enc.byte w D A n x.data∧m≤d∧RdE entEn w D C m x.ents
theorem NodR.mono {w w':World} {D D':Nat→Prop} {cs:List Value} {x:NodV} (h:NodR w D cs x) (hk:Kept D w w') (hD:∀b,D b→D' b):NodR w' D' cs x:=by
 obtain ⟨A,n,c,C,m,d,h1,h2,h3,h4,h5⟩:=h
 exact ⟨A,n,c,C,m,d,h1,h2,h3.mono hk hD,h4,h5.mono hk hD⟩
def nodEn : Enc NodV where
 k:=13
 R:=NodR
 len:=fun ⟨_,_,_,_,_,_,h,_⟩=>by rw [h];rfl
 one:=fun ⟨_,_,_,_,_,_,h,_⟩ v hv=>by
  rw [h] at hv
  simp only [nodC,List.mem_cons,List.not_mem_nil,or_false] at hv
  rcases hv with rfl|rfl|rfl|rfl|rfl|rfl|rfl|rfl|rfl|rfl|rfl|rfl|rfl <;> rfl
 mono:=NodR.mono
theorem RdE.get_nod {w:World} {D:Nat→Prop} {A:Option Addr} {n:Nat} {l:List NodV} (h:RdE nodEn w D A n l) {i:Nat} {x:NodV} (hx:l[i]?=some x) :
  ∃b o cs,A=some ⟨b,o,none⟩∧D b∧NodR w D cs x∧∀j v,cs[j]?=some v→w.cell? ⟨b,o+i*13+j,none⟩=some v:=by
 have hi:=(List.getElem?_eq_some_iff.1 hx).1
 obtain ⟨b,o,e,hb,hc⟩:=h.2 (by have:=h.1;omega)
 obtain ⟨cs,hcs,hcell⟩:=hc i x hx
 refine ⟨b,o,cs,e,hb,hcs,fun j v hv=>?_⟩
 have:=hcell j v hv
 rwa [show o+(i*nodEn.k+j)=o+i*13+j from by show o+(i*13+j)=o+i*13+j;omega] at this
set_option maxRecDepth 100000 in
theorem nod_agg:∀w,(isAgg 51).run Tryz.prog w=.ok true w:=fun w=>by kernel_rfl
set_option maxRecDepth 100000 in
theorem nod_size:∀w,(Go.sizeOf 51).run Tryz.prog w=.ok 13 w:=fun w=>by kernel_rfl
theorem nodC_one (x:NodV) (A C:Option Addr) (n c m d:Nat):∀v∈nodC x (.slice A n c) (.slice C m d),v.oneCell'=true:=by simp [nodC,Value.oneCell']
def NodRet (w:World) (B:Nat) (x:NodV) (e:Ending) (w':World):Prop:=∃A n c C m d,e=.returned (.agg (nodC x (.slice A n c) (.slice C m d)).toArray)∧n≤c∧RdE Enc.byte w' (Under B) A n x.data∧m≤d∧RdE entEn w' (Under B) C m x.ents∧Below w.heap.size w w'
theorem RdE.under {α:Type} {E:Enc α} {w w':World} {B:Nat} {A:Option Addr} {n:Nat} {l:List α} (h:RdE E w (Under B) A n l) (hb:Below w.heap.size w w') (hB:B≤w.heap.size):RdE E w' (Under B) A n l :=
 h.mono (Kept.of_below hb fun _ h=>Nat.lt_of_lt_of_le h hB) fun _ h=>h
theorem NodRet.of {w w':World} {B:Nat} {x:NodV} {A C:Option Addr} {n c m d:Nat} (hn:n≤c) (h1:RdE Enc.byte w (Under B) A n x.data) (hm:m≤d) (h2:RdE entEn w (Under B) C m x.ents) (hb:Below w.heap.size w w') (hB:B≤w.heap.size):NodRet w B x (.returned (.agg (nodC x (.slice A n c) (.slice C m d)).toArray)) w' :=
 ⟨A,n,c,C,m,d,rfl,hn,h1.under hb hB,hm,h2.under hb hB,hb⟩
def inN (ns:List NodV) (i:Int):Bool:=decide (1≤i)&&decide (i≤(ns.length:Int))
def WkN (w:World) (B g:Nat) (ns:List NodV):Prop:=∃A n c,w.cell? ⟨g,0,none⟩=some (.slice A n c)∧RdE nodEn w (Under B) A n ns
theorem WkN.on {w w':World} {B g:Nat} {ns:List NodV} (h:WkN w B g ns) (hb:Below w.heap.size w w') (hB:B≤w.heap.size) (hg:g < w.heap.size):WkN w' B g ns:=by
 obtain ⟨A,n,c,h1,h2⟩:=h
 exact ⟨A,n,c,(hb.cell (p:=⟨g,0,none⟩) hg).trans h1,h2.under hb hB⟩
set_option maxHeartbeats 800000 in
theorem has_any {B g:Nat} {ns:List NodV} {i:Int} (w:World) (h:WkN w B g ns):Calls Tryz.prog 86 #[.pointer (some ⟨g,0,none⟩),.int .i64 i] w (fun e w'=>e=.returned (.bool (inN ns i))∧w'=w):=by
 obtain ⟨A,n,c,hc,hr⟩:=h
 have hl:=hr.1
 by_cases h1:1≤i
 ·by_cases h2:i≤(n:Int)
  ·have e:inN ns i=true:=by unfold inN;rw [hl];simp [h1,h2]
   have d1:decide (1≤i)=true:=by simpa using h1
   have d2:decide (i≤(n:Int))=true:=by simpa using h2
   rw [e]
   clear hr hl e
   go_enter Tryz.func86,Tryz.ntmps86
   go_wp2
   go_ret
   exact ⟨rfl,rfl⟩
  ·have e:inN ns i=false:=by unfold inN;rw [hl];simp [h2]
   have d1:decide (1≤i)=true:=by simpa using h1
   have d2:decide (i≤(n:Int))=false:=by simpa using h2
   rw [e]
   clear hr hl e
   go_enter Tryz.func86,Tryz.ntmps86
   go_wp2
   go_ret
   exact ⟨rfl,rfl⟩
 ·have e:inN ns i=false:=by unfold inN;simp [h1]
  have d1:decide (1≤i)=false:=by simpa using h1
  rw [e]
  clear hr hl e
  go_enter Tryz.func86,Tryz.ntmps86
  go_wp2
  go_ret
  exact ⟨rfl,rfl⟩
theorem has_e {B g:Nat} {ns:List NodV} {i:Int} {b:Bool} (h0:inN ns i=b) (w:World) (h:WkN w B g ns):Calls Tryz.prog 86 #[.pointer (some ⟨g,0,none⟩),.int .i64 i] w (fun e w'=>e=.returned (.bool b)∧w'=w):=by rw [←h0];exact has_any w h
end Go.Proofs.YtpndfahgflgocaaGreatDoor

namespace Go.Proofs.YtpndfahgflgocaaGreatDoor
open Go.RowKit Plain

theorem run_tw {ns : List NodV} (h : Many ns) : ∀ (f p : Nat) (s : StW), p ≤ s.1.length → s.2.length ≤ 16 * p → (runW ns f p s).2.length ≤ 16 * (runW ns f p s).1.length
 | 0,p,s,h1,h2=>by show s.2.length≤16*s.1.length;omega
 | f+1,p,s,h1,h2=>by
  unfold runW
  split
  ·have h3:=visit_tw h p s
   have h4:=(visit_pre (ns:=ns) (p:=p) (s:=s)).length_le
   exact run_tw h f _ _ (by omega) (by omega)
  ·omega
theorem root_tw {ns:List NodV} (h:Many ns) {s:StW} {i:Int} (hs:s.2.length≤16*s.1.length):(rootW ns s i).2.length≤16*(rootW ns s i).1.length:=by
 unfold rootW
 split
 ·exact run_tw h _ _ _ (by simp) (by simpa using hs)
 ·exact hs
theorem walk_tw {ns:List NodV} (h:Many ns) (ff:List Int):(walkW ns ff).2.length≤16*(walkW ns ff).1.length:=foldl_keep (P:=fun s:StW=>s.2.length≤16*s.1.length) _ _ (by simp) (fun _ _ _ hs=>root_tw h hs)

def AheadW (p:Nat) (s:StW):Prop:=∀q∈s.2,∃j y,j < p∧s.1[j]?=some y∧y.ino=q.1
def AddsW (p:Nat) (s r:StW):Prop:=s.1 <+: r.1∧(∀q∈s.2,q∈r.2)∧∀q∈r.2,q∈s.2∨∃j y,p≤j∧r.1[j]?=some y∧y.ino=q.1
theorem AddsW.refl (p:Nat) (s:StW):AddsW p s s:=⟨List.prefix_refl _,fun _ h=>h,fun _ h=>.inl h⟩
theorem pre_get {l r:List WayV} {j:Nat} {y:WayV} (h:l <+: r) (hy:l[j]?=some y):r[j]?=some y:=by
 obtain ⟨t,rfl⟩:=h
 rw [List.getElem?_append_left (List.getElem?_eq_some_iff.1 hy).1]
 exact hy
theorem AddsW.trans {p p':Nat} {s r u:StW} (h:AddsW p s r) (k:AddsW p' r u) (hp:p≤p'):AddsW p s u:=by
 refine ⟨h.1.trans k.1,fun q hq=>k.2.1 q (h.2.1 q hq),fun q hq=>?_⟩
 rcases k.2.2 q hq with h1|⟨j,y,h1,h2,h3⟩
 ·rcases h.2.2 q h1 with h1|⟨j,y,h1,h2,h3⟩
  ·exact .inl h1
  ·exact .inr ⟨j,y,h1,pre_get k.1 h2,h3⟩
 ·exact .inr ⟨j,y,by omega,h2,h3⟩
theorem AheadW.mono {p p':Nat} {s:StW} (h:AheadW p s) (hp:p≤p'):AheadW p' s:=fun q hq=>by
 obtain ⟨j,y,h1,h2,h3⟩:=h q hq
 exact ⟨j,y,by omega,h2,h3⟩
end Go.Proofs.YtpndfahgflgocaaGreatDoor

namespace Go.Proofs.YtpndfahgflgocaaGreatDoor
open Go.RowKit Plain

theorem nodAt_get {ns:List NodV} {j:Nat} {n:NodV} (h:ns[j]?=some n):nodAt ns ((j:Int)+1)=n:=by
 have hj:=(List.getElem?_eq_some_iff.1 h).1
 unfold nodAt
 rw [if_pos (by omega),show ((j:Int)+1 - 1).toNat=j from by omega,h]
 rfl
theorem nodAt_out {ns:List NodV} {i:Int} (h:¬(1≤i∧i≤(ns.length:Int))):nodAt ns i=nod0:=by unfold nodAt;rw [if_neg h]
theorem nodAt_in {ns:List NodV} {i:Int} (h:1≤i∧i≤(ns.length:Int)):∃(j:Nat) (n:NodV),i=(j:Int)+1∧ns[j]?=some n∧nodAt ns i=n:=by
 obtain ⟨j,hj⟩:=Int.eq_ofNat_of_zero_le (show 0≤i - 1 by omega)
 have hl:j < ns.length:=by omega
 refine ⟨j,ns[j],by omega,List.getElem?_eq_getElem hl,?_⟩
 rw [show i=(j:Int)+1 from by omega]
 exact nodAt_get (List.getElem?_eq_getElem hl)
def ComesW (ns:List NodV) (s:StW):Prop:=∀q∈s.2,∃e,(nodAt ns q.1).ents[q.2]?=some e∧∃y∈s.1,y.ino=e.ino
theorem ComesW.pre {ns:List NodV} {l r:List WayV} {t:List (Int×Nat)} (h:ComesW ns (l,t)) (hp:l <+: r):ComesW ns (r,t):=fun q hq=>by
 obtain ⟨e,h1,y,h2,h3⟩:=h q hq
 exact ⟨e,h1,y,hp.subset h2,h3⟩
end Go.Proofs.YtpndfahgflgocaaGreatDoor

namespace Go.Proofs.YtpndfahgflgocaaGreatDoor
open Go.RowKit Go.Shelf Plain

theorem inN_at {ns:List NodV} {i:Int} (h:inN ns i=true):∃(j:Nat) (n:NodV),i=(j:Int)+1∧ns[j]?=some n∧nodAt ns i=n:=by
 unfold inN at h
 rw [Bool.and_eq_true,decide_eq_true_eq,decide_eq_true_eq] at h
 exact nodAt_in h
theorem NodR.keep {w w':World} {B:Nat} {cs:List Value} {x:NodV} (h:NodR w (Under B) cs x) (hb:Below w.heap.size w w') (hB:B≤w.heap.size):NodR w' (Under B) cs x:=h.mono (Kept.of_below hb fun _ h=>Nat.lt_of_lt_of_le h hB) fun _ h=>h
set_option maxRecDepth 100000 in
set_option maxHeartbeats 1600000 in
theorem Of_any {A:Option Addr} {B:Nat} {n c:Nat} {ns:List NodV} {i:Int} (w:World) (h:RdE nodEn w (Under B) A n ns) (hB:B≤w.heap.size) (hm:ns.length≤100000):Calls Tryz.prog 36 #[.agg #[.slice A n c],.int .i64 i] w (NodRet w B (nodAt ns i)):=by
 have hl:=h.1
 obtain ⟨rz0,rz,hbz,-⟩:=rows2 w [.slice A n c] (nodC nod0 (.slice none 0 0) (.slice none 0 0)) 26 51
 have HZ:=hide rz
 have HB:=hide hbz
 have qb:((w.alloc (.cells [Value.slice A n c].toArray 26)).alloc (.cells (nodC nod0 (.slice none 0 0) (.slice none 0 0)).toArray 51)).cell? ⟨w.heap.size,0,none⟩=some (.slice A n c):=rz0.cell 0
 have hN:=h
 by_cases h1:i < 1
 ·have e:nodAt ns i=nod0:=nodAt_out (by omega)
  have d1:decide (i < 1)=true:=by simpa using h1
  rw [e]
  clear h hN rz rz0 hbz e
  go_enter Tryz.func36,Tryz.ntmps36
  go_wp2_with (refine wpList_storeW rfl 51 (.tmp 4) (.tmp 14) rfl 13 nod_size (w.heap.size+1) 51 rfl (nodC nod0 (.slice none 0 0) (.slice none 0 0)) (nodC nod0 (.slice none 0 0) (.slice none 0 0)) rfl HZ.out rfl rfl (nodC_one nod0 none none 0 0 0 0) ?_;intro w9 hr9 hg9 hs9;have HR9:=hide hr9;have HB9:=hide (HB.out.grown hg9 HB.out.size (pu4 (by omega)));clear hr9 hg9 hs9)
  exact bodyPost_ret (res_cell Tryz.results36 rfl nod_agg nod_size HR9.out rfl) rfl (NodRet.of (Nat.le_refl _) (RdE.none_ _ _ _ _) (Nat.le_refl _) (RdE.none_ _ _ _ _) HB9.out hB)
 ·have d1:decide (i < 1)=false:=by simpa using h1
  by_cases h2:(n:Int) < i
  ·have e:nodAt ns i=nod0:=nodAt_out (by omega)
   have d2:decide ((n:Int) < i)=true:=by simpa using h2
   rw [e]
   clear h hN rz rz0 hbz e
   go_enter Tryz.func36,Tryz.ntmps36
   go_wp2_with (refine wpList_storeW rfl 51 (.tmp 4) (.tmp 14) rfl 13 nod_size (w.heap.size+1) 51 rfl (nodC nod0 (.slice none 0 0) (.slice none 0 0)) (nodC nod0 (.slice none 0 0) (.slice none 0 0)) rfl HZ.out rfl rfl (nodC_one nod0 none none 0 0 0 0) ?_;intro w9 hr9 hg9 hs9;have HR9:=hide hr9;have HB9:=hide (HB.out.grown hg9 HB.out.size (pu4 (by omega)));clear hr9 hg9 hs9)
   exact bodyPost_ret (res_cell Tryz.results36 rfl nod_agg nod_size HR9.out rfl) rfl (NodRet.of (Nat.le_refl _) (RdE.none_ _ _ _ _) (Nat.le_refl _) (RdE.none_ _ _ _ _) HB9.out hB)
  ·have d2:decide ((n:Int) < i)=false:=by simpa using h2
   obtain ⟨j,x,rfl,hx,e⟩:=nodAt_in (ns:=ns) (i:=i) (by omega)
   rw [e]
   obtain ⟨b,o,cs,rfl,hbB,hNd,hcell⟩:=hN.get_nod hx
   have hjn:j < n:=by omega
   have hcell1:=fun j' v (hv:cs[j']?=some v)=>(hbz.cell (p:=⟨b,o+j*13+j',none⟩) (Nat.lt_of_lt_of_le hbB hB)).trans (hcell j' v hv)
   obtain ⟨A1,n1,c1,C1,m1,d1',rfl,e2,e3,e4,e5⟩:=hNd
   have HC:=hide hcell1
   have E3:=hide e3
   have E5:=hide e5
   have hw1:IntKind.i64.wrap ((j:Int)+1 - 1)=(j:Int):=by rw [show (j:Int)+1 - 1=j from by omega];exact IntWalk.i64_in _ (by omega)
   have hw2:IntKind.i64.wrap (j:Int)=(j:Int):=IntWalk.i64_in _ (by omega)
   clear h hN rz rz0 hbz e hcell hcell1 e3 e5 hx h1 h2
   go_enter Tryz.func36,Tryz.ntmps36
   go_wp2_with (first|(refine wpList_loadX rfl 51 (.tmp 19) rfl 13 nod_agg nod_size b (o+j*13) rfl (nodC x (.slice A1 n1 c1) (.slice C1 m1 d1')) HC.out rfl ?_)|(refine wpList_storeW rfl 51 (.tmp 4) (.tmp 20) rfl 13 nod_size (w.heap.size+1) 51 rfl (nodC nod0 (.slice none 0 0) (.slice none 0 0)) (nodC x (.slice A1 n1 c1) (.slice C1 m1 d1')) rfl HZ.out rfl rfl (nodC_one x A1 C1 n1 c1 m1 d1') ?_;intro w9 hr9 hg9 hs9;have HR9:=hide hr9;have HB9:=hide (HB.out.grown hg9 HB.out.size (pu4 (by omega)));clear hr9 hg9 hs9))
   exact bodyPost_ret (res_cell Tryz.results36 rfl nod_agg nod_size HR9.out rfl) rfl (NodRet.of e2 E3.out e4 E5.out HB9.out hB)
set_option maxRecDepth 100000 in
set_option maxHeartbeats 1600000 in
theorem node_any {B g:Nat} {ns:List NodV} {i:Int} (w:World) (h:WkN w B g ns) (hB:B≤w.heap.size) (hg:g < w.heap.size) (hm:ns.length≤100000):Calls Tryz.prog 85 #[.pointer (some ⟨g,0,none⟩),.int .i64 i] w (NodRet w B (nodAt ns i)):=by
 have hz:=RowL.new w 51 (nodC nod0 (.slice none 0 0) (.slice none 0 0))
 have hb:=below_new (below_self w) (.cells (nodC nod0 (.slice none 0 0) (.slice none 0 0)).toArray 51)
 obtain ⟨A,n,c,hc,hr0⟩:=h
 have hr:=hr0.under hb hB
 have HR:=hide hr
 have HZ:=hide hz
 have HB:=hide hb
 have hsz:=hb.size
 clear hr hr0 hz hb
 go_enter Tryz.func85,Tryz.ntmps85
 go_wp2_with (first|(go_at_call 36;refine (Of_any _ HR.out (Nat.le_trans hB hsz) hm).mono ?_;rintro e w1 ⟨A1,n1,c1,C1,m1,d1,rfl,e2,e3,e4,e5,hb1⟩;have E3:=hide e3;have E5:=hide e5;have HB1:=hide hb1;clear e3 e5 hb1)|(refine wpList_storeW rfl 51 (.tmp 4) (.tmp 10) rfl 13 nod_size w.heap.size 51 rfl (nodC nod0 (.slice none 0 0) (.slice none 0 0)) (nodC (nodAt ns i) (.slice A1 n1 c1) (.slice C1 m1 d1)) rfl (HZ.out.on HB1.out) rfl rfl (nodC_one _ A1 C1 n1 c1 m1 d1) ?_;intro w9 hr9 hg9 hs9;have HR9:=hide hr9;have HG9:=hide hg9;clear hr9 hg9 hs9))
 have hs1:=HB1.out.size
 have hk:Kept (Under B) w1 w9:=fun b hb=>HG9.out.block b (by unfold Under at hb;omega) (fun e=>by have:=Option.some.inj e;unfold Under at hb;omega)
 exact bodyPost_ret (res_cell Tryz.results85 rfl nod_agg nod_size HR9.out rfl) rfl ⟨A1,n1,c1,C1,m1,d1,rfl,e2,E3.out.mono hk (fun _ h=>h),e4,E5.out.mono hk (fun _ h=>h),(HB.out.trans (HB1.out.mono HB.out.size)).grown HG9.out (by omega) (pu4 (by omega))⟩
set_option maxRecDepth 100000 in
theorem nod_f0 (x:NodV) (d e:Value) (W:World):(Instr.field 51 (.agg (nodC x d e).toArray) 0).run Tryz.prog W=.ok (.int .i64 x.k) W:=by kernel_rfl
set_option maxRecDepth 100000 in
theorem nod_f5 (x:NodV) (D C:Option Addr) (n c m d:Nat) (W:World):(Instr.field 51 (.agg (nodC x (.slice D n c) (.slice C m d)).toArray) 5).run Tryz.prog W=.ok (.slice C m d) W:=by kernel_rfl
set_option maxRecDepth 100000 in
set_option maxHeartbeats 1600000 in
theorem dir_any {B g:Nat} {ns:List NodV} {i:Int} (w:World) (h:WkN w B g ns) (hB:B≤w.heap.size) (hg:g < w.heap.size) (hm:ns.length≤100000):Calls Tryz.prog 82 #[.pointer (some ⟨g,0,none⟩),.int .i64 i] w (BoolB w (isDir ns i)):=by
 have H:=hide h
 obtain ⟨b,hb⟩:∃b,isDir ns i=b:=⟨_,rfl⟩
 have hk:((nodAt ns i).k==1)=b:=by rw [←hb];unfold isDir;rw [Bool.eq_iff_iff];simp
 rw [hb]
 clear h hb
 go_enter Tryz.func82,Tryz.ntmps82
 go_wp2_with (go_at_call 85;refine (node_any _ H.out hB hg hm).mono ?_;rintro e w1 ⟨A1,n1,c1,C1,m1,d1,rfl,-,-,-,-,hb1⟩;have hf:=nod_f0 (nodAt ns i) (.slice A1 n1 c1) (.slice C1 m1 d1))
 go_ret
 exact BoolB.of hb1
end Go.Proofs.YtpndfahgflgocaaGreatDoor

