import Derived.Test.YtpndfahgflgocaaGreatDoorLn2
import Derived.RangeFuncNested
import Derived.RangeFuncBound
import Derived.RangeFuncCalls
import Derived.RangeFuncLeaves
import Derived.RangeFuncFrom
import Derived.RangeFuncWrites
import Derived.Shelf.Abstract
import Derived.Shelf.RegionOpen
import Derived.WalkKit
import Derived.OwnWalkIn
import Derived.TacticsInMore
import Derived.LoopNIn
import Derived.LoopIn
import Derived.Test.YtpndfahgflgocaaGreatDoorRows

namespace Go.Proofs.YtpndfahgflgocaaGreatDoor
open Go.RowKit

section
variable {P : Program} {T k : Nat}
theorem run_loadAt_row (hag:∀w,(isAgg T).run P w=.ok true w) (hsz:∀w,(sizeOf T).run P w=.ok k w) {w:World} {g t off:Nat} {cur cs:List Value} (h:RowL w g t cur) (hc:(cur.drop off).take k=cs) (hk:cs.length=k) :
  (Instr.loadAt T (.pointer (some ⟨g,off,none⟩))).run P w=.ok (.agg cs.toArray) w:=by
 have hl:=run_loadCells_list (P:=P) w ⟨g,off,none⟩ cs (fun j v hv=>by
  have hj:j < cs.length:=(List.getElem?_eq_some_iff.1 hv).1
  rw [Addr.add_lit,h.cell,←hv,←hc,List.getElem?_take_of_lt (by omega),List.getElem?_drop])
 rw [hk] at hl
 simp [Instr.loadAt,Instr.sureAddr,loadVar,hag,hsz,hl]
theorem run_storeAt_row (hsz:∀w,(sizeOf T).run P w=.ok k w) {w:World} {g t off:Nat} {cur cs:List Value} (h:RowL w g t cur) (hk:cs.length=k) (hfit:off+k≤cur.length) (h1:∀v∈cs,v.oneCell'=true) :
  (Instr.storeAt T (.pointer (some ⟨g,off,none⟩)) (.agg cs.toArray)).run P w=.ok () (w.setRow g (splice cur off cs).toArray):=by
 have hst:=run_storeCells_at P g off t cs 0 cur.toArray w h (by simp;omega) h1
 simp only [Nat.add_zero] at hst
 simp [Instr.storeAt,Instr.sureAddr,storeVar,hsz,Value.cells,hk,hst,splice]
theorem RowL.setRow_ {w:World} {g t:Nat} {cur:List Value} (h:RowL w g t cur) (new:List Value):RowL (w.setRow g new.toArray) g t new:=setRow_heap w g cur.toArray new.toArray t (0,0) h
theorem grownBy_setRow (w:World) (g:Nat) (new:Array Value):w.grownBy (w.setRow g new) (some g):=⟨rfl,rfl,rfl,by simp,fun j _ hj=>setRow_other w g j new (fun e=>hj (by rw [e]))⟩

theorem wpList_loadC {w : World} {ops : Array Oper} {rest : List Oper} {o : Oper} {a : Act} {Q : Exit → Act → World → Prop} (hgd : o.guard = none) (T : Nat) (x : Operand) (ho : o.op = .load T x)
  (k:Nat) (hag:∀w,(isAgg T).run P w=.ok true w) (hsz:∀w,(sizeOf T).run P w=.ok k w) (g off t:Nat) (hx:a.eval x=.pointer (some ⟨g,off,none⟩)) (cur cs:List Value) (h:RowL w g t cur) (hc:(cur.drop off).take k=cs) (hk:cs.length=k)
  (hK:wpList P ops Q rest (a.put o.dst (.agg cs.toArray)) w):wpList P ops Q (o::rest) a w:=by
 refine wpList_plain hgd fun K hK'=>?_
 have hr:=run_loadAt_row (P:=P) hag hsz h hc hk
 unfold Oper.wp execOp
 simp only [ho,Sem.run_bind,Sem.run_pure,Result.andThen_ok,hx,hr]
 exact hK' _ _ hK
theorem run_loadAt_cells (hag:∀w,(isAgg T).run P w=.ok true w) (hsz:∀w,(sizeOf T).run P w=.ok k w) {w:World} {g off:Nat} {cs:List Value} (h:∀j v,cs[j]?=some v→w.cell? ⟨g,off+j,none⟩=some v) (hk:cs.length=k) :
  (Instr.loadAt T (.pointer (some ⟨g,off,none⟩))).run P w=.ok (.agg cs.toArray) w:=by
 have hl:=run_loadCells_list (P:=P) w ⟨g,off,none⟩ cs (fun j v hv=>by rw [Addr.add_lit];exact h j v hv)
 rw [hk] at hl
 simp [Instr.loadAt,Instr.sureAddr,loadVar,hag,hsz,hl]
theorem wpList_loadX {w : World} {ops : Array Oper} {rest : List Oper} {o : Oper} {a : Act} {Q : Exit → Act → World → Prop} (hgd : o.guard = none) (T : Nat) (x : Operand) (ho : o.op = .load T x)
  (k:Nat) (hag:∀w,(isAgg T).run P w=.ok true w) (hsz:∀w,(sizeOf T).run P w=.ok k w) (g off:Nat) (hx:a.eval x=.pointer (some ⟨g,off,none⟩)) (cs:List Value) (h:∀j v,cs[j]?=some v→w.cell? ⟨g,off+j,none⟩=some v) (hk:cs.length=k)
  (hK:wpList P ops Q rest (a.put o.dst (.agg cs.toArray)) w):wpList P ops Q (o::rest) a w:=by
 refine wpList_plain hgd fun K hK'=>?_
 have hr:=run_loadAt_cells (P:=P) hag hsz h hk
 unfold Oper.wp execOp
 simp only [ho,Sem.run_bind,Sem.run_pure,Result.andThen_ok,hx,hr]
 exact hK' _ _ hK
theorem wp_storeC {w : World} {o : Oper} {a : Act} {K : Act → World → Prop} {Q : Exit → Act → World → Prop} (T : Nat) (x y : Operand) (ho : o.op = .store T x y)
  (k:Nat) (hsz:∀w,(sizeOf T).run P w=.ok k w) (g off t:Nat) (hx:a.eval x=.pointer (some ⟨g,off,none⟩)) (cur cs:List Value) (hy:a.eval y=.agg cs.toArray) (h:RowL w g t cur) (hk:cs.length=k) (hfit:off+k≤cur.length) (h1:∀v∈cs,v.oneCell'=true)
  (hK:∀w',RowL w' g t (splice cur off cs)→w.grownBy w' (some g)→w'.heap.size=w.heap.size→K (a.put o.dst undef) w'):o.wp P a w K Q:=by
 have hr:=run_storeAt_row (P:=P) hsz h hk hfit h1
 unfold Oper.wp execOp
 simp only [ho,Sem.run_bind,Sem.run_pure,Result.andThen_ok,hx,hy,hr]
 exact hK _ (h.setRow_ _) (grownBy_setRow _ _ _) (by simp)
theorem wpList_storeC {w : World} {ops : Array Oper} {rest : List Oper} {o : Oper} {a : Act} {Q : Exit → Act → World → Prop} (hgd : o.guard = none) (T : Nat) (x y : Operand) (ho : o.op = .store T x y)
  (k:Nat) (hsz:∀w,(sizeOf T).run P w=.ok k w) (g off t:Nat) (hx:a.eval x=.pointer (some ⟨g,off,none⟩)) (cur cs:List Value) (hy:a.eval y=.agg cs.toArray) (h:RowL w g t cur) (hk:cs.length=k) (hfit:off+k≤cur.length) (h1:∀v∈cs,v.oneCell'=true)
  (hK:∀w',RowL w' g t (splice cur off cs)→w.grownBy w' (some g)→w'.heap.size=w.heap.size→wpList P ops Q rest (a.put o.dst undef) w'):wpList P ops Q (o::rest) a w:=by
 refine wpList_plain hgd fun K hK'=>?_
 exact wp_storeC T x y ho k hsz g off t hx cur cs hy h hk hfit h1 fun w' h1 h2 h3=>hK' _ _ (hK w' h1 h2 h3)
end
end Go.Proofs.YtpndfahgflgocaaGreatDoor

namespace Go.Proofs.YtpndfahgflgocaaGreatDoor
open Go.RowKit Plain

section
variable {w w' : World} {g t : Nat} {cs : List Value}
theorem RowL.on (h:RowL w g t cs) (hb:Below w.heap.size w w'):RowL w' g t cs:=(hb.block g h.lt).trans h
theorem RowL.drew (h:RowL w g t cs):RowL w.drew g t cs:=h
theorem grown_cell (w:World) (g i:Nat) (u:Value):w.grownBy (w.setCell ⟨g,i,none⟩ u) (some g):=⟨rfl,rfl,rfl,by simp,fun k _ hk=>Below.heap_setCell _ _ _ _ (fun e=>hk (by rw [e]))⟩
theorem RowL.src {off m:Nat} {l:List Value} (h:RowL w g t cs) (hc:(cs.drop off).take m=l) (hm:l.length=m):∀j v,l[j]?=some v→w.cell? ((⟨g,off,none⟩:Addr).add j)=some v:=by
 intro j v hv
 have hj:j < l.length:=(List.getElem?_eq_some_iff.1 hv).1
 rw [Addr.add_lit,h.cell,←hv,←hc,List.getElem?_take_of_lt (by omega),List.getElem?_drop]
theorem below_drew (h:Below w.heap.size w w'):Below w.heap.size w w'.drew:=⟨h.os,h.tape,h.output,h.size,h.block⟩
end
section
variable {P : Program} {T k : Nat}
theorem run_loadRow {w:World} {g t:Nat} {cs:List Value} (h:RowL w g t cs) (hk:cs.length=k):(loadCellsFrom ⟨g,0,none⟩ 0 k #[]).run P w=.ok cs.toArray w:=by
 have hl:=run_loadCells_list (P:=P) w ⟨g,0,none⟩ cs (fun j v hv=>by rw [Addr.add_lit,h.cell,Nat.zero_add,hv])
 rw [hk] at hl
 exact hl
theorem wpList_loadW {w : World} {ops : Array Oper} {rest : List Oper} {o : Oper} {a : Act} {Q : Exit → Act → World → Prop} (hgd : o.guard = none) (T : Nat) (x : Operand) (ho : o.op = .load T x)
  (k:Nat) (hag:∀w,(isAgg T).run P w=.ok true w) (hsz:∀w,(sizeOf T).run P w=.ok k w) (g t:Nat) (hx:a.eval x=.pointer (some ⟨g,0,none⟩)) (cs:List Value) (h:RowL w g t cs) (hk:cs.length=k)
  (hK:wpList P ops Q rest (a.put o.dst (.agg cs.toArray)) w):wpList P ops Q (o::rest) a w :=
 wpList_loadC hgd T x ho k hag hsz g 0 t hx cs cs h (by rw [List.drop_zero,List.take_of_length_le (by omega)]) hk hK
theorem wpList_storeW {w : World} {ops : Array Oper} {rest : List Oper} {o : Oper} {a : Act} {Q : Exit → Act → World → Prop} (hgd : o.guard = none) (T : Nat) (x y : Operand) (ho : o.op = .store T x y)
  (k:Nat) (hsz:∀w,(sizeOf T).run P w=.ok k w) (g t:Nat) (hx:a.eval x=.pointer (some ⟨g,0,none⟩)) (cur cs:List Value) (hy:a.eval y=.agg cs.toArray) (h:RowL w g t cur) (hk:cs.length=k) (hcur:cur.length=k) (h1:∀v∈cs,v.oneCell'=true)
  (hK:∀w',RowL w' g t cs→w.grownBy w' (some g)→w'.heap.size=w.heap.size→wpList P ops Q rest (a.put o.dst undef) w'):wpList P ops Q (o::rest) a w :=
 wpList_storeC hgd T x y ho k hsz g 0 t hx cur cs hy h hk (by omega) h1 fun w' h1 h2 h3=>hK w' (by
  have e:splice cur 0 cs=cs:=by unfold splice;rw [List.take_zero,List.nil_append,List.drop_of_length_le (by omega),List.append_nil]
  rw [e] at h1;exact h1) h2 h3
theorem res_cell {fn : Func} {tmps : Array Value} {w : World} {s g t : Nat} {cs : List Value} (hr : fn.results = #[.cell s T]) (ht : tmps.getD s undef = .pointer (some ⟨g, 0, none⟩)) (hag : ∀ w, (isAgg T).run P w = .ok true w) (hsz : ∀ w, (sizeOf T).run P w = .ok k w)
  (h:RowL w g t cs) (hk:cs.length=k):(results fn tmps).run P w=.ok (.agg cs.toArray) w:=by
 have hl:=run_loadRow (P:=P) h hk
 have ht':tmps[s]?.getD undef=.pointer (some ⟨g,0,none⟩):=by simpa using ht
 simp [results,hr,ht',hag,hsz,hl,go_sem]
end
theorem rows1 (w:World) (c1:List Value) (t1:Nat):RowL (w.alloc (.cells c1.toArray t1)) w.heap.size t1 c1∧Below w.heap.size w (w.alloc (.cells c1.toArray t1))∧(w.alloc (.cells c1.toArray t1)).heap.size=w.heap.size+1 :=
 ⟨RowL.new w t1 c1,below_new (below_self w) _,by simp⟩
theorem rows2 (w:World) (c1 c2:List Value) (t1 t2:Nat):RowL ((w.alloc (.cells c1.toArray t1)).alloc (.cells c2.toArray t2)) w.heap.size t1 c1∧RowL ((w.alloc (.cells c1.toArray t1)).alloc (.cells c2.toArray t2)) (w.heap.size+1) t2 c2 ∧
  Below w.heap.size w ((w.alloc (.cells c1.toArray t1)).alloc (.cells c2.toArray t2))∧((w.alloc (.cells c1.toArray t1)).alloc (.cells c2.toArray t2)).heap.size=w.heap.size+2:=by
 obtain ⟨h1,h2,h3⟩:=rows1 w c1 t1
 obtain ⟨k1,k2,k3⟩:=rows1 (w.alloc (.cells c1.toArray t1)) c2 t2
 rw [h3] at k1
 exact ⟨h1.on k2,k1,below_step h2 k2,by rw [k3,h3]⟩
theorem rows3 (w:World) (c1 c2 c3:List Value) (t1 t2 t3:Nat):RowL (((w.alloc (.cells c1.toArray t1)).alloc (.cells c2.toArray t2)).alloc (.cells c3.toArray t3)) w.heap.size t1 c1∧RowL (((w.alloc (.cells c1.toArray t1)).alloc (.cells c2.toArray t2)).alloc (.cells c3.toArray t3)) (w.heap.size+1) t2 c2 ∧
  RowL (((w.alloc (.cells c1.toArray t1)).alloc (.cells c2.toArray t2)).alloc (.cells c3.toArray t3)) (w.heap.size+1+1) t3 c3 ∧
  Below w.heap.size w (((w.alloc (.cells c1.toArray t1)).alloc (.cells c2.toArray t2)).alloc (.cells c3.toArray t3))∧(((w.alloc (.cells c1.toArray t1)).alloc (.cells c2.toArray t2)).alloc (.cells c3.toArray t3)).heap.size=w.heap.size+3:=by
 obtain ⟨h1,h2,h3,h4⟩:=rows2 w c1 c2 t1 t2
 obtain ⟨k1,k2,k3⟩:=rows1 ((w.alloc (.cells c1.toArray t1)).alloc (.cells c2.toArray t2)) c3 t3
 rw [h4] at k1
 exact ⟨h1.on k2,h2.on k2,k1,below_step h3 k2,by rw [k3,h4]⟩
end Go.Proofs.YtpndfahgflgocaaGreatDoor

namespace Go.Proofs.YtpndfahgflgocaaGreatDoor
open Go.RowKit Go.Shelf Plain
attribute [local go_sem] Oper.semAt_some

theorem grown_below {W W':World} (h:Below W.heap.size W W'):W.grownBy W' none:=⟨h.os,h.tape,h.output,h.size,fun k hk _=>h.block k hk⟩
theorem kBelow {A B:World} (h:Below A.heap.size A B):KeepsOthers A B:=⟨h.size,fun i _ hi _=>(h.block i (Array.getElem?_eq_some_iff.1 hi).1).trans hi⟩
theorem RowL.turned {W W':World} {g t:Nat} {cs:List Value} {row:Option Nat} (h:RowL W g t cs) (hg:W.grownBy W' row) (hr:∀r,row=some r→∃o:Obj,W.heap[r]?=some o∧o.isCells=false):RowL W' g t cs:=by
 refine h.grown hg fun e=>?_
 obtain ⟨o,ho,hc⟩:=hr g e.symm
 rw [show W.heap[g]?=_ from h] at ho
 cases Option.some.inj ho
 cases hc

section
variable {F : Fence} {n : Nat} {P : Program} {w : World} {o : Oper} {a : Act} {K : Act → World → Prop} {Q : Exit → Act → World → Prop}
theorem wpIn_storeW (T : Nat) (x y : Operand) (ho : o.op = .store T x y) (k : Nat) (hsz : ∀ w, (Go.sizeOf T).run P w = .ok k w) (g t : Nat) (hx : a.eval x = .pointer (some ⟨g, 0, none⟩)) (cur cs : List Value) (hy : a.eval y = .agg cs.toArray) (h : RowL w g t cur) (hk : cs.length = k) (hcur : cur.length = k) (h1 : ∀ v ∈ cs, v.oneCell' = true)
  (hK:∀w',RowL w' g t cs→w.grownBy w' (some g)→w'.heap.size=w.heap.size→K (a.put o.dst undef) w'):o.wpIn F n P a w K Q:=by
 have hr:=run_storeAt_row (P:=P) hsz (off:=0) h hk (by omega) h1
 have e:splice cur 0 cs=cs:=by unfold splice;rw [List.take_zero,List.nil_append,List.drop_of_length_le (by omega),List.append_nil]
 rw [e] at hr
 unfold Oper.wpIn
 refine ⟨by simp [Oper.about,ho],?_⟩
 rw [Oper.semAt_plain F _ _ (by rw [ho];intro c hc';cases hc')]
 simp only [execOp,ho,Sem.run_bind,Sem.run_pure,Result.andThen_ok,hx,hy,hr]
 exact hK _ (h.setRow_ _) (grownBy_setRow _ _ _) (by simp)
theorem wpIn_loadX (T : Nat) (x : Operand) (ho : o.op = .load T x) (k : Nat) (hag : ∀ w, (isAgg T).run P w = .ok true w) (hsz : ∀ w, (Go.sizeOf T).run P w = .ok k w) (g off : Nat) (hx : a.eval x = .pointer (some ⟨g, off, none⟩)) (cs : List Value) (h : ∀ j v, cs[j]? = some v → w.cell? ⟨g, off + j, none⟩ = some v) (hk : cs.length = k)
  (hK:K (a.put o.dst (.agg cs.toArray)) w):o.wpIn F n P a w K Q:=by
 have hr:=run_loadAt_cells (P:=P) hag hsz h hk
 unfold Oper.wpIn
 refine ⟨by simp [Oper.about,ho],?_⟩
 rw [Oper.semAt_plain F _ _ (by rw [ho];intro c hc';cases hc')]
 simp only [execOp,ho,Sem.run_bind,Sem.run_pure,Result.andThen_ok,hx,hr]
 exact hK
end
theorem ownsRow_below {w w':World} {base e s n:Nat} {v:Value} {xs:List Value} (h:w.ownsRow base e s v n xs) (hb:Below w.heap.size w w'):w'.ownsRow base e s v n xs:=by
 refine ⟨h.1,?_⟩
 rcases h.2 with h0|⟨g,cap,cur,h1,h2,h3,h4⟩
 ·exact .inl h0
 ·refine .inr ⟨g,cap,cur,h1,h2,?_,h4⟩
  rw [hb.block g ?_]
  ·exact h3
  ·rcases Nat.lt_or_ge g w.heap.size with hlt|hge
   ·exact hlt
   ·rw [Array.getElem?_eq_none hge] at h3;cases h3
theorem own_block {W:World} {base e s n:Nat} {v:Value} {xs:List Value} (h:W.ownsRow base e s v n xs):∀g,v.ownBlock=some g→base≤g∧g < W.heap.size∧∃o:Obj,W.heap[g]?=some o∧o.isCells=true:=by
 intro g hg
 rcases h.2 with ⟨rfl,_⟩|⟨g',cap,cur,rfl,hb,hc,_⟩
 ·cases hg
 ·obtain rfl:g'=g:=Option.some.inj hg
  refine ⟨hb,?_,_,hc,rfl⟩
  rcases Nat.lt_or_ge g' W.heap.size with hlt|hge
  ·exact hlt
  ·rw [Array.getElem?_eq_none hge] at hc;cases hc
theorem owns_apart {W:World} {b1 b2 e1 e2 s1 s2 n1 n2:Nat} {v1 v2:Value} {x1 x2:List Value} (h1:W.ownsRow b1 e1 s1 v1 n1 x1) (h2:W.ownsRow b2 e2 s2 v2 n2 x2) (he:e1≠e2):v2.ownBlock=none∨v2.ownBlock≠v1.ownBlock:=by
 rcases h2.2 with ⟨rfl,_⟩|⟨g2,_,_,rfl,_,hc2,_⟩
 ·exact .inl rfl
 ·rcases h1.2 with ⟨rfl,_⟩|⟨g1,_,_,rfl,_,hc1,_⟩
  ·exact .inr (fun e=>by cases e)
  ·refine .inr fun e=>?_
   have e':g2=g1:=Option.some.inj e
   subst e'
   rw [hc1] at hc2
   have:=Option.some.inj hc2
   injection this with _ h _
   exact he h
theorem owns_slice {W:World} {base e s n:Nat} {v:Value} {xs:List Value} (h:W.ownsRow base e s v n xs):∃A c,v=.slice A n c:=by
 rcases h.2 with ⟨rfl,rfl⟩|⟨g,cap,cur,rfl,_⟩
 ·exact ⟨none,0,rfl⟩
 ·exact ⟨_,_,rfl⟩
theorem row_apart {W:World} {base e s n g t:Nat} {v:Value} {xs cs:List Value} (ho:W.ownsRow base e s v n xs) (hr:RowL W g t cs) (h:t≠e):some g≠v.ownBlock:=fun eq=>by
 rcases ho.2 with ⟨rfl,_⟩|⟨g',cap,cur,rfl,_,hc,_⟩
 ·cases eq
 ·have:g=g':=Option.some.inj eq
  subst this
  rw [show W.heap[g]?=_ from hr] at hc
  have:=Option.some.inj hc
  injection this with _ h' _
  exact h h'
def markD (D:Nat):Deferred:={target:=.collected D,args:=#[]}
def Marks (base:Nat) (Ds:List Nat) (W:World):Prop:=Ds.Pairwise (fun a b=>b < a)∧∀D,D∈Ds→base≤D∧W.heap[D]?=some (.deferred (some []))
theorem Marks.none_ (base:Nat) (W:World):Marks base [] W:=⟨List.Pairwise.nil,fun _ h=>by cases h⟩
theorem Marks.lt {base:Nat} {Ds:List Nat} {W:World} (h:Marks base Ds W):∀D,D∈Ds→D < W.heap.size:=fun D hD=>(Array.getElem?_eq_some_iff.1 (h.2 D hD).2).1
theorem Marks.more {base D:Nat} {Ds:List Nat} {W:World} (h:Marks base Ds W) (hD:∀D',D'∈Ds→D' < D) (hb:base≤D) (ho:W.heap[D]?=some (.deferred (some []))):Marks base (D::Ds) W :=
 ⟨List.Pairwise.cons (fun b hb=>hD b hb) h.1,fun D' h'=>by
  rcases List.mem_cons.1 h' with rfl|h'
  ·exact ⟨hb,ho⟩
  ·exact h.2 D' h'⟩
theorem Marks.on {base:Nat} {Ds:List Nat} {W W':World} (h:Marks base Ds W) (hb:Below W.heap.size W W'):Marks base Ds W':=⟨h.1,fun D hD=>⟨(h.2 D hD).1,(hb.block D (h.lt D hD)).trans (h.2 D hD).2⟩⟩
theorem Marks.under {base B:Nat} {Ds:List Nat} {W W':World} (h:Marks base Ds W) (hB:∀D,D∈Ds→D < B) (hb:Below B W W'):Marks base Ds W':=⟨h.1,fun D hD=>⟨(h.2 D hD).1,(hb.block D (hB D hD)).trans (h.2 D hD).2⟩⟩
theorem Marks.grown {base:Nat} {Ds:List Nat} {W W':World} {row:Option Nat} (h:Marks base Ds W) (hg:W.grownBy W' row) (hr:∀r,row=some r→r∉Ds):Marks base Ds W':=⟨h.1,fun D hD=>⟨(h.2 D hD).1,(hg.block D (h.lt D hD) (fun e=>hr D e.symm hD)).trans (h.2 D hD).2⟩⟩
theorem Marks.notin {base g:Nat} {Ds:List Nat} {W:World} {o:Obj} (h:Marks base Ds W) (ho:W.heap[g]?=some o) (hn:∀x,o≠.deferred x):g∉Ds:=fun hm=>by
 have:=(h.2 g hm).2
 rw [ho] at this
 exact hn _ (Option.some.inj this)
theorem Marks.row {base g t:Nat} {cs:List Value} {Ds:List Nat} {W:World} (h:Marks base Ds W) (hr:RowL W g t cs):g∉Ds:=h.notin (o:=.cells cs.toArray t (0,0)) hr (fun x e=>by cases e)
def Unmarked (Ds:List Nat) (W W':World):Prop:=W'.os=W.os∧W'.tape=W.tape∧W'.output=W.output∧W'.heap.size=W.heap.size∧∀j,j∉Ds→W'.heap[j]?=W.heap[j]?
theorem Unmarked.row {Ds:List Nat} {W W':World} {g t:Nat} {cs:List Value} (h:Unmarked Ds W W') (hr:RowL W g t cs) (hg:g∉Ds):RowL W' g t cs:=(h.2.2.2.2 g hg).trans hr
theorem Unmarked.under {base B:Nat} {Ds:List Nat} {W W' W0:World} (h:Unmarked Ds W W') (hm:Marks base Ds W) (hB:B≤base) (hb:Below B W0 W):Below B W0 W' :=
 ⟨h.1.trans hb.os,h.2.1.trans hb.tape,h.2.2.1.trans hb.output,by rw [h.2.2.2.1];exact hb.size,fun k hk=>(h.2.2.2.2 k (fun hD=>by have:=(hm.2 k hD).1;omega)).trans (hb.block k hk)⟩
theorem Unmarked.below {base:Nat} {Ds:List Nat} {W W' W0:World} (h:Unmarked Ds W W') (hm:Marks base Ds W) (hb:Below base W0 W):Below base W0 W' :=
 ⟨h.1.trans hb.os,h.2.1.trans hb.tape,h.2.2.1.trans hb.output,by rw [h.2.2.2.1];exact hb.size,fun k hk=>(h.2.2.2.2 k (fun hD=>by have:=(hm.2 k hD).1;omega)).trans (hb.block k hk)⟩
theorem leaves_marks {F:Fence} {n:Nat} {P:Program} {fn:Func} {tmps:Array Value} {R:Ending→World→Prop} {base:Nat}:∀(Ds:List Nat) (W:World),Marks base Ds W→(∀W',Unmarked Ds W W'→LeavesIn F n P fn tmps R [] .returning W')→LeavesInM F n P fn tmps R (Ds.map markD) .returning W:=by
 intro Ds
 induction Ds with
 | nil=>exact fun W _ h=>h W ⟨rfl,rfl,rfl,rfl,fun _ _=>rfl⟩
 | cons D r ih =>
  intro W hm h
  have hD:=hm.2 D List.mem_cons_self
  refine ⟨by simp,.inl ⟨D,W.putObj D (.deferred none),rfl,run_takeDeferred hD.2,?_⟩⟩
  have hg:=grownBy_putObj' W D (.deferred none)
  have hlt:=(Array.getElem?_eq_some_iff.1 hD.2).1
  have hsz:(W.putObj D (.deferred none)).heap.size=W.heap.size:=by simp [World.putObj]
  refine ih _ ⟨(List.pairwise_cons.1 hm.1).2,fun D' h'=>⟨(hm.2 D' (List.mem_cons_of_mem _ h')).1,?_⟩⟩ fun W' hu=>h W' ⟨hu.1.trans hg.os,hu.2.1.trans hg.tape,hu.2.2.1.trans hg.output,hu.2.2.2.1.trans hsz,fun j hj=>?_⟩
  ·have hne:=(List.pairwise_cons.1 hm.1).1 D' h'
   have hm':=hm.2 D' (List.mem_cons_of_mem _ h')
   exact (hg.block D' ((Array.getElem?_eq_some_iff.1 hm'.2).1) (pu5 (by omega))).trans hm'.2
  ·rw [List.mem_cons,not_or] at hj
   rw [hu.2.2.2.2 j hj.2]
   rcases Nat.lt_or_ge j W.heap.size with hj2|hj2
   ·exact hg.block j hj2 (fun e=>hj.1 (Option.some.inj e))
   ·rw [Array.getElem?_eq_none (by rw [hsz];exact hj2),Array.getElem?_eq_none hj2]
end Go.Proofs.YtpndfahgflgocaaGreatDoor

namespace Go.Proofs.YtpndfahgflgocaaGreatDoor
open Go.RowKit Go.Shelf Plain

def nodC (x:NodV) (d e:Value):List Value:=[.int .i64 x.k,.int .i64 x.p,.int .i64 x.n,.int .i64 x.g,d,e,.int .i64 x.att.h,.int .i64 x.att.o,.string ⟨x.att.r.toArray⟩,.int .i64 x.att.l,.int .i64 x.att.i,.int .i64 x.att.g,.int .i64 x.att.s]
def NodR (w:World) (D:Nat→Prop) (cs:List Value) (x:NodV):Prop:=∃A n c C m d,cs=nodC x (.slice A n c) (.slice C m d)∧n≤c∧RdE Enc.byte w D A n x.data∧m≤d∧RdE entEn w D C m x.ents
theorem NodR.mono {w w':World} {D D':Nat→Prop} {cs:List Value} {x:NodV} (h:NodR w D cs x) (hk:Kept D w w') (hD:∀b,D b→D' b):NodR w' D' cs x:=by
 obtain ⟨A,n,c,C,m,d,h1,h2,h3,h4,h5⟩:=h
 exact ⟨A,n,c,C,m,d,h1,h2,h3.mono hk hD,h4,h5.mono hk hD⟩
def nodEn : Enc NodV where
 k:=13
 R:=NodR
 len:=fun ⟨_,_,_,_,_,_,h,_⟩=>by rw [h];rfl
 one:=fun ⟨_,_,_,_,_,_,h,_⟩ v hv=>by
  rw [h] at hv
  simp only [nodC,List.mem_cons,List.not_mem_nil,or_false] at hv
  rcases hv with rfl|rfl|rfl|rfl|rfl|rfl|rfl|rfl|rfl|rfl|rfl|rfl|rfl <;> rfl
 mono:=NodR.mono
theorem RdE.get_nod {w:World} {D:Nat→Prop} {A:Option Addr} {n:Nat} {l:List NodV} (h:RdE nodEn w D A n l) {i:Nat} {x:NodV} (hx:l[i]?=some x) :
  ∃b o cs,A=some ⟨b,o,none⟩∧D b∧NodR w D cs x∧∀j v,cs[j]?=some v→w.cell? ⟨b,o+i*13+j,none⟩=some v:=by
 have hi:=(List.getElem?_eq_some_iff.1 hx).1
 obtain ⟨b,o,e,hb,hc⟩:=h.2 (by have:=h.1;omega)
 obtain ⟨cs,hcs,hcell⟩:=hc i x hx
 refine ⟨b,o,cs,e,hb,hcs,fun j v hv=>?_⟩
 have:=hcell j v hv
 rwa [show o+(i*nodEn.k+j)=o+i*13+j from by show o+(i*13+j)=o+i*13+j;omega] at this
set_option maxRecDepth 100000 in
theorem nod_agg:∀w,(isAgg 51).run Tryz.prog w=.ok true w:=fun w=>by kernel_rfl
set_option maxRecDepth 100000 in
theorem nod_size:∀w,(Go.sizeOf 51).run Tryz.prog w=.ok 13 w:=fun w=>by kernel_rfl
theorem nodC_one (x:NodV) (A C:Option Addr) (n c m d:Nat):∀v∈nodC x (.slice A n c) (.slice C m d),v.oneCell'=true:=by simp [nodC,Value.oneCell']
def NodRet (w:World) (B:Nat) (x:NodV) (e:Ending) (w':World):Prop:=∃A n c C m d,e=.returned (.agg (nodC x (.slice A n c) (.slice C m d)).toArray)∧n≤c∧RdE Enc.byte w' (Under B) A n x.data∧m≤d∧RdE entEn w' (Under B) C m x.ents∧Below w.heap.size w w'
theorem RdE.under {α:Type} {E:Enc α} {w w':World} {B:Nat} {A:Option Addr} {n:Nat} {l:List α} (h:RdE E w (Under B) A n l) (hb:Below w.heap.size w w') (hB:B≤w.heap.size):RdE E w' (Under B) A n l :=
 h.mono (Kept.of_below hb fun _ h=>Nat.lt_of_lt_of_le h hB) fun _ h=>h
theorem NodRet.of {w w':World} {B:Nat} {x:NodV} {A C:Option Addr} {n c m d:Nat} (hn:n≤c) (h1:RdE Enc.byte w (Under B) A n x.data) (hm:m≤d) (h2:RdE entEn w (Under B) C m x.ents) (hb:Below w.heap.size w w') (hB:B≤w.heap.size):NodRet w B x (.returned (.agg (nodC x (.slice A n c) (.slice C m d)).toArray)) w' :=
 ⟨A,n,c,C,m,d,rfl,hn,h1.under hb hB,hm,h2.under hb hB,hb⟩
def inN (ns:List NodV) (i:Int):Bool:=decide (1≤i)&&decide (i≤(ns.length:Int))
def WkN (w:World) (B g:Nat) (ns:List NodV):Prop:=∃A n c,w.cell? ⟨g,0,none⟩=some (.slice A n c)∧RdE nodEn w (Under B) A n ns
theorem WkN.on {w w':World} {B g:Nat} {ns:List NodV} (h:WkN w B g ns) (hb:Below w.heap.size w w') (hB:B≤w.heap.size) (hg:g < w.heap.size):WkN w' B g ns:=by
 obtain ⟨A,n,c,h1,h2⟩:=h
 exact ⟨A,n,c,(hb.cell (p:=⟨g,0,none⟩) hg).trans h1,h2.under hb hB⟩
set_option maxHeartbeats 800000 in
theorem has_any {B g:Nat} {ns:List NodV} {i:Int} (w:World) (h:WkN w B g ns):Calls Tryz.prog 86 #[.pointer (some ⟨g,0,none⟩),.int .i64 i] w (fun e w'=>e=.returned (.bool (inN ns i))∧w'=w):=by
 obtain ⟨A,n,c,hc,hr⟩:=h
 have hl:=hr.1
 by_cases h1:1≤i
 ·by_cases h2:i≤(n:Int)
  ·have e:inN ns i=true:=by unfold inN;rw [hl];simp [h1,h2]
   have d1:decide (1≤i)=true:=by simpa using h1
   have d2:decide (i≤(n:Int))=true:=by simpa using h2
   rw [e]
   clear hr hl e
   go_enter Tryz.func86,Tryz.ntmps86
   go_wp2
   go_ret
   exact ⟨rfl,rfl⟩
  ·have e:inN ns i=false:=by unfold inN;rw [hl];simp [h2]
   have d1:decide (1≤i)=true:=by simpa using h1
   have d2:decide (i≤(n:Int))=false:=by simpa using h2
   rw [e]
   clear hr hl e
   go_enter Tryz.func86,Tryz.ntmps86
   go_wp2
   go_ret
   exact ⟨rfl,rfl⟩
 ·have e:inN ns i=false:=by unfold inN;simp [h1]
  have d1:decide (1≤i)=false:=by simpa using h1
  rw [e]
  clear hr hl e
  go_enter Tryz.func86,Tryz.ntmps86
  go_wp2
  go_ret
  exact ⟨rfl,rfl⟩
theorem has_e {B g:Nat} {ns:List NodV} {i:Int} {b:Bool} (h0:inN ns i=b) (w:World) (h:WkN w B g ns):Calls Tryz.prog 86 #[.pointer (some ⟨g,0,none⟩),.int .i64 i] w (fun e w'=>e=.returned (.bool b)∧w'=w):=by rw [←h0];exact has_any w h
end Go.Proofs.YtpndfahgflgocaaGreatDoor

namespace Go.Proofs.YtpndfahgflgocaaGreatDoor
open Go.RowKit Plain

theorem run_tw {ns : List NodV} (h : Many ns) : ∀ (f p : Nat) (s : StW), p ≤ s.1.length → s.2.length ≤ 16 * p → (runW ns f p s).2.length ≤ 16 * (runW ns f p s).1.length
 | 0,p,s,h1,h2=>by show s.2.length≤16*s.1.length;omega
 | f+1,p,s,h1,h2=>by
  unfold runW
  split
  ·have h3:=visit_tw h p s
   have h4:=(visit_pre (ns:=ns) (p:=p) (s:=s)).length_le
   exact run_tw h f _ _ (by omega) (by omega)
  ·omega
theorem root_tw {ns:List NodV} (h:Many ns) {s:StW} {i:Int} (hs:s.2.length≤16*s.1.length):(rootW ns s i).2.length≤16*(rootW ns s i).1.length:=by
 unfold rootW
 split
 ·exact run_tw h _ _ _ (by simp) (by simpa using hs)
 ·exact hs
theorem walk_tw {ns:List NodV} (h:Many ns) (ff:List Int):(walkW ns ff).2.length≤16*(walkW ns ff).1.length:=foldl_keep (P:=fun s:StW=>s.2.length≤16*s.1.length) _ _ (by simp) (fun _ _ _ hs=>root_tw h hs)

def reachW (ns:List NodV) (l:List WayV) (i:Int):Bool:=l.any (fun y=>y.ino==i||(nodAt ns y.ino).ents.any (fun e=>e.ino==i))
def keepE (t:List (Int×Nat)) (i:Int) (l:List EntV):List EntV:=(l.zipIdx.filter (fun x=>!t.contains (i,x.2))).map (fun x=>x.1)
def pruneN (t:List (Int×Nat)) (r:Bool) (i:Int) (n:NodV):NodV:=if r then {n with ents:=keepE t i n.ents} else nod0
def pruneW (ns:List NodV) (s:StW):List NodV:=ns.mapIdx (fun j n=>pruneN s.2 (reachW ns s.1 ((j:Int)+1)) ((j:Int)+1) n)

theorem fold_sim (d:Int) (p:Nat):∀(xs:List (EntV×Nat)) (s:StW),(xs.map (fun x=>x.2)).Nodup→(∀x∈xs,(d,x.2)∉s.2) →
  (xs.filter (fun x=>!(xs.foldl (oneW d p) s).2.contains (d,x.2))).foldl (oneW d p) (s.1,[])=((xs.foldl (oneW d p) s).1,[])∧(∀q∈s.2,q∈(xs.foldl (oneW d p) s).2)∧(∀q∈(xs.foldl (oneW d p) s).2,q∈s.2∨∃x∈xs,q=(d,x.2)):=by
 intro xs
 induction xs with
 | nil=>intro s _ _;exact ⟨rfl,fun q h=>h,fun q h=>.inl h⟩
 | cons x r ih =>
  intro s hn hs
  rw [List.map_cons,List.nodup_cons] at hn
  have hx:∀y∈r,y.2≠x.2:=fun y hy e=>hn.1 (by rw [←e];exact List.mem_map_of_mem hy)
  simp only [List.foldl_cons]
  cases hc:cameW s.1 x.1.ino with
  | true =>
   have h1:oneW d p s x=(s.1,s.2++[(d,x.2)]):=by unfold oneW;rw [if_pos hc]
   rw [h1]
   obtain ⟨i1,i2,i3⟩:=ih (s.1,s.2++[(d,x.2)]) hn.2 (fun y hy h=>by
    rcases List.mem_append.1 h with h|h
    ·exact hs y (List.mem_cons_of_mem _ hy) h
    ·rw [List.mem_singleton] at h;exact hx y hy (Prod.mk.inj h).2)
   have hm:(d,x.2)∈(List.foldl (oneW d p) (s.1,s.2++[(d,x.2)]) r).2:=i2 _ (by simp)
   refine ⟨?_,fun q hq=>i2 q (List.mem_append_left _ hq),fun q hq=>?_⟩
   ·rw [List.filter_cons_of_neg (by simpa using hm)]
    exact i1
   ·rcases i3 q hq with h|⟨y,hy,e⟩
    ·rcases List.mem_append.1 h with h|h
     ·exact .inl h
     ·rw [List.mem_singleton] at h;exact .inr ⟨x,List.mem_cons_self,h⟩
    ·exact .inr ⟨y,List.mem_cons_of_mem _ hy,e⟩
  | false =>
   have h1:oneW d p s x=(s.1++[⟨x.1.ino,p,x.1.name⟩],s.2):=by unfold oneW;rw [hc];rfl
   rw [h1]
   obtain ⟨i1,i2,i3⟩:=ih (s.1++[⟨x.1.ino,p,x.1.name⟩],s.2) hn.2 (fun y hy=>hs y (List.mem_cons_of_mem _ hy))
   have hm:(d,x.2)∉(List.foldl (oneW d p) (s.1++[⟨x.1.ino,p,x.1.name⟩],s.2) r).2:=by
    intro h
    rcases i3 _ h with h|⟨y,hy,e⟩
    ·exact hs x List.mem_cons_self h
    ·exact hx y hy (Prod.mk.inj e).2.symm
   refine ⟨?_,i2,fun q hq=>?_⟩
   ·rw [List.filter_cons_of_pos (by simpa using hm),List.foldl_cons]
    have h2:oneW d p (s.1,[]) x=(s.1++[⟨x.1.ino,p,x.1.name⟩],[]):=by unfold oneW;rw [show (s.1,([]:List (Int×Nat))).1=s.1 from rfl,hc];rfl
    rw [h2]
    exact i1
   ·rcases i3 q hq with h|⟨y,hy,e⟩
    ·exact .inl h
    ·exact .inr ⟨y,List.mem_cons_of_mem _ hy,e⟩
theorem one_more (d : Int) (p : Nat) (l : List WayV) (t : List (Int × Nat)) : ∀ (xs : List (EntV × Nat)) (s : StW), s.2 ≠ [] → (xs.foldl (oneW d p) s).2 ≠ []
 | [],_,h=>h
 | x::r,s,h=>one_more d p l t r _ (by unfold oneW;split <;> simp [h])
theorem fold_same (d:Int) (p:Nat):∀(xs ys:List (EntV×Nat)) (l:List WayV),xs.map (fun x=>x.1)=ys.map (fun x=>x.1)→(xs.foldl (oneW d p) (l,[])).2=[]→ys.foldl (oneW d p) (l,[])=xs.foldl (oneW d p) (l,[]):=by
 intro xs
 induction xs with
 | nil =>
  intro ys l h _
  have:ys=[]:=by cases ys with|nil=>rfl|cons y r=>simp at h
  rw [this]
 | cons x r ih =>
  intro ys l h h0
  cases ys with
  | nil=>simp at h
  | cons y q =>
   simp only [List.map_cons,List.cons.injEq] at h
   simp only [List.foldl_cons] at h0 ⊢
   cases hc:cameW l x.1.ino with
   | true =>
    exfalso
    refine one_more d p [] [] r (oneW d p (l,[]) x) ?_ h0
    unfold oneW
    simp [hc]
   | false =>
    have h1:oneW d p (l,[]) x=(l++[⟨x.1.ino,p,x.1.name⟩],[]):=by unfold oneW;simp [hc]
    have h2:oneW d p (l,[]) y=(l++[⟨x.1.ino,p,x.1.name⟩],[]):=by unfold oneW;rw [←h.1];simp [hc]
    rw [h1] at h0 ⊢
    rw [h2]
    exact ih q _ h.2 h0

def AheadW (p:Nat) (s:StW):Prop:=∀q∈s.2,∃j y,j < p∧s.1[j]?=some y∧y.ino=q.1
def AddsW (p:Nat) (s r:StW):Prop:=s.1 <+: r.1∧(∀q∈s.2,q∈r.2)∧∀q∈r.2,q∈s.2∨∃j y,p≤j∧r.1[j]?=some y∧y.ino=q.1
theorem AddsW.refl (p:Nat) (s:StW):AddsW p s s:=⟨List.prefix_refl _,fun _ h=>h,fun _ h=>.inl h⟩
theorem pre_get {l r:List WayV} {j:Nat} {y:WayV} (h:l <+: r) (hy:l[j]?=some y):r[j]?=some y:=by
 obtain ⟨t,rfl⟩:=h
 rw [List.getElem?_append_left (List.getElem?_eq_some_iff.1 hy).1]
 exact hy
theorem AddsW.trans {p p':Nat} {s r u:StW} (h:AddsW p s r) (k:AddsW p' r u) (hp:p≤p'):AddsW p s u:=by
 refine ⟨h.1.trans k.1,fun q hq=>k.2.1 q (h.2.1 q hq),fun q hq=>?_⟩
 rcases k.2.2 q hq with h1|⟨j,y,h1,h2,h3⟩
 ·rcases h.2.2 q h1 with h1|⟨j,y,h1,h2,h3⟩
  ·exact .inl h1
  ·exact .inr ⟨j,y,h1,pre_get k.1 h2,h3⟩
 ·exact .inr ⟨j,y,by omega,h2,h3⟩
theorem AheadW.mono {p p':Nat} {s:StW} (h:AheadW p s) (hp:p≤p'):AheadW p' s:=fun q hq=>by
 obtain ⟨j,y,h1,h2,h3⟩:=h q hq
 exact ⟨j,y,by omega,h2,h3⟩
theorem AheadW.adds {p p':Nat} {s r:StW} (h:AheadW p s) (k:∀q∈r.2,q∈s.2∨∃j y,j < p'∧r.1[j]?=some y∧y.ino=q.1) (hs:s.1 <+: r.1) (hp:p≤p'):AheadW p' r:=fun q hq=>by
 rcases k q hq with h1|h1
 ·obtain ⟨j,y,h2,h3,h4⟩:=h q h1
  exact ⟨j,y,by omega,pre_get hs h3,h4⟩
 ·exact h1
theorem dirsOf_nodup (ns:List NodV) (l:List EntV):((dirsOf ns l).map (fun x=>x.2)).Nodup:=by
 unfold dirsOf
 refine List.Nodup.sublist ((List.filter_sublist).map _) ?_
 rw [List.zipIdx_map_snd]
 exact List.nodup_range'
theorem nodup_get {l:List WayV} (h:(l.map WayV.ino).Nodup) {i j:Nat} {x y:WayV} (hx:l[i]?=some x) (hy:l[j]?=some y) (e:x.ino=y.ino):i=j:=by
 have h1:(l.map WayV.ino)[i]?=some x.ino:=by rw [List.getElem?_map,hx];rfl
 have h2:(l.map WayV.ino)[j]?=some x.ino:=by rw [List.getElem?_map,hy,e];rfl
 obtain ⟨hi,h3⟩:=List.getElem?_eq_some_iff.1 h1
 obtain ⟨hj,h4⟩:=List.getElem?_eq_some_iff.1 h2
 have hp:=List.pairwise_iff_getElem.1 h
 rcases Nat.lt_trichotomy i j with hlt|he|hgt
 ·exact absurd (h3.trans h4.symm) (hp i j hi hj hlt)
 ·exact he
 ·exact absurd (h4.trans h3.symm) (hp j i hj hi hgt)
theorem fresh_dir {ns:List NodV} {p:Nat} {s:StW} {y:WayV} (ho:OkW ns s.1) (ha:AheadW p s) (hy:s.1[p]?=some y) (k:Nat):(y.ino,k)∉s.2:=by
 intro h
 obtain ⟨j,z,h1,h2,h3⟩:=ha _ h
 have:=nodup_get ho.2 h2 hy h3
 omega
theorem visit_adds {ns:List NodV} {p:Nat} {s:StW} (ho:OkW ns s.1) (ha:AheadW p s):AddsW p s (visitW ns p s)∧AheadW (p+1) (visitW ns p s):=by
 unfold visitW
 cases hy:s.1[p]? with
 | none=>exact ⟨AddsW.refl _ _,ha.mono (by omega)⟩
 | some y =>
  have hsim:=fold_sim y.ino p (dirsOf ns (nodAt ns y.ino).ents) s (dirsOf_nodup _ _) (fun x _=>fresh_dir ho ha hy x.2)
  have hpre:s.1 <+: ((dirsOf ns (nodAt ns y.ino).ents).foldl (oneW y.ino p) s).1:=foldl_keep (P:=fun t:StW=>s.1 <+: t.1) _ _ (List.prefix_refl _) (fun _ _ _ hs=>hs.trans one_pre)
  have hq:∀q∈((dirsOf ns (nodAt ns y.ino).ents).foldl (oneW y.ino p) s).2,q∈s.2∨(((dirsOf ns (nodAt ns y.ino).ents).foldl (oneW y.ino p) s).1[p]?=some y∧y.ino=q.1):=fun q hq=>by
   rcases hsim.2.2 q hq with h|⟨x,_,rfl⟩
   ·exact .inl h
   ·exact .inr ⟨pre_get hpre hy,rfl⟩
  refine ⟨⟨hpre,hsim.2.1,fun q h=>?_⟩,ha.adds (fun q h=>?_) hpre (by omega)⟩
  ·rcases hq q h with h1|⟨h1,h2⟩
   ·exact .inl h1
   ·exact .inr ⟨p,y,Nat.le_refl _,h1,h2⟩
  ·rcases hq q h with h1|⟨h1,h2⟩
   ·exact .inl h1
   ·exact .inr ⟨p,y,by omega,h1,h2⟩
theorem run_adds {ns : List NodV} : ∀ (f p : Nat) (s : StW), OkW ns s.1 → AheadW p s → p ≤ s.1.length → AddsW p s (runW ns f p s) ∧ AheadW (runW ns f p s).1.length (runW ns f p s)
 | 0,p,s,_,ha,hp=>⟨AddsW.refl _ _,ha.mono hp⟩
 | f+1,p,s,ho,ha,hp=>by
  unfold runW
  split
  ·obtain ⟨h1,h2⟩:=visit_adds ho ha
   have h3:=run_adds f (p+1) _ (visit_ok (p:=p) ho) h2 (by have:=h1.1.length_le;omega)
   exact ⟨h1.trans h3.1 (by omega),h3.2⟩
  ·exact ⟨AddsW.refl _ _,ha.mono hp⟩
theorem root_adds {ns:List NodV} {s:StW} {i:Int} (ho:OkW ns s.1) (ha:AheadW s.1.length s):AddsW s.1.length s (rootW ns s i)∧AheadW (rootW ns s i).1.length (rootW ns s i):=by
 unfold rootW
 split
 ·rename_i hc
  rw [Bool.and_eq_true,Bool.not_eq_true'] at hc
  have hpre:s.1 <+: s.1++[⟨i,-1,[]⟩]:=List.prefix_append _ _
  have ha':AheadW s.1.length (s.1++[⟨i,-1,[]⟩],s.2):=ha.adds (fun q h=>.inl h) hpre (Nat.le_refl _)
  obtain ⟨h1,h2⟩:=run_adds (ns.length - s.1.length) s.1.length _ (ho.snoc (x:=⟨i,-1,[]⟩) hc.1 hc.2) ha' (by simp)
  exact ⟨AddsW.trans (s:=s) (r:=(s.1++[⟨i,-1,[]⟩],s.2)) ⟨hpre,fun _ h=>h,fun _ h=>.inl h⟩ h1 (Nat.le_refl _),h2⟩
 ·exact ⟨AddsW.refl _ _,ha⟩
end Go.Proofs.YtpndfahgflgocaaGreatDoor

