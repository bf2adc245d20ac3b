import Derived.Test.YtpndfahgflgocaaDoorXn3

namespace Go.Proofs.YtpndfahgflgocaaDoor
open Go.RowKit

section
variable {P : Program} {T k : Nat}
theorem run_loadAt_row (hag:∀w,(isAgg T).run P w=.ok true w) (hsz:∀w,(sizeOf T).run P w=.ok k w) {w:World} {g t off:Nat} {cur cs:List Value} (h:RowL w g t cur) (hc:(cur.drop off).take k=cs) (hk:cs.length=k) :
  (Instr.loadAt T (.pointer (some ⟨g,off,none⟩))).run P w=.ok (.agg cs.toArray) w:=by
 have hl:=run_loadCells_list (P:=P) w ⟨g,off,none⟩ cs (fun j v hv=>by
  have hj:j < cs.length:=(List.getElem?_eq_some_iff.1 hv).1
  rw [Addr.add_lit,h.cell,←hv,←hc,List.getElem?_take_of_lt (by omega),List.getElem?_drop])
 rw [hk] at hl
 simp [Instr.loadAt,Instr.sureAddr,loadVar,hag,hsz,hl]
theorem run_storeAt_row (hsz:∀w,(sizeOf T).run P w=.ok k w) {w:World} {g t off:Nat} {cur cs:List Value} (h:RowL w g t cur) (hk:cs.length=k) (hfit:off+k≤cur.length) (h1:∀v∈cs,v.oneCell'=true) :
  (Instr.storeAt T (.pointer (some ⟨g,off,none⟩)) (.agg cs.toArray)).run P w=.ok () (w.setRow g (splice cur off cs).toArray):=by
 have hst:=run_storeCells_at P g off t cs 0 cur.toArray w h (by simp;omega) h1
 simp only [Nat.add_zero] at hst
 simp [Instr.storeAt,Instr.sureAddr,storeVar,hsz,Value.cells,hk,hst,splice]
theorem RowL.setRow_ {w:World} {g t:Nat} {cur:List Value} (h:RowL w g t cur) (new:List Value):RowL (w.setRow g new.toArray) g t new:=setRow_heap w g cur.toArray new.toArray t (0,0) h
theorem grownBy_setRow (w:World) (g:Nat) (new:Array Value):w.grownBy (w.setRow g new) (some g):=⟨rfl,rfl,rfl,by simp,fun j _ hj=>setRow_other w g j new (fun e=>hj (by rw [e]))⟩

theorem wpList_loadC {w : World} {ops : Array Oper} {rest : List Oper} {o : Oper} {a : Act} {Q : Exit → Act → World → Prop} (hgd : o.guard = none) (T : Nat) (x : Operand) (ho : o.op = .load T x)
  (k:Nat) (hag:∀w,(isAgg T).run P w=.ok true w) (hsz:∀w,(sizeOf T).run P w=.ok k w) (g off t:Nat) (hx:a.eval x=.pointer (some ⟨g,off,none⟩)) (cur cs:List Value) (h:RowL w g t cur) (hc:(cur.drop off).take k=cs) (hk:cs.length=k)
  (hK:wpList P ops Q rest (a.put o.dst (.agg cs.toArray)) w):wpList P ops Q (o::rest) a w:=by
 refine wpList_plain hgd fun K hK'=>?_
 have hr:=run_loadAt_row (P:=P) hag hsz h hc hk
 unfold Oper.wp execOp
 simp only [ho,Sem.run_bind,Sem.run_pure,Result.andThen_ok,hx,hr]
 exact hK' _ _ hK
theorem run_loadAt_cells (hag:∀w,(isAgg T).run P w=.ok true w) (hsz:∀w,(sizeOf T).run P w=.ok k w) {w:World} {g off:Nat} {cs:List Value} (h:∀j v,cs[j]?=some v→w.cell? ⟨g,off+j,none⟩=some v) (hk:cs.length=k) :
  (Instr.loadAt T (.pointer (some ⟨g,off,none⟩))).run P w=.ok (.agg cs.toArray) w:=by
 have hl:=run_loadCells_list (P:=P) w ⟨g,off,none⟩ cs (fun j v hv=>by rw [Addr.add_lit];exact h j v hv)
 rw [hk] at hl
 simp [Instr.loadAt,Instr.sureAddr,loadVar,hag,hsz,hl]
theorem wpList_loadX {w : World} {ops : Array Oper} {rest : List Oper} {o : Oper} {a : Act} {Q : Exit → Act → World → Prop} (hgd : o.guard = none) (T : Nat) (x : Operand) (ho : o.op = .load T x)
  (k:Nat) (hag:∀w,(isAgg T).run P w=.ok true w) (hsz:∀w,(sizeOf T).run P w=.ok k w) (g off:Nat) (hx:a.eval x=.pointer (some ⟨g,off,none⟩)) (cs:List Value) (h:∀j v,cs[j]?=some v→w.cell? ⟨g,off+j,none⟩=some v) (hk:cs.length=k)
  (hK:wpList P ops Q rest (a.put o.dst (.agg cs.toArray)) w):wpList P ops Q (o::rest) a w:=by
 refine wpList_plain hgd fun K hK'=>?_
 have hr:=run_loadAt_cells (P:=P) hag hsz h hk
 unfold Oper.wp execOp
 simp only [ho,Sem.run_bind,Sem.run_pure,Result.andThen_ok,hx,hr]
 exact hK' _ _ hK
theorem wp_storeC {w : World} {o : Oper} {a : Act} {K : Act → World → Prop} {Q : Exit → Act → World → Prop} (T : Nat) (x y : Operand) (ho : o.op = .store T x y)
  (k:Nat) (hsz:∀w,(sizeOf T).run P w=.ok k w) (g off t:Nat) (hx:a.eval x=.pointer (some ⟨g,off,none⟩)) (cur cs:List Value) (hy:a.eval y=.agg cs.toArray) (h:RowL w g t cur) (hk:cs.length=k) (hfit:off+k≤cur.length) (h1:∀v∈cs,v.oneCell'=true)
  (hK:∀w',RowL w' g t (splice cur off cs)→w.grownBy w' (some g)→w'.heap.size=w.heap.size→K (a.put o.dst undef) w'):o.wp P a w K Q:=by
 have hr:=run_storeAt_row (P:=P) hsz h hk hfit h1
 unfold Oper.wp execOp
 simp only [ho,Sem.run_bind,Sem.run_pure,Result.andThen_ok,hx,hy,hr]
 exact hK _ (h.setRow_ _) (grownBy_setRow _ _ _) (by simp)
theorem wpList_storeC {w : World} {ops : Array Oper} {rest : List Oper} {o : Oper} {a : Act} {Q : Exit → Act → World → Prop} (hgd : o.guard = none) (T : Nat) (x y : Operand) (ho : o.op = .store T x y)
  (k:Nat) (hsz:∀w,(sizeOf T).run P w=.ok k w) (g off t:Nat) (hx:a.eval x=.pointer (some ⟨g,off,none⟩)) (cur cs:List Value) (hy:a.eval y=.agg cs.toArray) (h:RowL w g t cur) (hk:cs.length=k) (hfit:off+k≤cur.length) (h1:∀v∈cs,v.oneCell'=true)
  (hK:∀w',RowL w' g t (splice cur off cs)→w.grownBy w' (some g)→w'.heap.size=w.heap.size→wpList P ops Q rest (a.put o.dst undef) w'):wpList P ops Q (o::rest) a w:=by
 refine wpList_plain hgd fun K hK'=>?_
 exact wp_storeC T x y ho k hsz g off t hx cur cs hy h hk hfit h1 fun w' h1 h2 h3=>hK' _ _ (hK w' h1 h2 h3)
end
end Go.Proofs.YtpndfahgflgocaaDoor

namespace Go.Proofs.YtpndfahgflgocaaDoor
open Go.RowKit Plain

section
variable {w w' : World} {g t : Nat} {cs : List Value}
theorem RowL.on (h:RowL w g t cs) (hb:Below w.heap.size w w'):RowL w' g t cs:=(hb.block g h.lt).trans h
theorem RowL.drew (h:RowL w g t cs):RowL w.drew g t cs:=h
theorem grown_cell (w:World) (g i:Nat) (u:Value):w.grownBy (w.setCell ⟨g,i,none⟩ u) (some g):=⟨rfl,rfl,rfl,by simp,fun k _ hk=>Below.heap_setCell _ _ _ _ (fun e=>hk (by rw [e]))⟩
theorem RowL.src {off m:Nat} {l:List Value} (h:RowL w g t cs) (hc:(cs.drop off).take m=l) (hm:l.length=m):∀j v,l[j]?=some v→w.cell? ((⟨g,off,none⟩:Addr).add j)=some v:=by
 intro j v hv
 have hj:j < l.length:=(List.getElem?_eq_some_iff.1 hv).1
 rw [Addr.add_lit,h.cell,←hv,←hc,List.getElem?_take_of_lt (by omega),List.getElem?_drop]
theorem below_drew (h:Below w.heap.size w w'):Below w.heap.size w w'.drew:=⟨h.os,h.tape,h.output,h.size,h.block⟩
end
section
variable {P : Program} {T k : Nat}
theorem run_loadRow {w:World} {g t:Nat} {cs:List Value} (h:RowL w g t cs) (hk:cs.length=k):(loadCellsFrom ⟨g,0,none⟩ 0 k #[]).run P w=.ok cs.toArray w:=by
 have hl:=run_loadCells_list (P:=P) w ⟨g,0,none⟩ cs (fun j v hv=>by rw [Addr.add_lit,h.cell,Nat.zero_add,hv])
 rw [hk] at hl
 exact hl
theorem wpList_loadW {w : World} {ops : Array Oper} {rest : List Oper} {o : Oper} {a : Act} {Q : Exit → Act → World → Prop} (hgd : o.guard = none) (T : Nat) (x : Operand) (ho : o.op = .load T x)
  (k:Nat) (hag:∀w,(isAgg T).run P w=.ok true w) (hsz:∀w,(sizeOf T).run P w=.ok k w) (g t:Nat) (hx:a.eval x=.pointer (some ⟨g,0,none⟩)) (cs:List Value) (h:RowL w g t cs) (hk:cs.length=k)
  (hK:wpList P ops Q rest (a.put o.dst (.agg cs.toArray)) w):wpList P ops Q (o::rest) a w :=
 wpList_loadC hgd T x ho k hag hsz g 0 t hx cs cs h (by rw [List.drop_zero,List.take_of_length_le (by omega)]) hk hK
theorem wpList_storeW {w : World} {ops : Array Oper} {rest : List Oper} {o : Oper} {a : Act} {Q : Exit → Act → World → Prop} (hgd : o.guard = none) (T : Nat) (x y : Operand) (ho : o.op = .store T x y)
  (k:Nat) (hsz:∀w,(sizeOf T).run P w=.ok k w) (g t:Nat) (hx:a.eval x=.pointer (some ⟨g,0,none⟩)) (cur cs:List Value) (hy:a.eval y=.agg cs.toArray) (h:RowL w g t cur) (hk:cs.length=k) (hcur:cur.length=k) (h1:∀v∈cs,v.oneCell'=true)
  (hK:∀w',RowL w' g t cs→w.grownBy w' (some g)→w'.heap.size=w.heap.size→wpList P ops Q rest (a.put o.dst undef) w'):wpList P ops Q (o::rest) a w :=
 wpList_storeC hgd T x y ho k hsz g 0 t hx cur cs hy h hk (by omega) h1 fun w' h1 h2 h3=>hK w' (by
  have e:splice cur 0 cs=cs:=by unfold splice;rw [List.take_zero,List.nil_append,List.drop_of_length_le (by omega),List.append_nil]
  rw [e] at h1;exact h1) h2 h3
theorem res_cell {fn : Func} {tmps : Array Value} {w : World} {s g t : Nat} {cs : List Value} (hr : fn.results = #[.cell s T]) (ht : tmps.getD s undef = .pointer (some ⟨g, 0, none⟩)) (hag : ∀ w, (isAgg T).run P w = .ok true w) (hsz : ∀ w, (sizeOf T).run P w = .ok k w)
  (h:RowL w g t cs) (hk:cs.length=k):(results fn tmps).run P w=.ok (.agg cs.toArray) w:=by
 have hl:=run_loadRow (P:=P) h hk
 have ht':tmps[s]?.getD undef=.pointer (some ⟨g,0,none⟩):=by simpa using ht
 simp [results,hr,ht',hag,hsz,hl,go_sem]
end
theorem rows1 (w:World) (c1:List Value) (t1:Nat):RowL (w.alloc (.cells c1.toArray t1)) w.heap.size t1 c1∧Below w.heap.size w (w.alloc (.cells c1.toArray t1))∧(w.alloc (.cells c1.toArray t1)).heap.size=w.heap.size+1 :=
 ⟨RowL.new w t1 c1,below_new (below_self w) _,by simp⟩
theorem rows2 (w:World) (c1 c2:List Value) (t1 t2:Nat):RowL ((w.alloc (.cells c1.toArray t1)).alloc (.cells c2.toArray t2)) w.heap.size t1 c1∧RowL ((w.alloc (.cells c1.toArray t1)).alloc (.cells c2.toArray t2)) (w.heap.size+1) t2 c2 ∧
  Below w.heap.size w ((w.alloc (.cells c1.toArray t1)).alloc (.cells c2.toArray t2))∧((w.alloc (.cells c1.toArray t1)).alloc (.cells c2.toArray t2)).heap.size=w.heap.size+2:=by
 obtain ⟨h1,h2,h3⟩:=rows1 w c1 t1
 obtain ⟨k1,k2,k3⟩:=rows1 (w.alloc (.cells c1.toArray t1)) c2 t2
 rw [h3] at k1
 exact ⟨h1.on k2,k1,below_step h2 k2,by rw [k3,h3]⟩
theorem rows3 (w:World) (c1 c2 c3:List Value) (t1 t2 t3:Nat):RowL (((w.alloc (.cells c1.toArray t1)).alloc (.cells c2.toArray t2)).alloc (.cells c3.toArray t3)) w.heap.size t1 c1∧RowL (((w.alloc (.cells c1.toArray t1)).alloc (.cells c2.toArray t2)).alloc (.cells c3.toArray t3)) (w.heap.size+1) t2 c2 ∧
  RowL (((w.alloc (.cells c1.toArray t1)).alloc (.cells c2.toArray t2)).alloc (.cells c3.toArray t3)) (w.heap.size+1+1) t3 c3 ∧
  Below w.heap.size w (((w.alloc (.cells c1.toArray t1)).alloc (.cells c2.toArray t2)).alloc (.cells c3.toArray t3))∧(((w.alloc (.cells c1.toArray t1)).alloc (.cells c2.toArray t2)).alloc (.cells c3.toArray t3)).heap.size=w.heap.size+3:=by
 obtain ⟨h1,h2,h3,h4⟩:=rows2 w c1 c2 t1 t2
 obtain ⟨k1,k2,k3⟩:=rows1 ((w.alloc (.cells c1.toArray t1)).alloc (.cells c2.toArray t2)) c3 t3
 rw [h4] at k1
 exact ⟨h1.on k2,h2.on k2,k1,below_step h3 k2,by rw [k3,h4]⟩
end Go.Proofs.YtpndfahgflgocaaDoor

