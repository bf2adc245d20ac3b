import Derived.Test.YtnhegahpfacdgaaDoorHf9

namespace Go.Proofs.YtnhegahpfacdgaaDoor
open Go.RowKit Plain

section
variable {w w' : World} {g t : Nat} {cs : List Value}
theorem RowL.on (h:RowL w g t cs) (hb:Below w.heap.size w w'):RowL w' g t cs:=(hb.block g h.lt).trans h
theorem RowL.drew (h:RowL w g t cs):RowL w.drew g t cs:=h
theorem grown_cell (w:World) (g i:Nat) (u:Value):w.grownBy (w.setCell ⟨g,i,none⟩ u) (some g):=⟨rfl,rfl,rfl,by simp,fun k _ hk=>Below.heap_setCell _ _ _ _ (fun e=>hk (by rw [e]))⟩
theorem below_drew (h:Below w.heap.size w w'):Below w.heap.size w w'.drew:=⟨h.os,h.tape,h.output,h.size,h.block⟩
end
section
variable {P : Program} {T k : Nat}
theorem run_loadRow {w:World} {g t:Nat} {cs:List Value} (h:RowL w g t cs) (hk:cs.length=k):(loadCellsFrom ⟨g,0,none⟩ 0 k #[]).run P w=.ok cs.toArray w:=by
 have hl:=run_loadCells_list (P:=P) w ⟨g,0,none⟩ cs (fun j v hv=>by rw [Addr.add_lit,h.cell,Nat.zero_add,hv])
 rw [hk] at hl
 exact hl
theorem wpList_loadW {w : World} {ops : Array Oper} {rest : List Oper} {o : Oper} {a : Act} {Q : Exit → Act → World → Prop} (hgd : o.guard = none) (T : Nat) (x : Operand) (ho : o.op = .load T x)
  (k:Nat) (hag:∀w,(isAgg T).run P w=.ok true w) (hsz:∀w,(sizeOf T).run P w=.ok k w) (g t:Nat) (hx:a.eval x=.pointer (some ⟨g,0,none⟩)) (cs:List Value) (h:RowL w g t cs) (hk:cs.length=k)
  (hK:wpList P ops Q rest (a.put o.dst (.agg cs.toArray)) w):wpList P ops Q (o::rest) a w :=
 wpList_loadC hgd T x ho k hag hsz g 0 t hx cs cs h (by rw [List.drop_zero,List.take_of_length_le (by omega)]) hk hK
theorem wpList_storeW {w : World} {ops : Array Oper} {rest : List Oper} {o : Oper} {a : Act} {Q : Exit → Act → World → Prop} (hgd : o.guard = none) (T : Nat) (x y : Operand) (ho : o.op = .store T x y)
  (k:Nat) (hsz:∀w,(sizeOf T).run P w=.ok k w) (g t:Nat) (hx:a.eval x=.pointer (some ⟨g,0,none⟩)) (cur cs:List Value) (hy:a.eval y=.agg cs.toArray) (h:RowL w g t cur) (hk:cs.length=k) (hcur:cur.length=k) (h1:∀v∈cs,v.oneCell'=true)
  (hK:∀w',RowL w' g t cs→w.grownBy w' (some g)→w'.heap.size=w.heap.size→wpList P ops Q rest (a.put o.dst undef) w'):wpList P ops Q (o::rest) a w :=
 wpList_storeC hgd T x y ho k hsz g 0 t hx cur cs hy h hk (by omega) h1 fun w' h1 h2 h3=>hK w' (by
  have e:splice cur 0 cs=cs:=by unfold splice;rw [List.take_zero,List.nil_append,List.drop_of_length_le (by omega),List.append_nil]
  rw [e] at h1;exact h1) h2 h3
theorem res_cell {fn : Func} {tmps : Array Value} {w : World} {s g t : Nat} {cs : List Value} (hr : fn.results = #[.cell s T]) (ht : tmps.getD s undef = .pointer (some ⟨g, 0, none⟩)) (hag : ∀ w, (isAgg T).run P w = .ok true w) (hsz : ∀ w, (sizeOf T).run P w = .ok k w)
  (h:RowL w g t cs) (hk:cs.length=k):(results fn tmps).run P w=.ok (.agg cs.toArray) w:=by
 have hl:=run_loadRow (P:=P) h hk
 have ht':tmps[s]?.getD undef=.pointer (some ⟨g,0,none⟩):=by simpa using ht
 simp [results,hr,ht',hag,hsz,hl,go_sem]
end
theorem rows1 (w:World) (c1:List Value) (t1:Nat):RowL (w.alloc (.cells c1.toArray t1)) w.heap.size t1 c1∧Below w.heap.size w (w.alloc (.cells c1.toArray t1))∧(w.alloc (.cells c1.toArray t1)).heap.size=w.heap.size+1 :=
 ⟨RowL.new w t1 c1,below_new (below_self w) _,by simp⟩
theorem rows2 (w:World) (c1 c2:List Value) (t1 t2:Nat):RowL ((w.alloc (.cells c1.toArray t1)).alloc (.cells c2.toArray t2)) w.heap.size t1 c1∧RowL ((w.alloc (.cells c1.toArray t1)).alloc (.cells c2.toArray t2)) (w.heap.size+1) t2 c2 ∧
  Below w.heap.size w ((w.alloc (.cells c1.toArray t1)).alloc (.cells c2.toArray t2))∧((w.alloc (.cells c1.toArray t1)).alloc (.cells c2.toArray t2)).heap.size=w.heap.size+2:=by
 obtain ⟨h1,h2,h3⟩:=rows1 w c1 t1
 obtain ⟨k1,k2,k3⟩:=rows1 (w.alloc (.cells c1.toArray t1)) c2 t2
 rw [h3] at k1
 exact ⟨h1.on k2,k1,below_step h2 k2,by rw [k3,h3]⟩
theorem rows3 (w:World) (c1 c2 c3:List Value) (t1 t2 t3:Nat):RowL (((w.alloc (.cells c1.toArray t1)).alloc (.cells c2.toArray t2)).alloc (.cells c3.toArray t3)) w.heap.size t1 c1∧RowL (((w.alloc (.cells c1.toArray t1)).alloc (.cells c2.toArray t2)).alloc (.cells c3.toArray t3)) (w.heap.size+1) t2 c2 ∧
  RowL (((w.alloc (.cells c1.toArray t1)).alloc (.cells c2.toArray t2)).alloc (.cells c3.toArray t3)) (w.heap.size+1+1) t3 c3 ∧
  Below w.heap.size w (((w.alloc (.cells c1.toArray t1)).alloc (.cells c2.toArray t2)).alloc (.cells c3.toArray t3))∧(((w.alloc (.cells c1.toArray t1)).alloc (.cells c2.toArray t2)).alloc (.cells c3.toArray t3)).heap.size=w.heap.size+3:=by
 obtain ⟨h1,h2,h3,h4⟩:=rows2 w c1 c2 t1 t2
 obtain ⟨k1,k2,k3⟩:=rows1 ((w.alloc (.cells c1.toArray t1)).alloc (.cells c2.toArray t2)) c3 t3
 rw [h4] at k1
 exact ⟨h1.on k2,h2.on k2,k1,below_step h3 k2,by rw [k3,h4]⟩
end Go.Proofs.YtnhegahpfacdgaaDoor

