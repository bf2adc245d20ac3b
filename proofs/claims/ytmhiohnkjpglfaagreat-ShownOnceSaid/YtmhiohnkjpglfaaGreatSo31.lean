import Derived.Test.YtmhiohnkjpglfaaGreatSo30

namespace Go.Proofs.YtmhiohnkjpglfaaGreat
open Go.RowKit Go.Shelf Plain

set_option maxRecDepth 100000 in
theorem shnW_info:(Tryz.prog.info? 37).map (fun i=>(i.zero,i.size,i.bytes))=some (some (.agg #[.string ⟨#[]⟩,.int .i64 0,.int .i64 0,.int .i64 0]),4,40):=by kernel_rfl
set_option maxRecDepth 100000 in
theorem stpW_info:(Tryz.prog.info? 98).map (fun i=>(i.zero,i.size,i.bytes))=some (some (.agg #[.int .i64 0,.slice none 0 0,.string ⟨#[]⟩]),3,48):=by kernel_rfl
theorem lit_shn (x:List UInt8) (a b c:Int) (W:World):(Instr.buildSlice 32 1 #[(0,.agg #[.string ⟨x.toArray⟩,.int .i64 a,.int .i64 b,.int .i64 c])]).run Tryz.prog W=.ok (.slice (some ⟨W.heap.size,0,none⟩) 1 1) (W.alloc (.cells #[.string ⟨x.toArray⟩,.int .i64 a,.int .i64 b,.int .i64 c] 37)):=by
 obtain ⟨it,hi,hz,hsz,-⟩:=info_parts shnW_info
 refine run_buildSlice W _ 37 1 _ _ it (.agg #[.string ⟨#[]⟩,.int .i64 0,.int .i64 0,.int .i64 0]) Tryz.underlying32 hi hz (by omega) (by omega) ?_
 rw [hsz]
 have:=Great.fill_whole (s:=4) (by omega) [.agg #[.string ⟨x.toArray⟩,.int .i64 a,.int .i64 b,.int .i64 c]] ((Array.range (1*4)).map ((Value.agg #[.string ⟨#[]⟩,.int .i64 0,.int .i64 0,.int .i64 0]).cells[· % (Value.agg #[.string ⟨#[]⟩,.int .i64 0,.int .i64 0,.int .i64 0]).cells.size]!)) (by intro v hv;rw [List.mem_singleton] at hv;subst hv;simp [Value.cells]) (by simp)
 simpa [Value.cells] using this
theorem lit_stp (a:Int) (A:Option Addr) (n c:Nat) (x:List UInt8) (W:World):(Instr.buildSlice 100 1 #[(0,.agg #[.int .i64 a,.slice A n c,.string ⟨x.toArray⟩])]).run Tryz.prog W=.ok (.slice (some ⟨W.heap.size,0,none⟩) 1 1) (W.alloc (.cells #[.int .i64 a,.slice A n c,.string ⟨x.toArray⟩] 98)):=by
 obtain ⟨it,hi,hz,hsz,-⟩:=info_parts stpW_info
 refine run_buildSlice W _ 98 1 _ _ it (.agg #[.int .i64 0,.slice none 0 0,.string ⟨#[]⟩]) Tryz.underlying100 hi hz (by omega) (by omega) ?_
 rw [hsz]
 have:=Great.fill_whole (s:=3) (by omega) [.agg #[.int .i64 a,.slice A n c,.string ⟨x.toArray⟩]] ((Array.range (1*3)).map ((Value.agg #[.int .i64 0,.slice none 0 0,.string ⟨#[]⟩]).cells[· % (Value.agg #[.int .i64 0,.slice none 0 0,.string ⟨#[]⟩]).cells.size]!)) (by intro v hv;rw [List.mem_singleton] at hv;subst hv;simp [Value.cells]) (by simp)
 simpa [Value.cells] using this
theorem OwD.notD {α:Type} {E:Enc α} {D:Nat→Prop} {w:World} {base e n c:Nat} {A:Option Addr} {l:List α} (h:OwD E D w base e A n c l):∀k,(Value.slice A n c).ownBlock=some k→¬D k∧base≤k:=fun k hk=>by
 obtain ⟨css,h1,-,-,h4⟩:=h
 refine ⟨fun hD=>?_,(own_block h1 k hk).1⟩
 cases A with
 | none=>cases hk
 | some a =>
  have e:a.block=k:=Option.some.inj hk
  exact (h4 k hD).2 a rfl e.symm
theorem OwD.two {α β:Type} {E:Enc α} {G:Enc β} {D D':Nat→Prop} {w:World} {b1 b2 e1 e2 n1 n2 c1 c2:Nat} {A1 A2:Option Addr} {l1:List α} {l2:List β} (h1:OwD E D w b1 e1 A1 n1 c1 l1) (h2:OwD G D' w b2 e2 A2 n2 c2 l2) (he:e1≠e2):∀k,(Value.slice A1 n1 c1).ownBlock=some k→∀a,A2=some a→a.block≠k:=fun k hk a ha e=>by
 obtain ⟨_,r1,-⟩:=h1
 obtain ⟨_,r2,-⟩:=h2
 subst ha
 rcases owns_apart r1 r2 he with h|h
 ·cases h
 ·exact h (by rw [hk,←e];rfl)
theorem TourI.noMap {w:World} {base gT bM cM e n c:Nat} {AS AX A:Option Addr} {nS cS nX cX:Nat} {F D:Nat→Prop} {g:GeoQ} {U L:Value} {up:List NodV} {ss:List StopV} {told:List ShnV} {α:Type} {E:Enc α} {l:List α} (h:TourI w base gT bM cM AS nS cS AX nX cX F g U L up ss told) (ho:OwD E D w base e A n c l):some bM≠(Value.slice A n c).ownBlock:=fun eq=>by
 obtain ⟨o,ho1,-,ho2⟩:=h.set.obj
 obtain ⟨css,hrow,-⟩:=ho
 obtain ⟨-,-,o',h1,h2⟩:=own_block hrow bM eq.symm
 rw [ho1] at h1
 cases h1
 rw [ho2] at h2
 cases h2
theorem TourI.tell {w w' w'':World} {base gT bM cM:Nat} {AS AX A':Option Addr} {nS cS nX cX n' c':Nat} {F:Nat→Prop} {g:GeoQ} {U L:Value} {up:List NodV} {ss:List StopV} {told told':List ShnV} (h:TourI w base gT bM cM AS nS cS AX nX cX F g U L up ss told) (ho:OwD shnEn F w' base 37 A' n' c' told') (hg:w.grownBy w' (Value.slice AX nX cX).ownBlock) (hr:RowL w'' gT 102 (touC g U L (.map (some bM)) (.slice AS nS cS) (.slice A' n' c'))) (hg2:w'.grownBy w'' (some gT)):TourI w'' base gT bM cM AS nS cS A' n' c' F g U L up ss told':=by
 have hrow:RowL w' gT 102 _:=h.row.grown hg (owe_apart h.tol.own h.row (by decide))
 have hT:¬F gT:=fun hF=>(h.fre gT hF).2.1 rfl
 have hS:=h.sto
 refine ⟨hr,(h.set.kept hg (h.noMap h.tol)).kept hg2 (fun e=>h.gTM (Option.some.inj e).symm),h.gTb,h.bMb,h.gTM,fun b hF=>⟨Nat.lt_of_lt_of_le (h.fre b hF).1 (Nat.le_trans hg.size hg2.size),(h.fre b hF).2⟩,?_,ho.grown hg2 (fun k hk=>?_)⟩
 ·obtain ⟨raws,k1,k2⟩:=hS
  have k3:OwD rawEn F w' base 98 AS nS cS raws:=k1.grown hg (fun k hk=>⟨(h.tol.notD k hk).1,h.tol.two k1 (by decide) k hk⟩)
  refine ⟨raws,k3.grown hg2 (fun k hk=>?_),k2.mono (fun b hb=>(hg2.block b (Nat.lt_of_lt_of_le (h.fre b hb).1 hg.size) (fun e=>hT (by rw [←Option.some.inj e];exact hb))).trans (hg.block b (h.fre b hb).1 (fun e=>(h.tol.notD b e.symm).1 hb))) (fun _ h=>h)⟩
  obtain rfl:=Option.some.inj hk
  exact ⟨hT,fun a ha e=>owe_apart k3.own hrow (by decide) (by rw [ha,←e];rfl)⟩
 ·obtain rfl:=Option.some.inj hk
  exact ⟨hT,fun a ha e=>owe_apart ho.own hrow (by decide) (by rw [ha,←e];rfl)⟩
theorem TourI.come {w w' w'':World} {base gT bM cM:Nat} {AS AX A':Option Addr} {nS cS nX cX n' c':Nat} {F:Nat→Prop} {g:GeoQ} {U L:Value} {up:List NodV} {ss ss':List StopV} {told:List ShnV} {raws:List RawS} (h:TourI w base gT bM cM AS nS cS AX nX cX F g U L up ss told) {raws0:List RawS} (h0:OwD rawEn F w base 98 AS nS cS raws0) (ho:OwD rawEn F w' base 98 A' n' c' raws) (hss:StopsR w F raws ss') (hg:w.grownBy w' (Value.slice AS nS cS).ownBlock) (hr:RowL w'' gT 102 (touC g U L (.map (some bM)) (.slice A' n' c') (.slice AX nX cX))) (hg2:w'.grownBy w'' (some gT)):TourI w'' base gT bM cM A' n' c' AX nX cX F g U L up ss' told:=by
 have hrow:RowL w' gT 102 _:=h.row.grown hg (owe_apart h0.own h.row (by decide))
 have hT:¬F gT:=fun hF=>(h.fre gT hF).2.1 rfl
 have k3:OwD shnEn F w' base 37 AX nX cX told:=h.tol.grown hg (fun k hk=>⟨(h0.notD k hk).1,h0.two h.tol (by decide) k hk⟩)
 refine ⟨hr,(h.set.kept hg (h.noMap h0)).kept hg2 (fun e=>h.gTM (Option.some.inj e).symm),h.gTb,h.bMb,h.gTM,fun b hF=>⟨Nat.lt_of_lt_of_le (h.fre b hF).1 (Nat.le_trans hg.size hg2.size),(h.fre b hF).2⟩,⟨raws,ho.grown hg2 (fun k hk=>?_),hss.mono (fun b hb=>(hg2.block b (Nat.lt_of_lt_of_le (h.fre b hb).1 hg.size) (fun e=>hT (by rw [←Option.some.inj e];exact hb))).trans (hg.block b (h.fre b hb).1 (fun e=>(h0.notD b e.symm).1 hb))) (fun _ h=>h)⟩,k3.grown hg2 (fun k hk=>?_)⟩
 ·obtain rfl:=Option.some.inj hk
  exact ⟨hT,fun a ha e=>owe_apart ho.own hrow (by decide) (by rw [ha,←e];rfl)⟩
 ·obtain rfl:=Option.some.inj hk
  exact ⟨hT,fun a ha e=>owe_apart k3.own hrow (by decide) (by rw [ha,←e];rfl)⟩
theorem row_ne {w:World} {g g' t t':Nat} {cs cs':List Value} (h:RowL w g t cs) (h':RowL w g' t' cs') (hne:t≠t'):g≠g':=by
 intro e
 subst e
 have:=h.symm.trans h'
 simp at this
 exact hne this.2
theorem TourI.kept2 {w w' w'':World} {base gT bM cM e n c:Nat} {AS AX A:Option Addr} {nS cS nX cX:Nat} {F:Nat→Prop} {g:GeoQ} {U L:Value} {up:List NodV} {ss:List StopV} {told:List ShnV} {α:Type} {E:Enc α} {l:List α} (h:TourI w base gT bM cM AS nS cS AX nX cX F g U L up ss told) (ho:OwD E F w base e A n c l) (hg:w.grownBy w' (Value.slice A n c).ownBlock) (hg2:w'.grownBy w'' (some gT)):Kept F w w'':=fun b hb =>
 (hg2.block b (Nat.lt_of_lt_of_le (h.fre b hb).1 hg.size) (fun e=>(h.fre b hb).2.1 (Option.some.inj e))).trans (hg.block b (h.fre b hb).1 (fun e=>(ho.notD b e.symm).1 hb))
theorem row_two {w w' w'':World} {base e n c gT T k t:Nat} {A:Option Addr} {F:Nat→Prop} {α:Type} {E:Enc α} {l:List α} {cT cs:List Value} (ho:OwD E F w base e A n c l) (hT:RowL w gT T cT) (hr:RowL w k t cs) (h1:t≠e) (h2:t≠T) (hg:w.grownBy w' (Value.slice A n c).ownBlock) (hg2:w'.grownBy w'' (some gT)):RowL w'' k t cs :=
 (hr.grown hg (owe_apart ho.own hr h1)).grown hg2 (fun e=>row_ne hr hT h2 (Option.some.inj e))
theorem ow_two {w w' w'':World} {base b1 e1 e n c n1 c1 gT:Nat} {A A1:Option Addr} {F:Nat→Prop} {α β:Type} {E:Enc α} {f:β→Value} {l:List α} {l1:List β} (h:Ow f w b1 e1 A1 n1 c1 l1) (ho:OwD E F w base e A n c l) (he:e≠e1) (hg:w.grownBy w' (Value.slice A n c).ownBlock) (hg2:w'.grownBy w'' (some gT)) (hT:gT < b1):Ow f w'' b1 e1 A1 n1 c1 l1:=by
 obtain ⟨_,r1,-⟩:=ho
 have h2:World.ownsRow w' b1 e1 1 (.slice A1 n1 c1) n1 (l1.map f):=World.ownsRow.kept h hg (owns_apart r1 h he)
 refine World.ownsRow.kept h2 hg2 ?_
 cases hb:(Value.slice A1 n1 c1).ownBlock with
 | none=>exact .inl rfl
 | some k =>
  have h3:=(own_block h2 k hb).1
  exact .inr (pu5 (by omega))
theorem wp_storeVo {P : Program} {w : World} {o : Oper} {a : Act} {K : Act → World → Prop} {Q : Exit → Act → World → Prop} (T : Nat) (x y : Operand) (ho : o.op = .store T x y)
  (hsz:∀w,(sizeOf T).run P w=.ok 1 w) (g off t:Nat) (hx:a.eval x=.pointer (some ⟨g,off,none⟩)) (v:Value) (hy:a.eval y=v) (hv:v.cells=#[v]) (h1:v.oneCell'=true) (cur:List Value) (h:RowL w g t cur) (hfit:off < cur.length)
  (hK:∀w',RowL w' g t (cur.set off v)→w.grownBy w' (some g)→w'.heap.size=w.heap.size→K (a.put o.dst undef) w'):o.wp P a w K Q:=by
 have hst:=run_storeCells_at P g off t [v] 0 cur.toArray w h (by simp;omega) (by simp [h1])
 simp only [Nat.add_zero] at hst
 have hr:(Instr.storeAt T (.pointer (some ⟨g,off,none⟩)) v).run P w=.ok () (w.setRow g (splice cur off [v]).toArray):=by
  simp [Instr.storeAt,Instr.sureAddr,storeVar,hsz,hv,hst,splice]
 unfold Oper.wp execOp
 simp only [ho,Sem.run_bind,Sem.run_pure,Result.andThen_ok,hx,hy,hr]
 have hrow:=h.setRow_ (splice cur off [v])
 rw [splice_one _ _ _ hfit] at hrow ⊢
 exact hK _ hrow (grownBy_setRow _ _ _) (by simp)
set_option maxRecDepth 100000 in
theorem shns_size:∀w,(Go.sizeOf 32).run Tryz.prog w=.ok 1 w:=fun w=>by kernel_rfl
end Go.Proofs.YtmhiohnkjpglfaaGreat

