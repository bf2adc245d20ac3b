import Derived.Test.YtpndfahgflgocaaDoorXn7
import Derived.Test.YtpndfahgflgocaaDoorXn9
import Derived.Great.BuildSlice
import Derived.RangeFuncCalls
import Derived.OwnWalkIn

namespace Go.Proofs.YtpndfahgflgocaaDoor
open Go.RowKit Go.Shelf Plain

def wayC (y:WayV):List Value:=[.int .i64 y.ino,.int .i64 y.up,.string ⟨y.name.toArray⟩]
def twC (q:Int×Nat):List Value:=[.int .i64 q.1,.int .i64 (q.2:Int)]
def flatW (l:List WayV):List Value:=l.flatMap wayC
def flatT (l:List (Int×Nat)):List Value:=l.flatMap twC
theorem flatW_snoc (l:List WayV) (y:WayV):flatW (l++[y])=flatW l++wayC y:=by simp [flatW]
theorem flatT_snoc (l:List (Int×Nat)) (q:Int×Nat):flatT (l++[q])=flatT l++twC q:=by simp [flatT]
theorem flatW_len (l:List WayV):(flatW l).length=l.length*3:=by
 induction l with
 | nil=>rfl
 | cons x r ih=>rw [show flatW (x::r)=wayC x++flatW r from rfl,List.length_append,ih,List.length_cons];simp only [wayC,List.length_cons,List.length_nil];omega
theorem flatT_len (l:List (Int×Nat)):(flatT l).length=l.length*2:=by
 induction l with
 | nil=>rfl
 | cons x r ih=>rw [show flatT (x::r)=twC x++flatT r from rfl,List.length_append,ih,List.length_cons];simp only [twC,List.length_cons,List.length_nil];omega
def FreeO (o:Obj):Prop:=∀arr t fr,o=.cells arr t fr→t≠99∧t≠125
theorem SetW.not_own {W:World} {b c base e s n:Nat} {f:Int→Bool} {v:Value} {xs:List Value} (h:SetW W b c f) (ho:W.ownsRow base e s v n xs):v.ownBlock=none∨v.ownBlock≠some b:=by
 obtain ⟨o,h1,-,h2⟩:=h.obj
 refine .inr fun e=>?_
 obtain ⟨-,-,o',h3,h4⟩:=own_block ho b e
 rw [h1] at h3
 cases Option.some.inj h3
 rw [h2] at h4
 cases h4
theorem SetW.not_row {W:World} {b c g t:Nat} {f:Int→Bool} {cs:List Value} (h:SetW W b c f) (hr:RowL W g t cs):some g≠some b:=by
 obtain ⟨o,h1,-,h2⟩:=h.obj
 intro e
 have e:=Option.some.inj e
 subst e
 rw [show W.heap[g]?=_ from hr] at h1
 cases Option.some.inj h1
 cases h2
structure TurnW (B g b : Nat) (W W' : World) : Prop where
 os:W'.os=W.os
 tape:W'.tape=W.tape
 output:W'.output=W.output
 size:W.heap.size≤W'.heap.size
 kept:∀(k:Nat) (o:Obj),W.heap[k]?=some o→(k < B∨(k≠g∧k≠b∧FreeO o))→W'.heap[k]?=some o
section
variable {B g b : Nat} {A C E : World}
theorem heap_lt {W:World} {k:Nat} {o:Obj} (h:W.heap[k]?=some o):k < W.heap.size:=(Array.getElem?_eq_some_iff.1 h).1
theorem TurnW.refl (B g b:Nat) (A:World):TurnW B g b A A:=⟨rfl,rfl,rfl,Nat.le_refl _,fun _ _ h _=>h⟩
theorem TurnW.trans (h:TurnW B g b A C) (k:TurnW B g b C E):TurnW B g b A E :=
 ⟨k.os.trans h.os,k.tape.trans h.tape,k.output.trans h.output,Nat.le_trans h.size k.size,fun i o ho hi=>k.kept i o (h.kept i o ho hi) hi⟩
theorem TurnW.of_below (h:Below A.heap.size A C):TurnW B g b A C:=⟨h.os,h.tape,h.output,h.size,fun k _ ho _=>(h.block k (heap_lt ho)).trans ho⟩
theorem TurnW.grown {row:Option Nat} (hg:A.grownBy C row) (hr:∀k,row=some k→B≤k∧(k=g∨k=b∨∀o,A.heap[k]?=some o→¬FreeO o)):TurnW B g b A C :=
 ⟨hg.os,hg.tape,hg.output,hg.size,fun k o ho hk=>(hg.block k (heap_lt ho) (fun e=>by
  obtain ⟨h1,h2⟩:=hr k e.symm
  rcases hk with hk|⟨h3,h4,h5⟩
  ·omega
  ·rcases h2 with h2|h2|h2
   ·exact h3 h2
   ·exact h4 h2
   ·exact h2 o ho h5)).trans ho⟩
theorem not_free {W:World} {base e s n:Nat} {v:Value} {xs:List Value} (h:W.ownsRow base e s v n xs) (he:e=99∨e=125):∀k,v.ownBlock=some k→base≤k∧∀o,W.heap[k]?=some o→¬FreeO o:=by
 intro k hk
 rcases h.2 with ⟨rfl,_⟩|⟨g',cap,cur,rfl,hb,hc,_⟩
 ·cases hk
 ·obtain rfl:g'=k:=Option.some.inj hk
  refine ⟨hb,fun o ho hf=>?_⟩
  rw [hc] at ho
  have:=hf _ _ _ (Option.some.inj ho).symm
  rcases he with rfl|rfl
  ·exact this.1 rfl
  ·exact this.2 rfl
theorem TurnW.own {base e s n:Nat} {v:Value} {xs:List Value} (ho:A.ownsRow base e s v n xs) (he:e=99∨e=125) (hg:A.grownBy C v.ownBlock) (hB:B≤base):TurnW B g b A C :=
 TurnW.grown hg (fun k hk=>by
  obtain ⟨h1,h2⟩:=not_free ho he k hk
  exact ⟨by omega,.inr (.inr h2)⟩)
theorem TurnW.row (h:TurnW B g b A C) {k t:Nat} {cs:List Value} (hr:RowL A k t cs) (h1:k≠g) (h2:k≠b) (h3:t≠99∧t≠125):RowL C k t cs :=
 h.kept k _ hr (.inr ⟨h1,h2,fun arr t' fr e=>by injection e with _ e _;rw [←e];exact h3⟩)
theorem TurnW.low (h:TurnW B g b A C) (hB:B≤A.heap.size) {k:Nat} (hk:k < B):C.heap[k]?=A.heap[k]?:=by
 have hx:A.heap[k]?=some A.heap[k]:=Array.getElem?_eq_getElem (by omega)
 rw [hx]
 exact h.kept k _ hx (.inl hk)
theorem TurnW.below {w:World} (h:TurnW B g b A C) (hb:Below B w A) (hB:B≤A.heap.size):Below B w C:=⟨h.os.trans hb.os,h.tape.trans hb.tape,h.output.trans hb.output,Nat.le_trans hb.size h.size,fun k hk=>(h.low hB hk).trans (hb.block k hk)⟩
theorem TurnW.rd {α:Type} {F:Enc α} (h:TurnW B g b A C) (hB:B≤A.heap.size) {Q:Option Addr} {n:Nat} {l:List α} (hr:RdE F A (Under B) Q n l):RdE F C (Under B) Q n l:=hr.mono (fun _ hk=>h.low hB hk) fun _ h=>h
end
def WkS (B g b:Nat) (ns:List NodV) (s:StW) (W:World):Prop :=
 ∃A n c A1 n1 c1 A2 n2 c2,B≤g∧B≤b∧RowL W g 95 [.slice A n c,.slice A1 n1 c1,.map (some b),.slice A2 n2 c2]∧RdE nodEn W (Under B) A n ns∧W.ownsRow B 99 3 (.slice A1 n1 c1) n1 (flatW s.1)∧SetW W b n1 (cameW s.1)∧W.ownsRow B 125 2 (.slice A2 n2 c2) n2 (flatT s.2)
section
variable {B g b : Nat} {ns : List NodV} {s : StW} {W W' : World}
theorem WkS.on (h:WkS B g b ns s W) (hb:Below W.heap.size W W'):WkS B g b ns s W':=by
 obtain ⟨A,n,c,A1,n1,c1,A2,n2,c2,h1,h2,h3,h4,h5,h6,h7⟩:=h
 exact ⟨A,n,c,A1,n1,c1,A2,n2,c2,h1,h2,h3.on hb,h4.under hb (by have:=h3.lt;omega),ownsRow_below h5 hb,h6.on hb,ownsRow_below h7 hb⟩
theorem WkS.lt (h:WkS B g b ns s W):B≤g∧g < W.heap.size∧B≤b∧b < W.heap.size:=by
 obtain ⟨A,n,c,A1,n1,c1,A2,n2,c2,h1,h2,h3,h4,h5,h6,h7⟩:=h
 exact ⟨h1,h3.lt,h2,h6.lt⟩
theorem WkS.n (h:WkS B g b ns s W):WkN W B g ns:=by
 obtain ⟨A,n,c,A1,n1,c1,A2,n2,c2,h1,h2,h3,h4,-⟩:=h
 exact ⟨A,n,c,h3.cell 0,h4⟩
theorem WkS.turned {row:Option Nat} (h:WkS B g b ns s W) (hg:W.grownBy W' row) (hr:∀k,row=some k→∀o,W.heap[k]?=some o→B≤k∧k≠b∧(∀arr t fr,o=.cells arr t fr→t≠99∧t≠125∧t≠95)):WkS B g b ns s W':=by
 obtain ⟨A,n,c,A1,n1,c1,A2,n2,c2,h1,h2,h3,h4,h5,h6,h7⟩:=h
 have hlt:=h3.lt
 have hobj:∀ {base e s n:Nat} {v:Value} {xs:List Value},W.ownsRow base e s v n xs→(e=99∨e=125)→(v.ownBlock=none∨v.ownBlock≠row):=by
  intro base e s n v xs ho he
  rcases ho.2 with ⟨rfl,_⟩|⟨g',cap,cur,rfl,_,hc,_⟩
  ·exact .inl rfl
  ·refine .inr fun e'=>?_
   have h9:=(hr g' e'.symm _ hc).2.2 _ _ _ rfl
   rcases he with rfl|rfl
   ·exact h9.1 rfl
   ·exact h9.2.1 rfl
 refine ⟨A,n,c,A1,n1,c1,A2,n2,c2,h1,h2,h3.grown hg (fun e=>((hr g e.symm _ h3).2.2 _ _ _ rfl).2.2 rfl),h4.mono (fun k hk=>hg.block k (by unfold Under at hk;omega) (fun e=>?_)) (fun _ h=>h),h5.kept hg (hobj h5 (.inl rfl)),h6.kept hg (fun e=>?_),h7.kept hg (hobj h7 (.inr rfl))⟩
 ·unfold Under at hk
  have hx:W.heap[k]?=some W.heap[k]:=Array.getElem?_eq_getElem (by omega)
  have:=(hr k e.symm _ hx).1
  omega
 ·obtain ⟨o,ho,-⟩:=h6.obj
  exact (hr b e.symm _ ho).2.1 rfl
end
set_option maxRecDepth 100000 in
theorem way_agg:∀w,(isAgg 99).run Tryd.prog w=.ok true w:=fun w=>by kernel_rfl
set_option maxRecDepth 100000 in
theorem way_size:∀w,(Go.sizeOf 99).run Tryd.prog w=.ok 3 w:=fun w=>by kernel_rfl
def zway:Value:=.agg #[.int .i64 0,.int .i64 0,.string ⟨#[]⟩]
set_option maxRecDepth 100000 in
theorem way_info:(Tryd.prog.info? 99).map (fun i=>(i.zero,i.size,i.bytes))=some (some zway,3,32):=by kernel_rfl
theorem lit_way (y:WayV) (W:World):(Instr.buildSlice 92 1 #[(0,.agg (wayC y).toArray)]).run Tryd.prog W=.ok (.slice (some ⟨W.heap.size,0,none⟩) 1 1) (W.alloc (.cells (wayC y).toArray 99)):=by
 obtain ⟨it,hi,hz,hsz,-⟩:=info_parts way_info
 refine run_buildSlice W _ 99 1 _ _ it zway Tryd.underlying92 hi hz (by omega) (by omega) ?_
 rw [hsz]
 have:=Great.fill_whole (s:=3) (by omega) [.agg (wayC y).toArray] ((Array.range (1*3)).map (zway.cells[· % zway.cells.size]!)) (by intro v hv;rw [List.mem_singleton] at hv;subst hv;simp [Value.cells,wayC]) (by simp)
 simpa [Value.cells] using this
theorem wp_appF {P : Program} {o : Oper} {a : Act} {K : Act → World → Prop} {Q : Exit → Act → World → Prop} (W3 : World) (base B3 : Nat) (hB3 : W3.heap.size = B3) (s x : Operand) (t e : TypeId)
  (hop:o.op=Op.call {callee:=Callee.builtin Builtin.append,args:=#[s,x],argTypes:=#[t,t]}) (ht:P.underlying t=some (.slice e)) (z:Value) (k k8:Nat) (hinfo:(P.info? e).map (fun i=>(i.zero,i.size,i.bytes))=some (some z,k,k8)) (hz:z.cells.size=k) (hk:0 < k) (hk2:k8≤1000)
  (A1:Option Addr) (n1 c1:Nat) (L1 cs:List Value) (hlen:cs.length=k) (h1c:∀u∈cs,u.oneCell'=true) (hs:a.eval s=.slice A1 n1 c1) (ho1:W3.ownsRow base e k (.slice A1 n1 c1) n1 L1)
  (hx:a.eval x=.slice (some ⟨B3,0,none⟩) 1 1) (hm:n1≤100000) (hb:base≤W3.heap.size)
  (hK:∀A5 c5 W5,W5.ownsRow base e k (.slice A5 (n1+1) c5) (n1+1) (L1++cs)→(W3.alloc (.cells cs.toArray e)).grownBy W5 (Value.slice A1 n1 c1).ownBlock→K (a.put o.dst (.slice A5 (n1+1) c5)) W5) :
  o.wp P a (W3.alloc (.cells cs.toArray e)) K Q:=by
 subst hB3
 obtain ⟨ie,hie,hze,hse,hbe⟩:=info_parts hinfo
 have hc:=(RowL.new W3 e cs).src (off:=0) (m:=k) (l:=cs) (by simp [←hlen]) hlen
 obtain ⟨v',W5,hr,ho5,hg5,_⟩:=run_append_own (P:=P) (W3.alloc (.cells cs.toArray e)) base t o.type e ie z k k8 ht hie hze hse hbe hz hk (.slice A1 n1 c1) n1 L1 (ho1.alloc _) ⟨W3.heap.size,0,none⟩ 1 1 cs (by rw [Nat.one_mul];exact hlen) hc h1c (by simp only [maxLen];omega) (by have:(n1+1)*k8≤100001*1000:=Nat.mul_le_mul (by omega) hk2;omega) (by rw [World.size_alloc];omega)
 obtain ⟨A5,c5,rfl⟩:=owns_slice ho5
 unfold Oper.wp execOp
 simp only [hop,resolve,invoke,builtin,Sem.run_bind,Sem.run_pure,Result.andThen_ok,List.map_toArray,List.map_cons,List.map_nil,hs,hx,hr]
 exact hK A5 c5 W5 ho5 hg5
theorem came_snoc (l:List WayV) (y:WayV):cameW (l++[y])=fun x=>cameW l x||x==y.ino:=by
 funext x
 unfold cameW
 rw [List.any_append,List.any_cons,List.any_nil,Bool.or_false]
 congr 1
 exact BEq.comm
end Go.Proofs.YtpndfahgflgocaaDoor

namespace Go.Proofs.YtpndfahgflgocaaDoor
open Go

def noDefer (ops:Array Oper):Bool:=ops.toList.all fun o=>match o.op with|.defer _=>false|_=>true
section
variable {P : Program} {ops : Array Oper} {Q : Exit → Act → World → Prop} {S : World → Prop} {l n : Nat}
theorem noDefer_get (h:noDefer ops=true) {i:Nat} {o:Oper} (ho:ops[i]?=some o) (c:Call):o.op≠.defer c:=by
 unfold noDefer at h
 rw [List.all_eq_true] at h
 have hm:o∈ops.toList:=by
  rw [←Array.getElem?_toList] at ho
  exact List.mem_of_getElem? ho
 have:=h o hm
 intro e
 rw [e] at this
 cases this
theorem Oper.wp_round {o:Oper} {a:Act} {w:World} {K:Act→World→Prop} (hd:∀c,o.op≠.defer c) (h:o.wp P a w K Q):o.wpIn (Fence.wide.inRound l) n P a w K Q:=by
 unfold Oper.wpIn
 refine ⟨fun _ _=>trivial,?_⟩
 rw [Oper.semAt_plain _ _ _ hd]
 unfold Oper.wp at h
 revert h
 generalize (execOp a.eval o).run P w=r
 intro h
 cases r with
 | ok x w' =>
  cases x with
  | value v=>exact h
  | skip=>exact h
  | defer d=>exact h
  | enter f args=>exact ⟨(fun hh=>by cases hh),CallsIn.inRound l (callsIn_wide.2 h)⟩
  | row r args =>
   refine ⟨(fun hh=>by cases hh),fun c cs _=>?_⟩
   obtain ⟨v,w'',h1,h2⟩:=h c cs
   exact ⟨v,w'',h1,stepsIn_wide.2 h2⟩
  | _=>exact h.elim
 | halt e w' =>
  cases e with
  | panic v=>exact h
  | _=>exact h.elim
theorem wpAny_round {md:Region.Mode} (hd:noDefer ops=true) (hlo:¬LetsOut Q):∀(fuel:Nat) (listed:Array Bool) (a:Act) (w:World),wpAny P md ops Q fuel listed a w→wpAnyIn (Fence.wide.inRound l) n P md ops Q fuel listed a w:=by
 intro fuel
 induction fuel with
 | zero=>exact fun listed a w h=>h
 | succ fuel ih =>
  intro listed a w h
  refine ⟨h.1,fun i hi=>?_⟩
  have h2:=h.2 i hi
  unfold wpOp at h2
  unfold wpOpIn
  cases ho:ops[i]? with
  | none=>simp only [ho] at h2 ⊢;exact ih _ _ _ h2
  | some o =>
   simp only [ho] at h2 ⊢
   split
   ·rename_i hw
    rw [if_pos hw] at h2
    rcases h2 with h2|⟨_,h3⟩
    ·exact Oper.wp_round (noDefer_get hd ho) (Oper.wp_mono (fun _ _ h=>ih _ _ _ h) h2)
    ·exact absurd h3 hlo
   ·rename_i hw
    rw [if_neg hw] at h2
    exact ⟨fun _ _=>trivial,ih _ _ _ h2⟩
end
end Go.Proofs.YtpndfahgflgocaaDoor

