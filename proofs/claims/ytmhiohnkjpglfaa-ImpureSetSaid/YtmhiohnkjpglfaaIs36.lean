import Derived.Test.YtmhiohnkjpglfaaIs4

namespace Go.Proofs.Ytmhiohnkjpglfaa
open Go.RowKit Plain
variable {α : Type} {E : Enc α}

def OwD (E:Enc α) (D:Nat→Prop) (w:World) (base e:Nat) (A:Option Addr) (n c:Nat) (l:List α):Prop:=∃css,w.ownsRow base e E.k (.slice A n c) n css.flatten∧CellsE E w D css l∧l.length=n∧∀b,D b→b < w.heap.size∧∀a,A=some a→b≠a.block
theorem OwD.empty (E:Enc α) (w:World) (e:Nat):OwD E (fun _=>False) (w.alloc (.cells #[] e)) w.heap.size e (some ⟨w.heap.size,0,none⟩) 0 0 [] :=
 ⟨[],World.ownsRow_lit w #[] 0 (Nat.le_refl _) (by simp [maxLen]) (by simp),⟨rfl,fun i cs x h=>by simp at h⟩,rfl,fun _ h=>h.elim⟩
theorem OwD.grown {D:Nat→Prop} {w w':World} {base e n c:Nat} {A:Option Addr} {l:List α} {r:Option Nat} (h:OwD E D w base e A n c l) (hg:w.grownBy w' r) (hne:∀g,r=some g→¬D g∧∀a,A=some a→a.block≠g):OwD E D w' base e A n c l:=by
 obtain ⟨css,hown,hc,hl,hD⟩:=h
 have hk:Kept D w w':=fun b hb=>hg.block b (hD b hb).1 (fun e=>(hne b e.symm).1 hb)
 refine ⟨css,hown.kept hg ?_,hc.mono hk (fun _ h=>h),hl,fun b hb=>⟨Nat.lt_of_lt_of_le (hD b hb).1 hg.size,(hD b hb).2⟩⟩
 cases A with
 | none=>exact .inl rfl
 | some a=>exact .inr (fun e=>(hne a.block (by rw [←e];rfl)).2 a rfl rfl)
theorem run_append_OwD {P : Program} (w : World) (base : Nat) (t ty e : TypeId) (z : Value) (k : Nat) (ht : P.underlying t = some (.slice e)) (hinfo : (P.info? e).map (fun i => (i.zero, i.size, i.bytes)) = some (some z, E.k, k)) (hzs : z.cells.size = E.k) (hk : 0 < E.k)
  (D0:Nat→Prop) (A0:Option Addr) (n c0:Nat) (l0:List α) (hown:OwD E D0 w base e A0 n c0 l0) (D:Nat→Prop) (A:Option Addr) (m c:Nat) (l1:List α) (hb:RdE E w D A m l1) (hD:∀b,D b→b < w.heap.size∧∀a,A0=some a→b≠a.block)
  (hbytes:(n+m)*k≤140737488355328) (hnm:n+m≤140737488355328) (hbase:base≤w.heap.size) :
  ∃A' c' w',(Builtin.append_ #[t,t] ty #[.slice A0 n c0,.slice A m c]).run P w=.ok (.slice A' (n+m) c') w'∧OwD E (fun b=>D0 b∨D b) w' base e A' (n+m) c' (l0++l1)∧Below base w w':=by
 obtain ⟨css,hrow,hc,hl,hD0⟩:=hown
 obtain ⟨v',w',dss,hr,h2,h3,h4,h5,h6⟩:=run_append_E (P:=P) w base t ty e z k ht hinfo hzs hk _ n css hrow D A m c l1 hb hbytes hnm hbase
 have hv:∃A' c',v'=.slice A' (n+m) c':=by
  rcases h2.2 with ⟨rfl,h0⟩|⟨g,cap,cur,rfl,_⟩
  ·exact ⟨none,0,by rw [h0]⟩
  ·exact ⟨_,_,rfl⟩
 obtain ⟨A',c',rfl⟩:=hv
 have hall:∀b,(D0 b∨D b)→b < w.heap.size∧∀a,A0=some a→b≠a.block:=fun b hb=>hb.elim (hD0 b) (hD b)
 have hkept:Kept (fun b=>D0 b∨D b) w w':=by
  intro b hb
  refine h5.block b (hall b hb).1 ?_
  intro e
  cases A0 with
  | none=>simp [Value.ownBlock] at e
  | some a =>
   have:b=a.block:=by simpa [Value.ownBlock] using e
   exact (hall b hb).2 a rfl this
 refine ⟨A',c',w',hr,⟨css++dss,h2,?_,by rw [List.length_append,hl,hb.1],fun b hb=>⟨Nat.lt_of_lt_of_le (hall b hb).1 h4.size,fun a ha e=>?_⟩⟩,h4⟩
 ·exact (hc.mono (fun b hb=>hkept b (.inl hb)) (fun _ hb=>.inl hb)).append (h3.mono (fun b hb=>hkept b (.inr hb)) (fun _ hb=>.inr hb))
 ·subst ha
  rcases h6 with h6|h6
  ·cases A0 with
   | none=>simp [Value.ownBlock] at h6
   | some a0 =>
    have e2:a.block=a0.block:=by simpa [Value.ownBlock] using h6
    exact (hall b hb).2 a0 rfl (e.trans e2)
  ·have h7:=h6 a.block rfl
   have h8:=(hall b hb).1
   omega
theorem wpList_append_OwD {P : Program} (w : World) {ops : Array Oper} {rest : List Oper} {o : Oper} {a : Act} {Q : Exit → Act → World → Prop} (hgd : o.guard = none) (s x : Operand) (t : TypeId)
  (ho:o.op=.call {callee:=.builtin .append,args:=#[s,x],argTypes:=#[t,t]})
  (base:Nat) (e:TypeId) (z:Value) (k:Nat) (ht:P.underlying t=some (.slice e)) (hinfo:(P.info? e).map (fun i=>(i.zero,i.size,i.bytes))=some (some z,E.k,k)) (hzs:z.cells.size=E.k) (hk:0 < E.k)
  (D0:Nat→Prop) (A0:Option Addr) (n c0:Nat) (l0:List α) (hs:a.eval s=.slice A0 n c0) (hown:OwD E D0 w base e A0 n c0 l0) (D:Nat→Prop) (A:Option Addr) (m c:Nat) (l1:List α) (hx:a.eval x=.slice A m c) (hb:RdE E w D A m l1) (hD:∀b,D b→b < w.heap.size∧∀a,A0=some a→b≠a.block)
  (N:Nat) (hN:n+m=N) (hbytes:N*k≤140737488355328) (hnm:N≤140737488355328) (hbase:base≤w.heap.size)
  (h:∀A' c' w',OwD E (fun b=>D0 b∨D b) w' base e A' N c' (l0++l1)→Below base w w'→wpList P ops Q rest (a.put o.dst (.slice A' N c')) w'):wpList P ops Q (o::rest) a w:=by
 subst hN
 refine wpList_plain hgd fun K hK=>?_
 obtain ⟨A',c',w',hr,h2,h3⟩:=run_append_OwD (P:=P) w base t o.type e z k ht hinfo hzs hk D0 A0 n c0 l0 hown D A m c l1 hb hD hbytes hnm hbase
 unfold Oper.wp execOp
 simp only [ho,resolve,invoke,builtin,Sem.run_bind,Sem.run_pure,Result.andThen_ok,List.map_toArray,List.map_cons,List.map_nil,hs,hx,hr]
 exact hK _ _ (h A' c' w' h2 h3)
theorem OwD.own {D:Nat→Prop} {w:World} {base e n c:Nat} {A:Option Addr} {l:List α} (h:OwD E D w base e A n c l):OwE E w base e A n c l:=by
 obtain ⟨css,h1,h2,h3,h4⟩:=h
 exact ⟨css,h1,h2.mono (fun _ _=>rfl) (fun b hb=>⟨⟨(h4 b hb).1,fun _ _ _ _=>rfl⟩,(h4 b hb).2⟩),h3⟩
theorem OwD.dom {D D':Nat→Prop} {w:World} {base e n c:Nat} {A:Option Addr} {l:List α} (h:OwD E D w base e A n c l) (h1:∀b,D b→D' b) (h2:∀b,D' b→D b):OwD E D' w base e A n c l:=by
 obtain ⟨css,k1,k2,k3,k4⟩:=h
 exact ⟨css,k1,k2.mono (fun _ _=>rfl) h1,k3,fun b hb=>k4 b (h2 b hb)⟩
theorem OwD.nil_ (E:Enc α) {D:Nat→Prop} (w:World) (base e:Nat) (hD:∀b,D b→b < w.heap.size):OwD E D w base e none 0 0 [] :=
 ⟨[],⟨by simp,.inl ⟨rfl,rfl⟩⟩,⟨rfl,fun i cs x h=>by simp at h⟩,rfl,fun b hb=>⟨hD b hb,fun a ha=>by cases ha⟩⟩
theorem OwD.lt {D:Nat→Prop} {w:World} {base e n c:Nat} {A:Option Addr} {l:List α} (h:OwD E D w base e A n c l):∀a,A=some a→a.block < w.heap.size:=by
 obtain ⟨css,h1,-⟩:=h
 intro a ha
 rcases h1.2 with ⟨h2,-⟩|⟨g,cap,cur,he,-,hg,-⟩
 ·simp only [Value.slice.injEq] at h2
  rw [h2.1] at ha;cases ha
 ·simp only [Value.slice.injEq] at he
  rw [he.1] at ha
  cases ha
  rcases Nat.lt_or_ge g w.heap.size with hlt|hge
  ·exact hlt
  ·rw [Array.getElem?_eq_none hge] at hg;cases hg
end Go.Proofs.Ytmhiohnkjpglfaa

