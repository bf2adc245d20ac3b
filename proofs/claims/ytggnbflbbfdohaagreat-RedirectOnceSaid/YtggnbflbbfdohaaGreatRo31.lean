import Derived.Test.YtggnbflbbfdohaaGreatRo30
import Derived.Test.YtggnbflbbfdohaaGreatRo26
import Derived.Test.YtggnbflbbfdohaaGreatRo24
import Derived.Test.YtggnbflbbfdohaaGreatRo25
import Derived.Test.YtggnbflbbfdohaaGreatRo11
import Derived.Test.YtggnbflbbfdohaaGreatRo18
import Derived.WalkMore
import Derived.ScopeJumps

namespace Go.Proofs.YtggnbflbbfdohaaGreat
open Go.RowKit Go.Shelf Plain

theorem enc_lit1 {α:Type} {E:Enc α} {x:α} {cs:List Value} (hR:∀w D,E.R w D cs x) (W:World) (t:Nat) {lo:Nat} (hlo:lo≤W.heap.size):RdE E (W.alloc (.cells cs.toArray t)) (fun b=>lo≤b∧b < (W.alloc (.cells cs.toArray t)).heap.size) (some ⟨W.heap.size,0,none⟩) 1 [x]:=by
 refine ⟨rfl,fun _=>⟨_,_,rfl,⟨hlo,by simp⟩,fun i y hy=>⟨cs,?_,fun j v hv=>?_⟩⟩⟩
 ·have hi:i=0:=by have:=(List.getElem?_eq_some_iff.1 hy).1;simpa using this
  subst hi
  obtain rfl:x=y:=by simpa using hy
  exact hR _ _
 ·have hi:i=0:=by have:=(List.getElem?_eq_some_iff.1 hy).1;simpa using this
  subst hi
  rw [Nat.zero_mul,Nat.zero_add,Nat.zero_add,(RowL.new W t cs).cell]
  exact hv
theorem owe_apart {α:Type} {E:Enc α} {W:World} {base e n c g t:Nat} {A:Option Addr} {l:List α} {cs:List Value} (ho:OwE E W base e A n c l) (hr:RowL W g t cs) (h:t≠e):some g≠(Value.slice A n c).ownBlock:=by
 obtain ⟨css,hrow,-⟩:=ho
 exact row_apart hrow hr h
end Go.Proofs.YtggnbflbbfdohaaGreat

namespace Go.Proofs.YtggnbflbbfdohaaGreat
open Go.RowKit Go.Shelf Plain

def StopsR (w:World) (D:Nat→Prop) (raws:List RawS) (ss:List StopV):Prop:=raws.length=ss.length∧∀(i:Nat) (r:RawS) (s:StopV),raws[i]?=some r→ss[i]?=some s→r.1=s.1.1∧r.2.2=pathC s.2∧r.2.1.2.1=s.1.2.length∧RdE prEn w D r.2.1.1 s.1.2.length s.1.2
theorem StopsR.mono {w w':World} {D D':Nat→Prop} {raws:List RawS} {ss:List StopV} (h:StopsR w D raws ss) (hk:Kept D w w') (hD:∀b,D b→D' b):StopsR w' D' raws ss:=⟨h.1,fun i r s h1 h2=>by
 obtain ⟨k1,k2,k3,k4⟩:=h.2 i r s h1 h2
 exact ⟨k1,k2,k3,k4.mono hk hD⟩⟩
theorem StopsR.snoc {w:World} {D:Nat→Prop} {raws:List RawS} {ss:List StopV} {r:RawS} {s:StopV} (h:StopsR w D raws ss) (h1:r.1=s.1.1) (h2:r.2.2=pathC s.2) (h3:r.2.1.2.1=s.1.2.length) (h4:RdE prEn w D r.2.1.1 s.1.2.length s.1.2):StopsR w D (raws++[r]) (ss++[s]):=by
 refine ⟨by rw [List.length_append,List.length_append,h.1];rfl,fun i r' s' hr hs=>?_⟩
 by_cases hi:i < raws.length
 ·rw [List.getElem?_append_left hi] at hr
  rw [List.getElem?_append_left (by rw [←h.1];exact hi)] at hs
  exact h.2 i r' s' hr hs
 ·have hi2:i=raws.length:=by have:=(List.getElem?_eq_some_iff.1 hr).1;simp at this;omega
  subst hi2
  rw [List.getElem?_append_right (Nat.le_refl _),Nat.sub_self] at hr
  rw [h.1,List.getElem?_append_right (Nat.le_refl _),Nat.sub_self] at hs
  obtain rfl:r=r':=by simpa using hr
  obtain rfl:s=s':=by simpa using hs
  exact ⟨h1,h2,h3,h4⟩
structure TourI (w : World) (base gT bM cM : Nat) (AS : Option Addr) (nS cS : Nat) (AX : Option Addr) (nX cX : Nat) (F : Nat → Prop) (g : GeoQ) (U L : Value) (up : List NodV) (ss : List StopV) (told : List ShnV) : Prop where
 row:RowL w gT 86 (touC g U L (.map (some bM)) (.slice AS nS cS) (.slice AX nX cX))
 set:SetP w bM cM (fun q=>(twiceS up (walkW up [1])).contains q)
 gTb:base≤gT
 bMb:base≤bM
 gTM:gT≠bM
 fre:∀b,F b→b < w.heap.size∧b≠gT∧b≠bM
 sto:∃raws,OwD rawEn F w base 82 AS nS cS raws∧StopsR w F raws ss
 tol:OwD shnEn F w base 37 AX nX cX told
theorem run_append_OwG {α : Type} {E : Enc α} {P : Program} (w : World) (base : Nat) (t ty e : TypeId) (z : Value) (k : Nat) (ht : P.underlying t = some (.slice e)) (hinfo : (P.info? e).map (fun i => (i.zero, i.size, i.bytes)) = some (some z, E.k, k)) (hzs : z.cells.size = E.k) (hk : 0 < E.k)
  (D0:Nat→Prop) (A0:Option Addr) (n c0:Nat) (l0:List α) (hown:OwD E D0 w base e A0 n c0 l0) (hR:∀ {w w':World} {D D':Nat→Prop} {cs:List Value} {x:α},E.R w D cs x→E.R w' D' cs x) (D:Nat→Prop) (A:Option Addr) (m c:Nat) (l1:List α) (hb:RdE E w D A m l1)
  (hbytes:(n+m)*k≤140737488355328) (hnm:n+m≤140737488355328) (hbase:base≤w.heap.size) :
  ∃A' c' w',(Builtin.append_ #[t,t] ty #[.slice A0 n c0,.slice A m c]).run P w=.ok (.slice A' (n+m) c') w'∧OwD E D0 w' base e A' (n+m) c' (l0++l1)∧Below base w w'∧w.grownBy w' (Value.slice A0 n c0).ownBlock:=by
 obtain ⟨css,hrow,hc,hl,hD0⟩:=hown
 obtain ⟨v',w',dss,hr,h2,h3,h4,h5,h6⟩:=run_append_E (P:=P) w base t ty e z k ht hinfo hzs hk _ n css hrow D A m c l1 hb hbytes hnm hbase
 have hv:∃A' c',v'=.slice A' (n+m) c':=by
  rcases h2.2 with ⟨rfl,h0⟩|⟨g,cap,cur,rfl,_⟩
  ·exact ⟨none,0,by rw [h0]⟩
  ·exact ⟨_,_,rfl⟩
 obtain ⟨A',c',rfl⟩:=hv
 refine ⟨A',c',w',hr,⟨css++dss,h2,?_,by rw [List.length_append,hl,hb.1],fun b hb=>⟨Nat.lt_of_lt_of_le (hD0 b hb).1 h4.size,fun a ha e=>?_⟩⟩,h4,h5⟩
 ·have hc':CellsE E w' D0 css l0:=⟨hc.1,fun i cs x k1 k2=>hR (hc.2 i cs x k1 k2)⟩
  have h3':CellsE E w' D0 dss l1:=⟨h3.1,fun i cs x k1 k2=>hR (h3.2 i cs x k1 k2)⟩
  exact hc'.append h3'
 ·subst ha
  rcases h6 with h6|h6
  ·cases A0 with
   | none=>simp [Value.ownBlock] at h6
   | some a0 =>
    have e2:a.block=a0.block:=by simpa [Value.ownBlock] using h6
    exact (hD0 b hb).2 a0 rfl (e.trans e2)
  ·have h7:=h6 a.block rfl
   have h8:=(hD0 b hb).1
   omega
theorem wp_append_OwG {α : Type} {E : Enc α} {P : Program} (w : World) {o : Oper} {a : Act} {K : Act → World → Prop} {Q : Exit → Act → World → Prop} (s x : Operand) (t : TypeId)
  (ho:o.op=.call {callee:=.builtin .append,args:=#[s,x],argTypes:=#[t,t]})
  (base:Nat) (e:TypeId) (z:Value) (k:Nat) (ht:P.underlying t=some (.slice e)) (hinfo:(P.info? e).map (fun i=>(i.zero,i.size,i.bytes))=some (some z,E.k,k)) (hzs:z.cells.size=E.k) (hk:0 < E.k)
  (D0:Nat→Prop) (A0:Option Addr) (n c0:Nat) (l0:List α) (hs:a.eval s=.slice A0 n c0) (hown:OwD E D0 w base e A0 n c0 l0) (hR:∀ {w w':World} {D D':Nat→Prop} {cs:List Value} {x:α},E.R w D cs x→E.R w' D' cs x) (D:Nat→Prop) (A:Option Addr) (m c:Nat) (l1:List α) (hx:a.eval x=.slice A m c) (hb:RdE E w D A m l1)
  (N:Nat) (hN:n+m=N) (hbytes:N*k≤140737488355328) (hnm:N≤140737488355328) (hbase:base≤w.heap.size)
  (h:∀A' c' w',OwD E D0 w' base e A' N c' (l0++l1)→Below base w w'→w.grownBy w' (Value.slice A0 n c0).ownBlock→K (a.put o.dst (.slice A' N c')) w'):o.wp P a w K Q:=by
 subst hN
 obtain ⟨A',c',w',hr,h2,h3,h4⟩:=run_append_OwG (P:=P) w base t o.type e z k ht hinfo hzs hk D0 A0 n c0 l0 hown hR D A m c l1 hb hbytes hnm hbase
 unfold Oper.wp execOp
 simp only [ho,resolve,invoke,builtin,Sem.run_bind,Sem.run_pure,Result.andThen_ok,List.map_toArray,List.map_cons,List.map_nil,hs,hx,hr]
 exact h A' c' w' h2 h3 h4
theorem OwD.more {α:Type} {E:Enc α} {D D':Nat→Prop} {w:World} {base e n c:Nat} {A:Option Addr} {l:List α} (h:OwD E D w base e A n c l) (h1:∀b,D b→D' b) (h2:∀b,D' b→b < w.heap.size∧∀a,A=some a→b≠a.block):OwD E D' w base e A n c l:=by
 obtain ⟨css,k1,k2,k3,k4⟩:=h
 exact ⟨css,k1,k2.mono (fun _ _=>rfl) h1,k3,h2⟩
end Go.Proofs.YtggnbflbbfdohaaGreat

namespace Go.Proofs.YtggnbflbbfdohaaGreat
open Go.RowKit Go.Shelf Plain

theorem wp_storeVo {P : Program} {w : World} {o : Oper} {a : Act} {K : Act → World → Prop} {Q : Exit → Act → World → Prop} (T : Nat) (x y : Operand) (ho : o.op = .store T x y)
  (hsz:∀w,(sizeOf T).run P w=.ok 1 w) (g off t:Nat) (hx:a.eval x=.pointer (some ⟨g,off,none⟩)) (v:Value) (hy:a.eval y=v) (hv:v.cells=#[v]) (h1:v.oneCell'=true) (cur:List Value) (h:RowL w g t cur) (hfit:off < cur.length)
  (hK:∀w',RowL w' g t (cur.set off v)→w.grownBy w' (some g)→w'.heap.size=w.heap.size→K (a.put o.dst undef) w'):o.wp P a w K Q:=by
 have hst:=run_storeCells_at P g off t [v] 0 cur.toArray w h (by simp;omega) (by simp [h1])
 simp only [Nat.add_zero] at hst
 have hr:(Instr.storeAt T (.pointer (some ⟨g,off,none⟩)) v).run P w=.ok () (w.setRow g (splice cur off [v]).toArray):=by
  simp [Instr.storeAt,Instr.sureAddr,storeVar,hsz,hv,hst,splice]
 unfold Oper.wp execOp
 simp only [ho,Sem.run_bind,Sem.run_pure,Result.andThen_ok,hx,hy,hr]
 have hrow:=h.setRow_ (splice cur off [v])
 rw [splice_one _ _ _ hfit] at hrow ⊢
 exact hK _ hrow (grownBy_setRow _ _ _) (by simp)
end Go.Proofs.YtggnbflbbfdohaaGreat

