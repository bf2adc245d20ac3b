import Derived.Test.YtpndfahgflgocaaDoorXn25
import Derived.Test.YtpndfahgflgocaaDoorXn23
import Derived.Test.YtpndfahgflgocaaDoorXn4
import Derived.Test.YtpndfahgflgocaaDoorXn19

namespace Go.Proofs.YtpndfahgflgocaaDoor
open Go.RowKit Go.Shelf Plain

def noE (x:NodV):NodV:={x with ents:=[]}
theorem noE_plain {x:NodV} (h:PlainN x):PlainN (noE x):=by
 refine ⟨fun i e hi he=>absurd hi (by simp [noE]),h.2.1,h.2.2.1,h.2.2.2.1,by simp [noE],h.2.2.2.2.2.1,fun e he=>by simp [noE] at he⟩
theorem noE_few {up:List NodV} {k:Nat} {x:NodV} (h:FewU up) (hx:up[k]?=some x):FewU (up.set k (noE x)):=by
 refine ⟨by rw [List.length_set];exact h.1,fun y hy=>?_⟩
 rcases List.mem_or_eq_of_mem_set hy with h1|h1
 ·exact h.2 y h1
 ·rw [h1];exact noE_plain (h.2 x (List.mem_of_getElem? hx))
theorem noE_nil {up:List NodV} {k:Nat} {x:NodV} (hx:up[k]?=some x):entB (up.set k (noE x)) ((k:Int)+1)=[]:=by
 have hk:=(List.getElem?_eq_some_iff.1 hx).1
 unfold entB
 rw [nodAt_get (j:=k) (n:=noE x) (by rw [List.getElem?_set_self hk])]
 split
 ·rfl
 ·rfl
theorem noE_keeps {up:List NodV} {k j:Nat} {x:NodV} (hj:j≠k) (h:entB up ((j:Int)+1)=[]):entB (up.set k (noE x)) ((j:Int)+1)=[]:=by
 rcases Nat.lt_or_ge j up.length with h1|h1
 ·have h2:up[j]?=some up[j]:=List.getElem?_eq_getElem h1
  have h3:(up.set k (noE x))[j]?=some up[j]:=by rw [List.getElem?_set_ne (fun e=>hj e.symm)];exact h2
  unfold entB at h ⊢
  rw [nodAt_get h3]
  rw [nodAt_get h2] at h
  exact h
 ·unfold entB
  rw [nodAt_out (by rw [List.length_set];omega)]
  rfl
end Go.Proofs.YtpndfahgflgocaaDoor

namespace Go.Proofs.YtpndfahgflgocaaDoor
open Go.RowKit Plain
variable {α : Type} {E : Enc α}

def OwD (E:Enc α) (D:Nat→Prop) (w:World) (base e:Nat) (A:Option Addr) (n c:Nat) (l:List α):Prop:=∃css,w.ownsRow base e E.k (.slice A n c) n css.flatten∧CellsE E w D css l∧l.length=n∧∀b,D b→b < w.heap.size∧∀a,A=some a→b≠a.block
theorem OwD.empty (E:Enc α) (w:World) (e:Nat):OwD E (fun _=>False) (w.alloc (.cells #[] e)) w.heap.size e (some ⟨w.heap.size,0,none⟩) 0 0 [] :=
 ⟨[],World.ownsRow_lit w #[] 0 (Nat.le_refl _) (by simp [maxLen]) (by simp),⟨rfl,fun i cs x h=>by simp at h⟩,rfl,fun _ h=>h.elim⟩
theorem OwD.grown {D:Nat→Prop} {w w':World} {base e n c:Nat} {A:Option Addr} {l:List α} {r:Option Nat} (h:OwD E D w base e A n c l) (hg:w.grownBy w' r) (hne:∀g,r=some g→¬D g∧∀a,A=some a→a.block≠g):OwD E D w' base e A n c l:=by
 obtain ⟨css,hown,hc,hl,hD⟩:=h
 have hk:Kept D w w':=fun b hb=>hg.block b (hD b hb).1 (fun e=>(hne b e.symm).1 hb)
 refine ⟨css,hown.kept hg ?_,hc.mono hk (fun _ h=>h),hl,fun b hb=>⟨Nat.lt_of_lt_of_le (hD b hb).1 hg.size,(hD b hb).2⟩⟩
 cases A with
 | none=>exact .inl rfl
 | some a=>exact .inr (fun e=>(hne a.block (by rw [←e];rfl)).2 a rfl rfl)
theorem run_append_OwD {P : Program} (w : World) (base : Nat) (t ty e : TypeId) (z : Value) (k : Nat) (ht : P.underlying t = some (.slice e)) (hinfo : (P.info? e).map (fun i => (i.zero, i.size, i.bytes)) = some (some z, E.k, k)) (hzs : z.cells.size = E.k) (hk : 0 < E.k)
  (D0:Nat→Prop) (A0:Option Addr) (n c0:Nat) (l0:List α) (hown:OwD E D0 w base e A0 n c0 l0) (D:Nat→Prop) (A:Option Addr) (m c:Nat) (l1:List α) (hb:RdE E w D A m l1) (hD:∀b,D b→b < w.heap.size∧∀a,A0=some a→b≠a.block)
  (hbytes:(n+m)*k≤140737488355328) (hnm:n+m≤140737488355328) (hbase:base≤w.heap.size) :
  ∃A' c' w',(Builtin.append_ #[t,t] ty #[.slice A0 n c0,.slice A m c]).run P w=.ok (.slice A' (n+m) c') w'∧OwD E (fun b=>D0 b∨D b) w' base e A' (n+m) c' (l0++l1)∧Below base w w':=by
 obtain ⟨css,hrow,hc,hl,hD0⟩:=hown
 obtain ⟨v',w',dss,hr,h2,h3,h4,h5,h6⟩:=run_append_E (P:=P) w base t ty e z k ht hinfo hzs hk _ n css hrow D A m c l1 hb hbytes hnm hbase
 have hv:∃A' c',v'=.slice A' (n+m) c':=by
  rcases h2.2 with ⟨rfl,h0⟩|⟨g,cap,cur,rfl,_⟩
  ·exact ⟨none,0,by rw [h0]⟩
  ·exact ⟨_,_,rfl⟩
 obtain ⟨A',c',rfl⟩:=hv
 have hall:∀b,(D0 b∨D b)→b < w.heap.size∧∀a,A0=some a→b≠a.block:=fun b hb=>hb.elim (hD0 b) (hD b)
 have hkept:Kept (fun b=>D0 b∨D b) w w':=by
  intro b hb
  refine h5.block b (hall b hb).1 ?_
  intro e
  cases A0 with
  | none=>simp [Value.ownBlock] at e
  | some a =>
   have:b=a.block:=by simpa [Value.ownBlock] using e
   exact (hall b hb).2 a rfl this
 refine ⟨A',c',w',hr,⟨css++dss,h2,?_,by rw [List.length_append,hl,hb.1],fun b hb=>⟨Nat.lt_of_lt_of_le (hall b hb).1 h4.size,fun a ha e=>?_⟩⟩,h4⟩
 ·exact (hc.mono (fun b hb=>hkept b (.inl hb)) (fun _ hb=>.inl hb)).append (h3.mono (fun b hb=>hkept b (.inr hb)) (fun _ hb=>.inr hb))
 ·subst ha
  rcases h6 with h6|h6
  ·cases A0 with
   | none=>simp [Value.ownBlock] at h6
   | some a0 =>
    have e2:a.block=a0.block:=by simpa [Value.ownBlock] using h6
    exact (hall b hb).2 a0 rfl (e.trans e2)
  ·have h7:=h6 a.block rfl
   have h8:=(hall b hb).1
   omega
theorem wpList_append_OwD {P : Program} (w : World) {ops : Array Oper} {rest : List Oper} {o : Oper} {a : Act} {Q : Exit → Act → World → Prop} (hgd : o.guard = none) (s x : Operand) (t : TypeId)
  (ho:o.op=.call {callee:=.builtin .append,args:=#[s,x],argTypes:=#[t,t]})
  (base:Nat) (e:TypeId) (z:Value) (k:Nat) (ht:P.underlying t=some (.slice e)) (hinfo:(P.info? e).map (fun i=>(i.zero,i.size,i.bytes))=some (some z,E.k,k)) (hzs:z.cells.size=E.k) (hk:0 < E.k)
  (D0:Nat→Prop) (A0:Option Addr) (n c0:Nat) (l0:List α) (hs:a.eval s=.slice A0 n c0) (hown:OwD E D0 w base e A0 n c0 l0) (D:Nat→Prop) (A:Option Addr) (m c:Nat) (l1:List α) (hx:a.eval x=.slice A m c) (hb:RdE E w D A m l1) (hD:∀b,D b→b < w.heap.size∧∀a,A0=some a→b≠a.block)
  (N:Nat) (hN:n+m=N) (hbytes:N*k≤140737488355328) (hnm:N≤140737488355328) (hbase:base≤w.heap.size)
  (h:∀A' c' w',OwD E (fun b=>D0 b∨D b) w' base e A' N c' (l0++l1)→Below base w w'→wpList P ops Q rest (a.put o.dst (.slice A' N c')) w'):wpList P ops Q (o::rest) a w:=by
 subst hN
 refine wpList_plain hgd fun K hK=>?_
 obtain ⟨A',c',w',hr,h2,h3⟩:=run_append_OwD (P:=P) w base t o.type e z k ht hinfo hzs hk D0 A0 n c0 l0 hown D A m c l1 hb hD hbytes hnm hbase
 unfold Oper.wp execOp
 simp only [ho,resolve,invoke,builtin,Sem.run_bind,Sem.run_pure,Result.andThen_ok,List.map_toArray,List.map_cons,List.map_nil,hs,hx,hr]
 exact hK _ _ (h A' c' w' h2 h3)
theorem OwD.own {D:Nat→Prop} {w:World} {base e n c:Nat} {A:Option Addr} {l:List α} (h:OwD E D w base e A n c l):OwE E w base e A n c l:=by
 obtain ⟨css,h1,h2,h3,h4⟩:=h
 exact ⟨css,h1,h2.mono (fun _ _=>rfl) (fun b hb=>⟨⟨(h4 b hb).1,fun _ _ _ _=>rfl⟩,(h4 b hb).2⟩),h3⟩
theorem OwD.dom {D D':Nat→Prop} {w:World} {base e n c:Nat} {A:Option Addr} {l:List α} (h:OwD E D w base e A n c l) (h1:∀b,D b→D' b) (h2:∀b,D' b→D b):OwD E D' w base e A n c l:=by
 obtain ⟨css,k1,k2,k3,k4⟩:=h
 exact ⟨css,k1,k2.mono (fun _ _=>rfl) h1,k3,fun b hb=>k4 b (h2 b hb)⟩
theorem OwD.nil_ (E:Enc α) {D:Nat→Prop} (w:World) (base e:Nat) (hD:∀b,D b→b < w.heap.size):OwD E D w base e none 0 0 [] :=
 ⟨[],⟨by simp,.inl ⟨rfl,rfl⟩⟩,⟨rfl,fun i cs x h=>by simp at h⟩,rfl,fun b hb=>⟨hD b hb,fun a ha=>by cases ha⟩⟩
theorem OwD.lt {D:Nat→Prop} {w:World} {base e n c:Nat} {A:Option Addr} {l:List α} (h:OwD E D w base e A n c l):∀a,A=some a→a.block < w.heap.size:=by
 obtain ⟨css,h1,-⟩:=h
 intro a ha
 rcases h1.2 with ⟨h2,-⟩|⟨g,cap,cur,he,-,hg,-⟩
 ·simp only [Value.slice.injEq] at h2
  rw [h2.1] at ha;cases ha
 ·simp only [Value.slice.injEq] at he
  rw [he.1] at ha
  cases ha
  rcases Nat.lt_or_ge g w.heap.size with hlt|hge
  ·exact hlt
  ·rw [Array.getElem?_eq_none hge] at hg;cases hg
end Go.Proofs.YtpndfahgflgocaaDoor

namespace Go.Proofs.YtpndfahgflgocaaDoor
open Go.RowKit Plain
variable {α : Type} {E : Enc α}

theorem OwD.len {D:Nat→Prop} {w:World} {base e:Nat} {A:Option Addr} {n c:Nat} {l:List α} (h:OwD E D w base e A n c l):l.length=n:=by
 obtain ⟨css,-,-,h3,-⟩:=h
 exact h3
theorem OwD.row {D:Nat→Prop} {w:World} {base e g n c:Nat} {l:List α} (h:OwD E D w base e (some ⟨g,0,none⟩) n c l):∃css rest,RowL w g e (css.flatten++rest)∧CellsE E w D css l∧css.flatten.length=n*E.k:=by
 obtain ⟨css,hown,hc,hl,hD⟩:=h
 have h1:=hown.1
 rcases hown.2 with ⟨h2,-⟩|⟨g',cap,cur,he,-,hg,-,-,-,ht⟩
 ·simp at h2
 ·simp only [Value.slice.injEq,Option.some.injEq,Addr.mk.injEq,and_true,true_and] at he
  obtain ⟨rfl,rfl⟩:=he
  refine ⟨css,cur.toList.drop (n*E.k),?_,hc,h1⟩
  unfold RowL
  rw [hg,←ht,List.take_append_drop]
theorem OwD.base {D:Nat→Prop} {w:World} {base e g n c:Nat} {l:List α} (h:OwD E D w base e (some ⟨g,0,none⟩) n c l):base≤g∧g < w.heap.size:=by
 obtain ⟨css,hown,-⟩:=h
 exact World.ownsRow.lt hown g rfl
theorem flat_len' : ∀ {css : List (List Value)} {k : Nat}, (∀ cs ∈ css, cs.length = k) → css.flatten.length = css.length * k
 | [],k,_=>by simp
 | c::r,k,h=>by
  have h1:=flat_len' (css:=r) (k:=k) (fun x hx=>h x (List.mem_cons_of_mem _ hx))
  rw [List.flatten_cons,List.length_append,h c List.mem_cons_self,h1,List.length_cons,Nat.succ_mul]
  omega
theorem flat_at {k:Nat}:∀ {css:List (List Value)} (_:∀cs∈css,cs.length=k) (j:Nat) (cs:List Value),css[j]?=some cs→(css.flatten.drop (j*k)).take k=cs:=by
 intro css
 induction css with
 | nil=>intro _ j cs h;simp at h
 | cons c0 r ih =>
  intro hk j cs h
  have h0:c0.length=k:=hk c0 List.mem_cons_self
  cases j with
  | zero =>
   obtain rfl:c0=cs:=by simpa using h
   rw [Nat.zero_mul,List.drop_zero,List.flatten_cons,List.take_left' h0]
  | succ j =>
   have:=ih (fun c hc=>hk c (List.mem_cons_of_mem _ hc)) j cs (by simpa using h)
   rw [List.flatten_cons,show (j+1)*k=c0.length+j*k from by rw [Nat.succ_mul,h0];omega,List.drop_append,List.drop_of_length_le (by omega),Nat.add_sub_cancel_left,List.nil_append]
   exact this
theorem splice_app {L R:List Value} {p:Nat} {cs:List Value} (h:p+cs.length≤L.length):splice (L++R) p cs=splice L p cs++R:=by
 unfold splice
 rw [List.take_append_of_le_length (by omega),List.drop_append_of_le_length (by omega)]
 simp only [List.append_assoc]
theorem OwD.put {D:Nat→Prop} {w w':World} {base e g n c j:Nat} {l:List α} {x:α} {cs cur:List Value} (h:OwD E D w base e (some ⟨g,0,none⟩) n c l) (hj:j < n) (hx:E.R w D cs x) (hcur:RowL w g e cur) (hr:RowL w' g e (splice cur (j*E.k) cs)) (hg:w.grownBy w' (some g)):OwD E D w' base e (some ⟨g,0,none⟩) n c (l.set j x):=by
 obtain ⟨css,hown,hc,hl,hD⟩:=h
 have hlen:=hown.1
 have hcs:cs.length=E.k:=E.len hx
 have hall:∀d∈css,d.length=E.k:=hc.lens
 have hcl:css.length=n:=by rw [hc.1,hl]
 have hk:Kept D w w':=fun b hb=>hg.block b (hD b hb).1 (fun e=>(hD b hb).2 _ rfl (Option.some.inj e))
 rcases hown.2 with ⟨h2,-⟩|⟨g',cap,arr,he,hbg,hga,hnc,hcm,hsz,ht⟩
 ·simp at h2
 simp only [Value.slice.injEq,Option.some.injEq,Addr.mk.injEq,and_true,true_and] at he
 obtain ⟨rfl,rfl⟩:=he
 have ecur:cur=arr.toList:=by
  have:=hga.symm.trans hcur
  injection this with this
  injection this with this
  rw [this]
 have hjk:j*E.k+E.k≤n*E.k:=by
  have:(j+1)*E.k≤n*E.k:=Nat.mul_le_mul_right _ (by omega)
  rw [Nat.succ_mul] at this
  exact this
 have ncap:n*E.k≤c*E.k:=Nat.mul_le_mul_right _ hnc
 have esp:splice cur (j*E.k) cs=(css.set j cs).flatten++arr.toList.drop (n*E.k):=by
  have e1:cur=css.flatten++arr.toList.drop (n*E.k):=by rw [ecur,←ht,List.take_append_drop]
  rw [e1,splice_app (by rw [hlen,hcs];exact hjk),flat_put hall j cs hcs (by omega)]
 rw [esp] at hr
 have hall':∀d∈css.set j cs,d.length=E.k:=fun d hd=>by
  rcases List.mem_or_eq_of_mem_set hd with h1|h1
  ·exact hall d h1
  ·rw [h1];exact hcs
 have hfl:(css.set j cs).flatten.length=n*E.k:=by rw [flat_len' hall',List.length_set,hcl]
 have hal:arr.toList.length=c*E.k:=by rw [Array.length_toList,hsz]
 refine ⟨css.set j cs,⟨hfl,.inr ⟨g,c,_,rfl,hbg,hr,hnc,hcm,?_,?_⟩⟩,⟨by rw [List.length_set,List.length_set,hc.1],fun i ds y hi hy=>?_⟩,by rw [List.length_set,hl],fun b hb=>⟨Nat.lt_of_lt_of_le (hD b hb).1 hg.size,(hD b hb).2⟩⟩
 ·rw [List.size_toArray,List.length_append,hfl,List.length_drop,hal]
  omega
 ·simp only [List.take_left' hfl]
 ·rw [List.getElem?_set] at hi hy
  by_cases hij:j=i
  ·subst hij
   rw [if_pos rfl,if_pos (by omega)] at hi hy
   cases hi;cases hy
   exact E.mono hx hk (fun _ h=>h)
  ·rw [if_neg hij] at hi hy
   exact E.mono (hc.2 i ds y hi hy) hk (fun _ h=>h)
theorem OwD.at {D:Nat→Prop} {w:World} {base e g n c j:Nat} {l:List α} {x:α} (h:OwD E D w base e (some ⟨g,0,none⟩) n c l) (hx:l[j]?=some x):∃cur cs,RowL w g e cur∧E.R w D cs x∧(cur.drop (j*E.k)).take E.k=cs∧j*E.k+E.k≤cur.length:=by
 obtain ⟨css,rest,hr,hc,hf⟩:=h.row
 have hn:=h.len
 have hjn:j < n:=by have:=(List.getElem?_eq_some_iff.1 hx).1;omega
 have hall:∀d∈css,d.length=E.k:=hc.lens
 obtain ⟨cs,hcs⟩:∃cs,css[j]?=some cs:=⟨_,List.getElem?_eq_getElem (by rw [hc.1];omega)⟩
 have hR:=hc.2 j cs x hcs hx
 have hjk:j*E.k+E.k≤n*E.k:=by
  have:(j+1)*E.k≤n*E.k:=Nat.mul_le_mul_right _ (by omega)
  rw [Nat.succ_mul] at this
  exact this
 refine ⟨_,cs,hr,hR,?_,by rw [List.length_append,hf];omega⟩
 have hc0:cs.length=E.k:=E.len hR
 have hfl:=flat_at hall j cs hcs
 rw [List.drop_append_of_le_length (by omega),List.take_append_of_le_length (by rw [List.length_drop];omega)]
 exact hfl
theorem OwD.base8 {α:Type} {E:Enc α} {D:Nat→Prop} {w:World} {base e n c:Nat} {A:Option Addr} {l:List α} (h:OwD E D w base e A n c l):∀a,A=some a→base≤a.block:=by
 intro a ha
 obtain ⟨css,hown,-⟩:=h
 subst ha
 exact (World.ownsRow.lt hown a.block rfl).1
theorem OwD.rd {α:Type} {E:Enc α} {D:Nat→Prop} {w:World} {base e n c:Nat} {A:Option Addr} {l:List α} (h:OwD E D w base e A n c l):RdE E w (Under w.heap.size) A n l:=(h.own.rd rfl).plain
theorem OwD.some_ {α:Type} {E:Enc α} {D:Nat→Prop} {w:World} {base e n c:Nat} {A:Option Addr} {l:List α} (h:OwD E D w base e A n c l) (hn:0 < n):∃g,A=some ⟨g,0,none⟩∧base≤g∧g < w.heap.size:=by
 obtain ⟨css,hown,-⟩:=h
 rcases hown.2 with ⟨-,h0⟩|⟨g,cap,cur,he,hb,hg,-⟩
 ·omega
 ·simp only [Value.slice.injEq] at he
  exact ⟨g,he.1,hb,RowL.lt (cs:=cur.toList) (by unfold RowL;exact hg)⟩
end Go.Proofs.YtpndfahgflgocaaDoor

namespace Go.Proofs.YtpndfahgflgocaaDoor
open Go.RowKit Go.Shelf Plain

set_option maxRecDepth 100000 in
set_option maxHeartbeats 800000 in
theorem CloneNod_d {B:Nat} {A:Option Addr} {n c:Nat} {l:List NodV} (w:World) (h:RdE nodEn w (Under B) A n l) (hB:B≤w.heap.size) (hn:n≤100000):Calls Tryd.prog 7 #[.slice A n c] w (fun e w'=>∃A' c',e=.returned (.slice A' n c')∧OwD nodEn (Under B) w' w.heap.size 42 A' n c' l∧Below w.heap.size w w'):=by
 have H:=hide h
 cases A with
 | none =>
  have h0:n=0:=by
   rcases Nat.eq_zero_or_pos n with h0|h0
   ·exact h0
   ·obtain ⟨_,_,e,_⟩:=h.2 h0;cases e
  subst h0
  obtain rfl:l=[]:=List.eq_nil_of_length_eq_zero h.1
  have hnil:=fun W=>Lib.run_eql_slice_nil (P:=Tryd.prog) W 24 42 none 0 c 0 0 Tryd.underlying24
  clear h
  go_enter Tryd.func7,Tryd.ntmps7
  go_wp2
  go_ret
  exact ⟨none,0,rfl,OwD.nil_ _ _ _ _ (fun _ h=>Nat.lt_of_lt_of_le h hB),below_self w⟩
 | some a =>
  have hnil:=fun W=>Lib.run_eql_slice_nil (P:=Tryd.prog) W 24 42 (some a) n c 0 0 Tryd.underlying24
  clear h
  go_enter Tryd.func7,Tryd.ntmps7
  go_wp2_with (at_builtin;refine wpList_append_OwD (E:=nodEn) _ rfl (.tmp 5) (.tmp 6) 24 rfl w.heap.size 42 (.agg nodZ.toArray) 144 Tryd.underlying24 nodw_info rfl (by decide) (fun _=>False) (some ⟨w.heap.size,0,none⟩) 0 0 [] rfl (OwD.empty nodEn w 42) (Under B) (some a) n c l rfl (und_at H.out (below_new (below_self w) _) hB) (fun b hb=>⟨by unfold Under at hb;simp;omega,fun a' ha=>by cases ha;exact Nat.ne_of_lt (Nat.lt_of_lt_of_le hb hB)⟩) n (by omega) (by omega) (by omega) (by simp) ?_;intro A5 c5 w5 ho5 hb5;have HO5:=hide ho5;have HB5:=hide hb5;clear ho5 hb5)
  go_ret
  exact ⟨A5,c5,rfl,HO5.out.dom (fun _ h=>h.elim (fun h=>h.elim) (fun h=>h)) (fun _ h=>.inr h),(below_new (below_self w) _).trans HB5.out⟩
end Go.Proofs.YtpndfahgflgocaaDoor

