import Derived.Test.YtmhiohnkjpglfaaGreatWs4
import Derived.Test.YtmhiohnkjpglfaaGreatRows
import Derived.Test.YtmhiohnkjpglfaaGreatWs2
import Derived.IntWalk
import Derived.Below
import Derived.Laws.FloatArith
import Derived.Test.YtmhiohnkjpglfaaGreatWs1
import Derived.WalkKit
import Derived.WalkSpells
import Derived.WalkLawsBesides
import Derived.StillTailTactics
import Derived.BigQuiet
import Derived.Deep.QuietTactic
import Derived.Test.YtmhiohnkjpglfaaGreatWs3
import Derived.Laws.Cover3
import Derived.Deep.RegionHeld3
import Derived.ChangeKeysEq
import Derived.Deep.Cut
import Derived.Deep.CutRange
import Derived.RangeFuncNested
import Derived.RangeFuncBound
import Derived.RangeFuncCalls
import Derived.RangeFuncLeaves
import Derived.Shelf.Abstract
import Derived.Shelf.RegionOpen
import Derived.OwnWalkIn
import Derived.TacticsInMore
import Derived.LoopNIn
import Derived.LoopIn
import Derived.RangeFuncFrom
import Derived.RangeFuncWrites
import Derived.Great.BuildSlice
import Derived.Lib.SlBytesConst
import Derived.Shelf.SlicesQ.Contains
import Derived.Shelf.SlicesE.Clone
import Derived.Shelf.SlicesQ.IndexFunc
import Derived.Lib.SmallJoins

namespace Go.Proofs.YtmhiohnkjpglfaaGreat
open Go

inductive PT (α : Type) where
 | leaf:PT α
 | take:α→PT α→PT α
 | alt:α→PT α→PT α→PT α
 | stop:PT α
def PT.map {α β : Type} (f : α → β) : PT α → PT β
 | .leaf=>.leaf
 | .take x t=>.take (f x) (t.map f)
 | .alt x t u=>.alt (f x) (t.map f) (u.map f)
 | .stop=>.stop
def PT.depth {α : Type} : PT α → Nat
 | .leaf=>0
 | .take _ t=>t.depth+1
 | .alt _ t u=>max (t.depth+1) u.depth
 | .stop=>0
def PT.chain {α : Type} : PT α → List α
 | .alt x _ u=>x::u.chain
 | _=>[]
def eqN : List Nat → List Nat → Bool
 | [],[]=>true
 | x::r,y::q=>Nat.beq x y&&eqN r q
 | _,_=>false
mutual
def okT (md : Region.Mode) (ops : Array Oper) (ns : List Nat) (s : Nat) : PT Nat → Bool
 | .leaf=>(readyN s ns 0).isEmpty
 | .take i t=>hasN (readyN s ns 0) i&&(freeN md ops s i ops.toList 0&&okT md ops ns (withN s i) t)
 | .alt i t u=>eqN (readyN s ns 0) (i::u.chain)&&(okT md ops ns (withN s i) t&&okC md ops ns s u)
 | .stop=>false
def okC (md : Region.Mode) (ops : Array Oper) (ns : List Nat) (s : Nat) : PT Nat → Bool
 | .alt i t u=>okT md ops ns (withN s i) t&&okC md ops ns s u
 | .stop=>true
 | .leaf=>false
 | .take _ _=>false
end
theorem eqN_eq : ∀ (l k : List Nat), eqN l k = true → l = k
 | [],[],_=>rfl
 | x::r,y::q,h=>by
  unfold eqN at h
  rw [Bool.and_eq_true] at h
  rw [Nat.eq_of_beq_eq_true h.1,eqN_eq r q h.2]
 | [],_::_,h=>by cases h
 | _::_,[],h=>by cases h

section
variable {P : Program} {ops : Array Oper} {Q : Exit → Act → World → Prop} {S : World → Prop}
def wpPT (P : Program) (ops : Array Oper) (Q : Exit → Act → World → Prop) (S : World → Prop) : PT (Option Oper) → Act → World → Prop
 | .leaf,a,w=>Q .normal a w
 | .take (some o) t,a,w=>∃v,YieldsIf P ops S o v a∧wpPT P ops Q S t (a.put o.dst v) w
 | .alt (some o) t u,a,w=>(if Region.wanted o (yielded ops a.tmps)=true then Oper.wp P o a w (fun a' w'=>S w'∧wpPT P ops Q S t a' w') Q else wpPT P ops Q S t (a.put o.dst undef) w)∧wpPT P ops Q S u a w
 | .stop,_,_=>True
 | _,_,_=>False
theorem wpAnyH_PT {md:Region.Mode} (hs:Region.noSelect ops=true) (hQ:∀c a d v w,Q (.panic c) (Act.put a d v) w→Q (.panic c) a w) (t:PT Nat) :
  ∀(fuel s:Nat) (listed:Array Bool) (a:Act) (w:World),RelN ops listed s→S w→wpPT P ops Q S (t.map fun i=>ops[i]?) a w→t.depth≤fuel →
   (okT md ops (needsN md ops) s t=true→wpAnyH P md ops Q S fuel listed a w) ∧
   (okC md ops (needsN md ops) s t=true→∀k,fuel=k+1→∀x∈t.chain,x < ops.size∧wpOp P ops Q x (fun a' w'=>S w'∧wpAnyH P md ops Q S k (listed.setIfInBounds x true) a' w') a w):=by
 have hlen:(needsN md ops).length=ops.size:=by simp [needsN]
 induction t with
 | leaf =>
  intro fuel s listed a w hr hS h _
  refine ⟨fun hok=>?_,fun hok=>by simp [okC] at hok⟩
  unfold okT at hok
  have e:=ready_same (md:=md) hr
  rw [List.isEmpty_iff] at hok
  exact wpAnyH_done (by rw [e,hok]) h fuel
 | take i t ih =>
  intro fuel s listed a w hr hS h hl
  refine ⟨fun hok=>?_,fun hok=>by simp [okC] at hok⟩
  obtain ⟨fuel,rfl⟩:∃k,fuel=k+1:=⟨fuel - 1,by simp [PT.depth] at hl;omega⟩
  have hl':t.depth≤fuel:=by simpa [PT.depth] using hl
  unfold okT at hok
  rw [Bool.and_eq_true,Bool.and_eq_true] at hok
  obtain ⟨h1,h2,h3⟩:=hok
  have hmem:=hasN_mem _ _ h1
  have hi:i < ops.size:=by rw [←hlen];exact readyN_lt hmem
  have ho:ops[i]?=some ops[i]:=Array.getElem?_eq_getElem hi
  simp only [PT.map,ho] at h
  obtain ⟨v,hy,hw⟩:=h
  exact wpAnyH_take ho hs (free_same hr hi h2) (by rw [ready_same hr];simpa using hmem) (fun c a w=>hQ c a _ _ w) hy hS ((ih fuel _ _ _ w (hr.set hi) hS hw hl').1 h3)
 | alt i t u iht ihu =>
  intro fuel s listed a w hr hS h hl
  have hl1:t.depth+1≤fuel:=by simp [PT.depth] at hl;omega
  have hl2:u.depth≤fuel:=by simp [PT.depth] at hl;omega
  have main:okT md ops (needsN md ops) (withN s i) t=true→okC md ops (needsN md ops) s u=true→i < ops.size→∀k,fuel=k+1→∀x∈i::u.chain,x < ops.size∧wpOp P ops Q x (fun a' w'=>S w'∧wpAnyH P md ops Q S k (listed.setIfInBounds x true) a' w') a w:=by
   intro h2 h3 hi k hk x hx
   have ho:ops[i]?=some ops[i]:=Array.getElem?_eq_getElem hi
   simp only [PT.map,ho] at h
   unfold wpPT at h
   obtain ⟨ha,hu⟩:=h
   rcases List.mem_cons.1 hx with rfl|hx
   ·refine ⟨hi,?_⟩
    unfold wpOp
    simp only [ho]
    split
    ·rename_i hw
     rw [if_pos hw] at ha
     exact .inl (Oper.wp_mono (fun a' w' hk'=>⟨hk'.1,(iht k _ _ _ _ (hr.set hi) hk'.1 hk'.2 (by omega)).1 h2⟩) ha)
    ·rename_i hw
     rw [if_neg hw] at ha
     exact ⟨hS,(iht k _ _ _ _ (hr.set hi) hS ha (by omega)).1 h2⟩
   ·exact (ihu fuel s listed a w hr hS hu hl2).2 h3 k hk x hx
  have lt_of:okT md ops (needsN md ops) (withN s i) t=true→wpPT P ops Q S ((PT.alt i t u).map fun i=>ops[i]?) a w→i < ops.size:=by
   intro _ hw
   rcases Nat.lt_or_ge i ops.size with hi|hi
   ·exact hi
   ·simp only [PT.map,Array.getElem?_eq_none hi] at hw
    unfold wpPT at hw
    exact absurd hw (by simp)
  refine ⟨fun hok=>?_,fun hok k hk x hx=>?_⟩
  ·unfold okT at hok
   rw [Bool.and_eq_true,Bool.and_eq_true] at hok
   obtain ⟨h1,h2,h3⟩:=hok
   have e:=eqN_eq _ _ h1
   obtain ⟨fuel,rfl⟩:∃k,fuel=k+1:=⟨fuel - 1,by omega⟩
   have hrd:=ready_same (md:=md) hr
   rw [e] at hrd
   refine wpAnyH_all hrd (by simp) (fun x hx=>?_)
   exact (main h2 h3 (lt_of h2 h) fuel rfl x hx).2
  ·unfold okC at hok
   rw [Bool.and_eq_true] at hok
   exact main hok.1 hok.2 (lt_of hok.1 h) k hk x hx
 | stop =>
  intro fuel s listed a w hr hS h _
  exact ⟨fun hok=>by simp [okT] at hok,fun _ k _ x hx=>by simp [PT.chain] at hx⟩

theorem wpPT_leaf {a:Act} {w:World} (h:Q .normal a w):wpPT P ops Q S .leaf a w:=h
theorem wpPT_take {o : Oper} {t : PT (Option Oper)} {a : Act} {w : World} {v : Value} (hw : Region.wanted o (yielded ops a.tmps) = true) (hv : ∀ w, S w → (execOp a.eval o).run P w = .ok (.value v) w)
  (h:wpPT P ops Q S t (a.put o.dst v) w):wpPT P ops Q S (.take (some o) t) a w:=⟨v,.inl ⟨hw,hv⟩,h⟩
theorem wpPT_stop {a:Act} {w:World}:wpPT P ops Q S .stop a w:=trivial
theorem wpPT_alt {o : Oper} {t u : PT (Option Oper)} {a : Act} {w : World} (hw : Region.wanted o (yielded ops a.tmps) = true)
  (h:∀K':Act→World→Prop,Shut (∀a' w',S w'→(S w'→wpPT P ops Q S t a' w')→K' a' w')→Oper.wp P o a w K' Q) (hu:wpPT P ops Q S u a w):wpPT P ops Q S (.alt (some o) t u) a w:=by
 unfold wpPT
 rw [if_pos hw]
 exact ⟨h _ (fun a' w' hS hr=>⟨hS,hr hS⟩),hu⟩
theorem wp_region_G {id : Nat} {a : Act} {w : World} (S : World → Prop) (t : PT Nat) {l : PT (Option Oper)} (hm : P.follows .mixedOrders = true) (hok : okT .any ops (needsN .any ops) 0 t = true) (hn : Region.noSelect ops = true) (hlen : decide (t.depth ≤ ops.size) = true)
  (hl:t.map (fun i=>ops[i]?)=l) (hQ:∀c a k v w,Q (.panic c) (Act.put a (some k) v) w→Q (.panic c) a w) (hS:S w.drew) (h:S w.drew→wpPT P ops Q S l a w.drew):(Code.region id ops true).wp P Q a w:=by
 subst hl
 exact wp_region_held hm ((wpAnyH_PT hn (panic_put hQ) t _ _ _ _ _ (relN_zero ops) hS (h hS) (of_decide_eq_true hlen)).1 hok)
end
end Go.Proofs.YtmhiohnkjpglfaaGreat

namespace Go.Proofs.YtmhiohnkjpglfaaGreat
open Go.RowKit

def VRet (w:World) (v:Value) (x:Ending) (w':World):Prop:=x=.returned v∧Below w.heap.size w w'
theorem VRet.of {w w':World} {v:Value} (h:Below w.heap.size w w'):VRet w v (.returned v) w':=⟨rfl,h⟩
theorem VRet.eq {w w':World} {u v:Value} (e:u=v) (h:Below w.heap.size w w'):VRet w v (.returned u) w':=⟨by rw [e],h⟩
end Go.Proofs.YtmhiohnkjpglfaaGreat

namespace Go.Proofs.YtmhiohnkjpglfaaGreat.Plain
open Ieee

def F (n:Nat):Nat:=double.nearest false n 0

end Go.Proofs.YtmhiohnkjpglfaaGreat.Plain

namespace Go.Proofs.YtmhiohnkjpglfaaGreat
open Go.RowKit Plain

def BoolRet (w:World) (b:Bool) (x:Ending) (w':World):Prop:=x=.returned (.bool b)∧Below w.heap.size w w'
theorem BoolRet.of {w w':World} {b:Bool} (h:Below w.heap.size w w'):BoolRet w b (.returned (.bool b)) w':=⟨rfl,h⟩

end Go.Proofs.YtmhiohnkjpglfaaGreat

namespace Go.Proofs.YtmhiohnkjpglfaaGreat
open Go.RowKit
variable {α β : Type} {E : Enc α}

theorem wp_append_OwE [Tags] {P : Program} (w : World) {o : Oper} {a : Act} {K : Act → World → Prop} {Q : Exit → Act → World → Prop} (s x : Operand) (t : TypeId)
  (ho:o.op=.call {callee:=.builtin .append,args:=#[s,x],argTypes:=#[t,t]})
  (base:Nat) (e:TypeId) (z:Value) (k:Nat) (ht:P.underlying t=some (.slice e)) (hinfo:(P.info? e).map (fun i=>(i.zero,i.size,i.bytes))=some (some z,E.k,k)) (hzs:z.cells.size=E.k) (hk:0 < E.k)
  (A0:Option Addr) (n c0:Nat) (l0:List α) (hs:a.eval s=.slice A0 n c0) (hown:OwE E w base e A0 n c0 l0) (D:Nat→Prop) (A:Option Addr) (m c:Nat) (l1:List α) (hx:a.eval x=.slice A m c) (hb:RdE E w D A m l1) (hD:∀b,D b→But w A0 b)
  (N:Nat) (hN:n+m=N) (hbytes:N*k≤140737488355328) (hnm:N≤140737488355328) (hbase:base≤w.heap.size)
  (h:∀A' c' w',OwE E w' base e A' N c' (l0++l1)→Below base w w'→K (a.put o.dst (.slice A' N c')) w'):o.wp P a w K Q:=by
 subst hN
 obtain ⟨A',c',w',hr,h2,h3⟩:=run_append_OwE (P:=P) w base t o.type e z k ht hinfo hzs hk A0 n c0 l0 hown D A m c l1 hb hD hbytes hnm hbase
 unfold Oper.wp execOp
 simp only [ho,resolve,invoke,builtin,Sem.run_bind,Sem.run_pure,Result.andThen_ok,List.map_toArray,List.map_cons,List.map_nil,hs,hx,hr]
 exact h A' c' w' h2 h3
theorem wpList_append_OwE [Tags] {P : Program} (w : World) {ops : Array Oper} {rest : List Oper} {o : Oper} {a : Act} {Q : Exit → Act → World → Prop} (hgd : o.guard = none) (s x : Operand) (t : TypeId)
  (ho:o.op=.call {callee:=.builtin .append,args:=#[s,x],argTypes:=#[t,t]})
  (base:Nat) (e:TypeId) (z:Value) (k:Nat) (ht:P.underlying t=some (.slice e)) (hinfo:(P.info? e).map (fun i=>(i.zero,i.size,i.bytes))=some (some z,E.k,k)) (hzs:z.cells.size=E.k) (hk:0 < E.k)
  (A0:Option Addr) (n c0:Nat) (l0:List α) (hs:a.eval s=.slice A0 n c0) (hown:OwE E w base e A0 n c0 l0) (D:Nat→Prop) (A:Option Addr) (m c:Nat) (l1:List α) (hx:a.eval x=.slice A m c) (hb:RdE E w D A m l1) (hD:∀b,D b→But w A0 b)
  (N:Nat) (hN:n+m=N) (hbytes:N*k≤140737488355328) (hnm:N≤140737488355328) (hbase:base≤w.heap.size)
  (h:∀A' c' w',OwE E w' base e A' N c' (l0++l1)→Below base w w'→wpList P ops Q rest (a.put o.dst (.slice A' N c')) w'):wpList P ops Q (o::rest) a w :=
 wpList_plain hgd fun _ hK=>wp_append_OwE w s x t ho base e z k ht hinfo hzs hk A0 n c0 l0 hs hown D A m c l1 hx hb hD N hN hbytes hnm hbase (fun A' c' w' h1 h2=>hK _ _ (h A' c' w' h1 h2))

theorem flat_set {css:List (List Value)} (hk:∀cs∈css,cs.length=1) (p:Nat) (u:Value) (hp:p < css.length):css.flatten.set p u=(css.set p [u]).flatten:=by
 induction css generalizing p with
 | nil=>simp at hp
 | cons c r ih =>
  have hc:c.length=1:=hk c List.mem_cons_self
  obtain ⟨x,rfl⟩:∃x,c=[x]:=by match c,hc with|[x],_=>exact ⟨x,rfl⟩
  cases p with
  | zero=>rfl
  | succ p =>
   simp only [List.set_cons_succ,List.flatten_cons,List.singleton_append]
   rw [ih (fun cs h=>hk cs (List.mem_cons_of_mem _ h)) p (by simpa using hp)]
theorem OwE.store [Tags] {w:World} {base e n c g p:Nat} {l:List α} {u:Value} {x:α} {D:Nat→Prop} (h:OwE E w base e (some ⟨g,0,none⟩) n c l) (hk:E.k=1) (hp:p < n) (hR:E.R w D [u] x) (hD:∀b,D b→But w (some ⟨g,0,none⟩) b) :
  OwE E (w.setCell ⟨g,p,none⟩ u) base e (some ⟨g,0,none⟩) n c (l.set p x):=by
 obtain ⟨css,hown,hc,hl⟩:=h
 have hlens:∀cs∈css,cs.length=1:=fun cs hcs=>(hc.lens cs hcs).trans hk
 have hpc:p < css.length:=by rw [hc.1,hl];exact hp
 have hsz:(w.setCell ⟨g,p,none⟩ u).heap.size=w.heap.size:=by simp [World.setCell]
 have hkept:Kept (But w (some ⟨g,0,none⟩)) w (w.setCell ⟨g,p,none⟩ u):=fun b hb=>Below.heap_setCell w ⟨g,p,none⟩ u b (fun e=>hb.2 _ rfl e)
 have hbut:∀b,But w (some ⟨g,0,none⟩) b→But (w.setCell ⟨g,p,none⟩ u) (some ⟨g,0,none⟩) b:=fun b hb=>⟨hb.1.eq (by rw [hsz];exact Nat.le_refl _) (hkept b hb),hb.2⟩
 refine ⟨css.set p [u],?_,⟨by rw [List.length_set,List.length_set];exact hc.1,fun i cs y h1 h2=>?_⟩,by rw [List.length_set];exact hl⟩
 ·rw [←flat_set hlens p u hpc]
  rw [hk] at hown ⊢
  exact (World.ownsRow.stored hown p u).1
 ·by_cases hi:p=i
  ·subst hi
   rw [List.getElem?_set_self hpc] at h1
   rw [List.getElem?_set_self (by rw [hl];exact hp)] at h2
   cases h1
   cases h2
   exact E.mono hR (fun b hb=>hkept b (hD b hb)) (fun b hb=>hbut b (hD b hb))
  ·rw [List.getElem?_set_ne hi] at h1 h2
   exact E.mono (hc.2 i cs y h1 h2) hkept hbut
theorem OwE.at_ [Tags] {w:World} {base e n c:Nat} {A:Option Addr} {l:List α} (h:OwE E w base e A n c l) (hn:0 < n):∃g,A=some ⟨g,0,none⟩∧base≤g∧g < w.heap.size∧∀i,w.frozen? ⟨g,i,none⟩=false:=by
 obtain ⟨css,hown,_,_⟩:=h
 rcases hown.2 with ⟨_,h1⟩|⟨g,cap,cur,h1,h2,h3,h4⟩
 ·omega
 ·cases h1
  refine ⟨_,rfl,h2,?_,fun i=>frozen_of_row w _ i _ e h3⟩
  rcases Nat.lt_or_ge g w.heap.size with hlt|hge
  ·exact hlt
  ·rw [Array.getElem?_eq_none hge] at h3;cases h3

theorem RdE.get_list {F:Enc β} {w:World} {D:Nat→Prop} {A:Option Addr} {n:Nat} {l:List (List β)} (h:RdE (Enc.list F) w D A n l) {i:Nat} {x:List β} (hx:l[i]?=some x) :
  ∃b o,A=some ⟨b,o,none⟩∧D b∧∃A1 n1 c1,w.cell? ⟨b,o+i,none⟩=some (.slice A1 n1 c1)∧n1≤c1∧RdE F w D A1 n1 x:=by
 have hi:=(List.getElem?_eq_some_iff.1 hx).1
 obtain ⟨b,o,e,hb,hc⟩:=h.2 (by have:=h.1;omega)
 obtain ⟨cs,⟨A1,n1,c1,hcs,hle,hr⟩,hcell⟩:=hc i x hx
 refine ⟨b,o,e,hb,A1,n1,c1,?_,hle,hr⟩
 have:=hcell 0 (.slice A1 n1 c1) (by rw [hcs];rfl)
 rwa [show i*(Enc.list F).k+0=i from by show i*1+0=i;omega] at this
end Go.Proofs.YtmhiohnkjpglfaaGreat

namespace Go.Proofs.YtmhiohnkjpglfaaGreat
open Go.RowKit Plain

structure EntV where
 (slot ino:Int)
 name:List UInt8
 deriving DecidableEq
def ent0:EntV:=⟨0,0,[]⟩
def entEn:Enc EntV:=(Enc.pair Enc.int (Enc.pair Enc.int Enc.text)).as (fun x=>(x.slot,x.ino,x.name))
theorem ent_cells {w:World} {D:Nat→Prop} {cs:List Value} {x:EntV} (h:entEn.R w D cs x):cs=[.int .i64 x.slot,.int .i64 x.ino,.string ⟨x.name.toArray⟩]:=by
 obtain ⟨c1,c2,rfl,h1,c3,c4,rfl,h2,h3⟩:=h
 have e1:c1=[.int .i64 x.slot]:=h1
 have e2:c3=[.int .i64 x.ino]:=h2
 have e3:c4=[.string ⟨x.name.toArray⟩]:=h3
 rw [e1,e2,e3]
 rfl
theorem ent_get {w:World} {D:Nat→Prop} {A:Option Addr} {n k:Nat} {l:List EntV} {x:EntV} (h:RdE entEn w D A n l) (hx:l[k]?=some x) :
  ∃b o,A=some ⟨b,o,none⟩∧D b∧∀j v,[Value.int .i64 x.slot,.int .i64 x.ino,.string ⟨x.name.toArray⟩][j]?=some v→w.cell? ⟨b,o+k*3+j,none⟩=some v:=by
 have hk:=(List.getElem?_eq_some_iff.1 hx).1
 obtain ⟨b,o,e,hb,hc⟩:=h.2 (by rw [←h.1];omega)
 obtain ⟨cs,hR,hcs⟩:=hc k x hx
 have e2:=ent_cells hR
 subst e2
 refine ⟨b,o,e,hb,fun j v hv=>?_⟩
 have:=hcs j v hv
 rw [Nat.add_assoc]
 exact this
def cellsE (x:EntV):List Value:=[.int .i64 x.slot,.int .i64 x.ino,.string ⟨x.name.toArray⟩]
def flatE (l:List EntV):List Value:=l.flatMap cellsE
theorem flatE_len (l:List EntV):(flatE l).length=l.length*3:=by
 induction l with
 | nil=>rfl
 | cons x r ih=>rw [show flatE (x::r)=cellsE x++flatE r from rfl,List.length_append,ih,List.length_cons];simp only [cellsE,List.length_cons,List.length_nil];omega
end Go.Proofs.YtmhiohnkjpglfaaGreat

namespace Go.Proofs.YtmhiohnkjpglfaaGreat
open Go.RowKit Plain

def rightE (x:EntV):Bool:=(decide (0≤x.slot∧x.slot < 16)&&decide (1≤x.ino∧x.ino≤65535))&&nameB x.name
def putE (x:EntV):List UInt8:=if rightE x=true then nb 2 x.ino.toNat++packS x.name else []
end Go.Proofs.YtmhiohnkjpglfaaGreat

namespace Go.Proofs.YtmhiohnkjpglfaaGreat
open Go.RowKit Plain

section
variable {P : Program} {T : TypeId}
theorem execOp_load {ρ:Operand→Value} {o:Oper} {x:Operand} {k:Nat} {w:World} (ho:o.op=.load T x) (hag:∀w,(isAgg T).run P w=.ok true w) (hsz:∀w,(sizeOf T).run P w=.ok k w) {g off:Nat} {cs:List Value} (hx:ρ x=.pointer (some ⟨g,off,none⟩)) (h:∀j v,cs[j]?=some v→w.cell? ⟨g,off+j,none⟩=some v) (hk:cs.length=k) :
  (execOp ρ o).run P w=.ok (.value (.agg cs.toArray)) w:=by
 have hr:=run_loadAt_cells (P:=P) hag hsz h hk
 unfold execOp
 simp only [ho,Sem.run_bind,Sem.run_pure,Result.andThen_ok,hx,hr]
theorem RowL.at0 {w:World} {g t:Nat} {cs:List Value} (h:RowL w g t cs):∀j v,cs[j]?=some v→w.cell? ⟨g,0+j,none⟩=some v:=fun j v hv=>by rw [Nat.zero_add,h.cell];exact hv
end
end Go.Proofs.YtmhiohnkjpglfaaGreat

namespace Go.Proofs.YtmhiohnkjpglfaaGreat
open Go.RowKit Plain

section
variable {P : Program} {T e : TypeId} {n : Nat}
end
theorem ent_agg:∀w,(isAgg 75).run Tryz.prog w=.ok true w:=fun w=>by simp [go_sem]
theorem ent_size:∀w,(Go.sizeOf 75).run Tryz.prog w=.ok 3 w:=fun w=>by simp [go_sem]
end Go.Proofs.YtmhiohnkjpglfaaGreat

namespace Go.Proofs.YtmhiohnkjpglfaaGreat
open Go.RowKit Plain

theorem len3 {α:Type} {a b c:α}:[a,b,c].length=3:=rfl
end Go.Proofs.YtmhiohnkjpglfaaGreat

namespace Go.Proofs.YtmhiohnkjpglfaaGreat
open Go.RowKit Plain

def firstS (slot : Int) : List EntV → List UInt8
 | []=>[]
 | x::r=>if (x.slot==slot&&rightE x)=true then putE x else firstS slot r
end Go.Proofs.YtmhiohnkjpglfaaGreat

namespace Go.Proofs.YtmhiohnkjpglfaaGreat
open Go.RowKit Go.Shelf Plain
attribute [local go_sem] Oper.semAt_some

def blkS (l:List EntV) (k:Int) (pre:List (Fin 4)):List UInt8:=pre.foldl (fun bs j=>splice bs (16*j.1) (firstS (k*4+(j.1:Int)) l)) (zeros 64)
end Go.Proofs.YtmhiohnkjpglfaaGreat

namespace Go.Proofs.YtmhiohnkjpglfaaGreat
open Go.RowKit Go.Shelf Plain
attribute [local go_sem] Oper.semAt_some

theorem grown_below {W W':World} (h:Below W.heap.size W W'):W.grownBy W' none:=⟨h.os,h.tape,h.output,h.size,fun k hk _=>h.block k hk⟩
theorem kBelow {A B:World} (h:Below A.heap.size A B):KeepsOthers A B:=⟨h.size,fun i _ hi _=>(h.block i (Array.getElem?_eq_some_iff.1 hi).1).trans hi⟩
theorem RowL.turned {W W':World} {g t:Nat} {cs:List Value} {row:Option Nat} (h:RowL W g t cs) (hg:W.grownBy W' row) (hr:∀r,row=some r→∃o:Obj,W.heap[r]?=some o∧o.isCells=false):RowL W' g t cs:=by
 refine h.grown hg fun e=>?_
 obtain ⟨o,ho,hc⟩:=hr g e.symm
 rw [show W.heap[g]?=_ from h] at ho
 cases Option.some.inj ho
 cases hc

section
variable {F : Fence} {n : Nat} {P : Program} {w : World} {o : Oper} {a : Act} {K : Act → World → Prop} {Q : Exit → Act → World → Prop}
theorem wpIn_storeW (T : Nat) (x y : Operand) (ho : o.op = .store T x y) (k : Nat) (hsz : ∀ w, (Go.sizeOf T).run P w = .ok k w) (g t : Nat) (hx : a.eval x = .pointer (some ⟨g, 0, none⟩)) (cur cs : List Value) (hy : a.eval y = .agg cs.toArray) (h : RowL w g t cur) (hk : cs.length = k) (hcur : cur.length = k) (h1 : ∀ v ∈ cs, v.oneCell' = true)
  (hK:∀w',RowL w' g t cs→w.grownBy w' (some g)→w'.heap.size=w.heap.size→K (a.put o.dst undef) w'):o.wpIn F n P a w K Q:=by
 have hr:=run_storeAt_row (P:=P) hsz (off:=0) h hk (by omega) h1
 have e:splice cur 0 cs=cs:=by unfold splice;rw [List.take_zero,List.nil_append,List.drop_of_length_le (by omega),List.append_nil]
 rw [e] at hr
 unfold Oper.wpIn
 refine ⟨by simp [Oper.about,ho],?_⟩
 rw [Oper.semAt_plain F _ _ (by rw [ho];intro c hc';cases hc')]
 simp only [execOp,ho,Sem.run_bind,Sem.run_pure,Result.andThen_ok,hx,hy,hr]
 exact hK _ (h.setRow_ _) (grownBy_setRow _ _ _) (by simp)
theorem wpIn_loadX (T : Nat) (x : Operand) (ho : o.op = .load T x) (k : Nat) (hag : ∀ w, (isAgg T).run P w = .ok true w) (hsz : ∀ w, (Go.sizeOf T).run P w = .ok k w) (g off : Nat) (hx : a.eval x = .pointer (some ⟨g, off, none⟩)) (cs : List Value) (h : ∀ j v, cs[j]? = some v → w.cell? ⟨g, off + j, none⟩ = some v) (hk : cs.length = k)
  (hK:K (a.put o.dst (.agg cs.toArray)) w):o.wpIn F n P a w K Q:=by
 have hr:=run_loadAt_cells (P:=P) hag hsz h hk
 unfold Oper.wpIn
 refine ⟨by simp [Oper.about,ho],?_⟩
 rw [Oper.semAt_plain F _ _ (by rw [ho];intro c hc';cases hc')]
 simp only [execOp,ho,Sem.run_bind,Sem.run_pure,Result.andThen_ok,hx,hr]
 exact hK
end
theorem ownsRow_below {w w':World} {base e s n:Nat} {v:Value} {xs:List Value} (h:w.ownsRow base e s v n xs) (hb:Below w.heap.size w w'):w'.ownsRow base e s v n xs:=by
 refine ⟨h.1,?_⟩
 rcases h.2 with h0|⟨g,cap,cur,h1,h2,h3,h4⟩
 ·exact .inl h0
 ·refine .inr ⟨g,cap,cur,h1,h2,?_,h4⟩
  rw [hb.block g ?_]
  ·exact h3
  ·rcases Nat.lt_or_ge g w.heap.size with hlt|hge
   ·exact hlt
   ·rw [Array.getElem?_eq_none hge] at h3;cases h3
theorem own_block {W:World} {base e s n:Nat} {v:Value} {xs:List Value} (h:W.ownsRow base e s v n xs):∀g,v.ownBlock=some g→base≤g∧g < W.heap.size∧∃o:Obj,W.heap[g]?=some o∧o.isCells=true:=by
 intro g hg
 rcases h.2 with ⟨rfl,_⟩|⟨g',cap,cur,rfl,hb,hc,_⟩
 ·cases hg
 ·obtain rfl:g'=g:=Option.some.inj hg
  refine ⟨hb,?_,_,hc,rfl⟩
  rcases Nat.lt_or_ge g' W.heap.size with hlt|hge
  ·exact hlt
  ·rw [Array.getElem?_eq_none hge] at hc;cases hc
theorem own_owns {W W':World} {row:Option Nat} {base e s n:Nat} {v:Value} {xs:List Value} (h:W.ownsRow base e s v n xs) (hg:W.grownBy W' row) (hr:∀r,row=some r→∃o:Obj,W.heap[r]?=some o∧o.isCells=false):W'.ownsRow base e s v n xs:=by
 refine h.kept hg ?_
 rcases h.2 with ⟨rfl,_⟩|⟨g,cap,cur,rfl,_,hc,_⟩
 ·exact .inl rfl
 ·refine .inr fun e=>?_
  obtain ⟨o,ho,hc'⟩:=hr g e.symm
  rw [hc] at ho
  cases Option.some.inj ho
  cases hc'
theorem owns_apart {W:World} {b1 b2 e1 e2 s1 s2 n1 n2:Nat} {v1 v2:Value} {x1 x2:List Value} (h1:W.ownsRow b1 e1 s1 v1 n1 x1) (h2:W.ownsRow b2 e2 s2 v2 n2 x2) (he:e1≠e2):v2.ownBlock=none∨v2.ownBlock≠v1.ownBlock:=by
 rcases h2.2 with ⟨rfl,_⟩|⟨g2,_,_,rfl,_,hc2,_⟩
 ·exact .inl rfl
 ·rcases h1.2 with ⟨rfl,_⟩|⟨g1,_,_,rfl,_,hc1,_⟩
  ·exact .inr (fun e=>by cases e)
  ·refine .inr fun e=>?_
   have e':g2=g1:=Option.some.inj e
   subst e'
   rw [hc1] at hc2
   have:=Option.some.inj hc2
   injection this with _ h _
   exact he h
theorem owns_slice {W:World} {base e s n:Nat} {v:Value} {xs:List Value} (h:W.ownsRow base e s v n xs):∃A c,v=.slice A n c:=by
 rcases h.2 with ⟨rfl,rfl⟩|⟨g,cap,cur,rfl,_⟩
 ·exact ⟨none,0,rfl⟩
 ·exact ⟨_,_,rfl⟩
theorem row_apart {W:World} {base e s n g t:Nat} {v:Value} {xs cs:List Value} (ho:W.ownsRow base e s v n xs) (hr:RowL W g t cs) (h:t≠e):some g≠v.ownBlock:=fun eq=>by
 rcases ho.2 with ⟨rfl,_⟩|⟨g',cap,cur,rfl,_,hc,_⟩
 ·cases eq
 ·have:g=g':=Option.some.inj eq
  subst this
  rw [show W.heap[g]?=_ from hr] at hc
  have:=Option.some.inj hc
  injection this with _ h' _
  exact h h'
def markD (D:Nat):Deferred:={target:=.collected D,args:=#[]}
def Marks (base:Nat) (Ds:List Nat) (W:World):Prop:=Ds.Pairwise (fun a b=>b < a)∧∀D,D∈Ds→base≤D∧W.heap[D]?=some (.deferred (some []))
theorem Marks.none_ (base:Nat) (W:World):Marks base [] W:=⟨List.Pairwise.nil,fun _ h=>by cases h⟩
theorem Marks.lt {base:Nat} {Ds:List Nat} {W:World} (h:Marks base Ds W):∀D,D∈Ds→D < W.heap.size:=fun D hD=>(Array.getElem?_eq_some_iff.1 (h.2 D hD).2).1
theorem Marks.more {base D:Nat} {Ds:List Nat} {W:World} (h:Marks base Ds W) (hD:∀D',D'∈Ds→D' < D) (hb:base≤D) (ho:W.heap[D]?=some (.deferred (some []))):Marks base (D::Ds) W :=
 ⟨List.Pairwise.cons (fun b hb=>hD b hb) h.1,fun D' h'=>by
  rcases List.mem_cons.1 h' with rfl|h'
  ·exact ⟨hb,ho⟩
  ·exact h.2 D' h'⟩
theorem Marks.on {base:Nat} {Ds:List Nat} {W W':World} (h:Marks base Ds W) (hb:Below W.heap.size W W'):Marks base Ds W':=⟨h.1,fun D hD=>⟨(h.2 D hD).1,(hb.block D (h.lt D hD)).trans (h.2 D hD).2⟩⟩
theorem Marks.under {base B:Nat} {Ds:List Nat} {W W':World} (h:Marks base Ds W) (hB:∀D,D∈Ds→D < B) (hb:Below B W W'):Marks base Ds W':=⟨h.1,fun D hD=>⟨(h.2 D hD).1,(hb.block D (hB D hD)).trans (h.2 D hD).2⟩⟩
theorem Marks.grown {base:Nat} {Ds:List Nat} {W W':World} {row:Option Nat} (h:Marks base Ds W) (hg:W.grownBy W' row) (hr:∀r,row=some r→r∉Ds):Marks base Ds W':=⟨h.1,fun D hD=>⟨(h.2 D hD).1,(hg.block D (h.lt D hD) (fun e=>hr D e.symm hD)).trans (h.2 D hD).2⟩⟩
theorem Marks.notin {base g:Nat} {Ds:List Nat} {W:World} {o:Obj} (h:Marks base Ds W) (ho:W.heap[g]?=some o) (hn:∀x,o≠.deferred x):g∉Ds:=fun hm=>by
 have:=(h.2 g hm).2
 rw [ho] at this
 exact hn _ (Option.some.inj this)
theorem Marks.row {base g t:Nat} {cs:List Value} {Ds:List Nat} {W:World} (h:Marks base Ds W) (hr:RowL W g t cs):g∉Ds:=h.notin (o:=.cells cs.toArray t (0,0)) hr (fun x e=>by cases e)
def Unmarked (Ds:List Nat) (W W':World):Prop:=W'.os=W.os∧W'.tape=W.tape∧W'.output=W.output∧W'.heap.size=W.heap.size∧∀j,j∉Ds→W'.heap[j]?=W.heap[j]?
theorem Unmarked.row {Ds:List Nat} {W W':World} {g t:Nat} {cs:List Value} (h:Unmarked Ds W W') (hr:RowL W g t cs) (hg:g∉Ds):RowL W' g t cs:=(h.2.2.2.2 g hg).trans hr
theorem Unmarked.under {base B:Nat} {Ds:List Nat} {W W' W0:World} (h:Unmarked Ds W W') (hm:Marks base Ds W) (hB:B≤base) (hb:Below B W0 W):Below B W0 W' :=
 ⟨h.1.trans hb.os,h.2.1.trans hb.tape,h.2.2.1.trans hb.output,by rw [h.2.2.2.1];exact hb.size,fun k hk=>(h.2.2.2.2 k (fun hD=>by have:=(hm.2 k hD).1;omega)).trans (hb.block k hk)⟩
theorem Unmarked.below {base:Nat} {Ds:List Nat} {W W' W0:World} (h:Unmarked Ds W W') (hm:Marks base Ds W) (hb:Below base W0 W):Below base W0 W' :=
 ⟨h.1.trans hb.os,h.2.1.trans hb.tape,h.2.2.1.trans hb.output,by rw [h.2.2.2.1];exact hb.size,fun k hk=>(h.2.2.2.2 k (fun hD=>by have:=(hm.2 k hD).1;omega)).trans (hb.block k hk)⟩
theorem leaves_marks {F:Fence} {n:Nat} {P:Program} {fn:Func} {tmps:Array Value} {R:Ending→World→Prop} {base:Nat}:∀(Ds:List Nat) (W:World),Marks base Ds W→(∀W',Unmarked Ds W W'→LeavesIn F n P fn tmps R [] .returning W')→LeavesInM F n P fn tmps R (Ds.map markD) .returning W:=by
 intro Ds
 induction Ds with
 | nil=>exact fun W _ h=>h W ⟨rfl,rfl,rfl,rfl,fun _ _=>rfl⟩
 | cons D r ih =>
  intro W hm h
  have hD:=hm.2 D List.mem_cons_self
  refine ⟨by simp,.inl ⟨D,W.putObj D (.deferred none),rfl,run_takeDeferred hD.2,?_⟩⟩
  have hg:=grownBy_putObj' W D (.deferred none)
  have hlt:=(Array.getElem?_eq_some_iff.1 hD.2).1
  have hsz:(W.putObj D (.deferred none)).heap.size=W.heap.size:=by simp [World.putObj]
  refine ih _ ⟨(List.pairwise_cons.1 hm.1).2,fun D' h'=>⟨(hm.2 D' (List.mem_cons_of_mem _ h')).1,?_⟩⟩ fun W' hu=>h W' ⟨hu.1.trans hg.os,hu.2.1.trans hg.tape,hu.2.2.1.trans hg.output,hu.2.2.2.1.trans hsz,fun j hj=>?_⟩
  ·have hne:=(List.pairwise_cons.1 hm.1).1 D' h'
   have hm':=hm.2 D' (List.mem_cons_of_mem _ h')
   exact (hg.block D' ((Array.getElem?_eq_some_iff.1 hm'.2).1) (pu5 (by omega))).trans hm'.2
  ·rw [List.mem_cons,not_or] at hj
   rw [hu.2.2.2.2 j hj.2]
   rcases Nat.lt_or_ge j W.heap.size with hj2|hj2
   ·exact hg.block j hj2 (fun e=>hj.1 (Option.some.inj e))
   ·rw [Array.getElem?_eq_none (by rw [hsz];exact hj2),Array.getElem?_eq_none hj2]
end Go.Proofs.YtmhiohnkjpglfaaGreat

namespace Go.Proofs.YtmhiohnkjpglfaaGreat
open Go.RowKit Go.Shelf Plain
attribute [local go_sem] Oper.semAt_some

def intsV (l:List Int):List Value:=l.map (fun i=>Value.int .i64 i)
def zent:Value:=.agg #[.int .i64 0,.int .i64 0,.string ⟨#[]⟩]
end Go.Proofs.YtmhiohnkjpglfaaGreat

namespace Go.Proofs.YtmhiohnkjpglfaaGreat
open Go.RowKit Go.Shelf Plain
attribute [local go_sem] Oper.semAt_some

def Acc (base g1 g2:Nat) (L1:List EntV) (L2:List Int) (W:World):Prop :=
 (∃A1 n1 c1,RowL W g1 61 [.slice A1 n1 c1]∧W.ownsRow base 75 3 (.slice A1 n1 c1) n1 (flatE L1))∧(∃A2 n2 c2,RowL W g2 85 [.slice A2 n2 c2]∧W.ownsRow base 3 1 (.slice A2 n2 c2) n2 (intsV L2))
theorem Acc.on {base g1 g2:Nat} {L1:List EntV} {L2:List Int} {W W':World} (h:Acc base g1 g2 L1 L2 W) (hb:Below W.heap.size W W'):Acc base g1 g2 L1 L2 W':=by
 obtain ⟨⟨A1,n1,c1,h1,h2⟩,⟨A2,n2,c2,h3,h4⟩⟩:=h
 exact ⟨⟨A1,n1,c1,h1.on hb,ownsRow_below h2 hb⟩,⟨A2,n2,c2,h3.on hb,ownsRow_below h4 hb⟩⟩
theorem Acc.turned {base g1 g2:Nat} {L1:List EntV} {L2:List Int} {W W':World} {row:Option Nat} (h:Acc base g1 g2 L1 L2 W) (hg:W.grownBy W' row) (hr:∀r,row=some r→∃o:Obj,W.heap[r]?=some o∧o.isCells=false):Acc base g1 g2 L1 L2 W':=by
 obtain ⟨⟨A1,n1,c1,h1,h2⟩,⟨A2,n2,c2,h3,h4⟩⟩:=h
 refine ⟨⟨A1,n1,c1,h1.grown hg ?_,own_owns h2 hg hr⟩,⟨A2,n2,c2,h3.grown hg ?_,own_owns h4 hg hr⟩⟩
 ·intro e
  obtain ⟨o,ho,hc⟩:=hr g1 e.symm
  rw [show W.heap[g1]?=_ from h1] at ho
  cases Option.some.inj ho
  cases hc
 ·intro e
  obtain ⟨o,ho,hc⟩:=hr g2 e.symm
  rw [show W.heap[g2]?=_ from h3] at ho
  cases Option.some.inj ho
  cases hc
end Go.Proofs.YtmhiohnkjpglfaaGreat

namespace Go.Proofs.YtmhiohnkjpglfaaGreat
open Go.RowKit Plain

theorem flatE_get {l:List EntV} {i j:Nat} {x:EntV} (h:l[i]?=some x) (hj:j < 3):(flatE l)[i*3+j]?=(cellsE x)[j]?:=by
 induction l generalizing i with
 | nil=>simp at h
 | cons y r ih =>
  have e:flatE (y::r)=cellsE y++flatE r:=rfl
  rw [e]
  have hy:(cellsE y).length=3:=rfl
  cases i with
  | zero =>
   simp only [List.getElem?_cons_zero,Option.some.injEq] at h
   subst h
   rw [List.getElem?_append_left (by rw [hy];omega),Nat.zero_mul,Nat.zero_add]
  | succ i =>
   rw [List.getElem?_append_right (by rw [hy];omega),hy,show (i+1)*3+j - 3=i*3+j by omega]
   exact ih (by simpa using h)
theorem ent_RE (w:World) (D:Nat→Prop) (x:EntV):entEn.R w D (cellsE x) x:=⟨[_],[_,_],rfl,rfl,[_],[_],rfl,rfl,rfl⟩
theorem rde_row {w:World} {g t:Nat} {cs:List Value} {l:List EntV} {D:Nat→Prop} (h:RowL w g t cs) (hD:D g) (hc:cs.take (l.length*3)=flatE l):RdE entEn w D (some ⟨g,0,none⟩) l.length l:=by
 refine ⟨rfl,fun _=>⟨g,0,rfl,hD,fun i x hx=>⟨cellsE x,ent_RE _ _ _,fun j v hv=>?_⟩⟩⟩
 have hj:j < 3:=(List.getElem?_eq_some_iff.1 hv).1
 have hi:=(List.getElem?_eq_some_iff.1 hx).1
 rw [Nat.zero_add,show i*entEn.k+j=i*3+j from rfl,h.cell,←hv,←flatE_get hx hj,←hc,List.getElem?_take_of_lt (by omega)]
theorem rde_owns {W:World} {base n c:Nat} {A:Option Addr} {l:List EntV} (h:W.ownsRow base 75 3 (.slice A n c) n (flatE l)):RdE entEn W (Under W.heap.size) A n l:=by
 have hl:=h.1
 rw [flatE_len] at hl
 have hn:l.length=n:=by omega
 rcases h.2 with ⟨_,h0⟩|⟨g,cap,cur,he,_,hg,hnc,_,hcs,ht⟩
 ·subst h0
  obtain rfl:l=[]:=List.eq_nil_of_length_eq_zero hn
  exact RdE.none_ _ _ _ _
 ·cases he
  subst hn
  have hr:RowL W g 75 cur.toList:=by simpa [RowL] using hg
  exact rde_row hr hr.lt ht
def e8:EntV:=⟨5,3,[97,98]⟩
def b8:List UInt8:=blkS [e8] 1 (List.finRange 4)
end Go.Proofs.YtmhiohnkjpglfaaGreat

namespace Go.Proofs.YtmhiohnkjpglfaaGreat
open Go.RowKit Go.Shelf Plain

instance:Inhabited EntV:=⟨ent0⟩
theorem ent_at {w:World} {D:Nat→Prop} {A:Option Addr} {n:Nat} {l:List EntV} (h:RdE entEn w D A n l) (hn:0 < n):∃b o,A=some ⟨b,o,none⟩∧D b∧∀j,j < l.length→∀i v,(cellsE l[j]!)[i]?=some v→w.cell? ⟨b,o+j*3+i,none⟩=some v:=by
 obtain ⟨b,o,e,hD,hc⟩:=h.2 hn
 refine ⟨b,o,e,hD,fun j hj i v hv=>?_⟩
 rw [getElem!_pos l j hj] at hv
 obtain ⟨cs,hR,hcs⟩:=hc j l[j] (List.getElem?_eq_getElem hj)
 rw [Nat.add_assoc]
 refine hcs i v ?_
 rw [ent_cells hR]
 exact hv
end Go.Proofs.YtmhiohnkjpglfaaGreat

namespace Go.Proofs.YtmhiohnkjpglfaaGreat
open Go.RowKit Go.Shelf Plain

def idxR:Ren:=⟨fun|6=>82|n=>n,fun|23=>75|22=>61|25=>77|n=>n,fun|n=>n⟩
theorem idxL : SlLaysH0.n6 Tryz.prog idxR := {
 mixed:=by kernel_rfl
 f6 := ⟨"slices.IndexFunc[[]craquelure/api.Entry,craquelure/api.Entry]", by decide +kernel, Tryz.func82.trans (congrArg some (by kernel_rfl))⟩
 t0:=by kernel_rfl
 a0:=fun w=>by kernel_rfl
 z0:=fun w=>by kernel_rfl
 v0:=fun w=>by kernel_rfl
 t3:=by kernel_rfl
 a3:=fun w=>by kernel_rfl
 z3:=fun w=>by kernel_rfl
 v3:=fun w=>by kernel_rfl
 t4:=by kernel_rfl
 a4:=fun w=>by kernel_rfl
 z4:=fun w=>by kernel_rfl
 v4:=fun w=>by kernel_rfl
 t22:=by kernel_rfl
 a22:=fun w=>by kernel_rfl
 z22:=fun w=>by kernel_rfl
 v22:=fun w=>by kernel_rfl
 t25:=by kernel_rfl
 a25:=fun w=>by kernel_rfl
 z25:=fun w=>by kernel_rfl
 v25:=fun w=>by kernel_rfl}
def idxS (s : Int) : List EntV → Nat → Option Nat
 | [],_=>none
 | x::r,k=>if (x.slot==s)=true then some k else idxS s r (k+1)
def idxI (s:Int) (l:List EntV):Int:=(idxS s l 0).elim (-1) (fun k=>(k:Int))
theorem idx_from (s:Int) (l:List EntV) (k:Nat):Lib.idxByFrom (fun _ (y:EntV)=>y.slot==s) default l k=(idxS s l k).elim (-1) (fun k=>(k:Int)):=by
 induction l generalizing k with
 | nil=>rfl
 | cons x r ih =>
  unfold idxS Lib.idxByFrom
  cases h:(x.slot==s) with
  | true=>rfl
  | false=>exact ih (k+1)
end Go.Proofs.YtmhiohnkjpglfaaGreat

