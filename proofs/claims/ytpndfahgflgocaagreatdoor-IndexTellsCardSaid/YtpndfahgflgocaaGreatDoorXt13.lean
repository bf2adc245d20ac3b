import Derived.Test.YtpndfahgflgocaaGreatDoorXt6
import Derived.Test.YtpndfahgflgocaaGreatDoorXt12
import Derived.Lib.Join
import Derived.BigQuiet
import Derived.BigRegion
import Derived.Deep.QuietTactic
import Derived.StillTailTactics
import Derived.Deep.Cut
import Derived.Deep.CutRange

namespace Go.Proofs.YtpndfahgflgocaaGreatDoor
open Go

inductive PT (α : Type) where
 | leaf:PT α
 | take:α→PT α→PT α
 | alt:α→PT α→PT α→PT α
 | stop:PT α
def PT.map {α β : Type} (f : α → β) : PT α → PT β
 | .leaf=>.leaf
 | .take x t=>.take (f x) (t.map f)
 | .alt x t u=>.alt (f x) (t.map f) (u.map f)
 | .stop=>.stop
def PT.depth {α : Type} : PT α → Nat
 | .leaf=>0
 | .take _ t=>t.depth+1
 | .alt _ t u=>max (t.depth+1) u.depth
 | .stop=>0
def PT.chain {α : Type} : PT α → List α
 | .alt x _ u=>x::u.chain
 | _=>[]
def eqN : List Nat → List Nat → Bool
 | [],[]=>true
 | x::r,y::q=>Nat.beq x y&&eqN r q
 | _,_=>false
mutual
def okT (md : Region.Mode) (ops : Array Oper) (ns : List Nat) (s : Nat) : PT Nat → Bool
 | .leaf=>(readyN s ns 0).isEmpty
 | .take i t=>hasN (readyN s ns 0) i&&(freeN md ops s i ops.toList 0&&okT md ops ns (withN s i) t)
 | .alt i t u=>eqN (readyN s ns 0) (i::u.chain)&&(okT md ops ns (withN s i) t&&okC md ops ns s u)
 | .stop=>false
def okC (md : Region.Mode) (ops : Array Oper) (ns : List Nat) (s : Nat) : PT Nat → Bool
 | .alt i t u=>okT md ops ns (withN s i) t&&okC md ops ns s u
 | .stop=>true
 | .leaf=>false
 | .take _ _=>false
end
theorem eqN_eq : ∀ (l k : List Nat), eqN l k = true → l = k
 | [],[],_=>rfl
 | x::r,y::q,h=>by
  unfold eqN at h
  rw [Bool.and_eq_true] at h
  rw [Nat.eq_of_beq_eq_true h.1,eqN_eq r q h.2]
 | [],_::_,h=>by cases h
 | _::_,[],h=>by cases h

section
variable {P : Program} {ops : Array Oper} {Q : Exit → Act → World → Prop} {S : World → Prop}
def wpPT (P : Program) (ops : Array Oper) (Q : Exit → Act → World → Prop) (S : World → Prop) : PT (Option Oper) → Act → World → Prop
 | .leaf,a,w=>Q .normal a w
 | .take (some o) t,a,w=>∃v,YieldsIf P ops S o v a∧wpPT P ops Q S t (a.put o.dst v) w
 | .alt (some o) t u,a,w=>(if Region.wanted o (yielded ops a.tmps)=true then Oper.wp P o a w (fun a' w'=>S w'∧wpPT P ops Q S t a' w') Q else wpPT P ops Q S t (a.put o.dst undef) w)∧wpPT P ops Q S u a w
 | .stop,_,_=>True
 | _,_,_=>False
theorem wpAnyH_PT {md:Region.Mode} (hs:Region.noSelect ops=true) (hQ:∀c a d v w,Q (.panic c) (Act.put a d v) w→Q (.panic c) a w) (t:PT Nat) :
  ∀(fuel s:Nat) (listed:Array Bool) (a:Act) (w:World),RelN ops listed s→S w→wpPT P ops Q S (t.map fun i=>ops[i]?) a w→t.depth≤fuel →
   (okT md ops (needsN md ops) s t=true→wpAnyH P md ops Q S fuel listed a w) ∧
   (okC md ops (needsN md ops) s t=true→∀k,fuel=k+1→∀x∈t.chain,x < ops.size∧wpOp P ops Q x (fun a' w'=>S w'∧wpAnyH P md ops Q S k (listed.setIfInBounds x true) a' w') a w):=by
 have hlen:(needsN md ops).length=ops.size:=by simp [needsN]
 induction t with
 | leaf =>
  intro fuel s listed a w hr hS h _
  refine ⟨fun hok=>?_,fun hok=>by simp [okC] at hok⟩
  unfold okT at hok
  have e:=ready_same (md:=md) hr
  rw [List.isEmpty_iff] at hok
  exact wpAnyH_done (by rw [e,hok]) h fuel
 | take i t ih =>
  intro fuel s listed a w hr hS h hl
  refine ⟨fun hok=>?_,fun hok=>by simp [okC] at hok⟩
  obtain ⟨fuel,rfl⟩:∃k,fuel=k+1:=⟨fuel - 1,by simp [PT.depth] at hl;omega⟩
  have hl':t.depth≤fuel:=by simpa [PT.depth] using hl
  unfold okT at hok
  rw [Bool.and_eq_true,Bool.and_eq_true] at hok
  obtain ⟨h1,h2,h3⟩:=hok
  have hmem:=hasN_mem _ _ h1
  have hi:i < ops.size:=by rw [←hlen];exact readyN_lt hmem
  have ho:ops[i]?=some ops[i]:=Array.getElem?_eq_getElem hi
  simp only [PT.map,ho] at h
  obtain ⟨v,hy,hw⟩:=h
  exact wpAnyH_take ho hs (free_same hr hi h2) (by rw [ready_same hr];simpa using hmem) (fun c a w=>hQ c a _ _ w) hy hS ((ih fuel _ _ _ w (hr.set hi) hS hw hl').1 h3)
 | alt i t u iht ihu =>
  intro fuel s listed a w hr hS h hl
  have hl1:t.depth+1≤fuel:=by simp [PT.depth] at hl;omega
  have hl2:u.depth≤fuel:=by simp [PT.depth] at hl;omega
  have main:okT md ops (needsN md ops) (withN s i) t=true→okC md ops (needsN md ops) s u=true→i < ops.size→∀k,fuel=k+1→∀x∈i::u.chain,x < ops.size∧wpOp P ops Q x (fun a' w'=>S w'∧wpAnyH P md ops Q S k (listed.setIfInBounds x true) a' w') a w:=by
   intro h2 h3 hi k hk x hx
   have ho:ops[i]?=some ops[i]:=Array.getElem?_eq_getElem hi
   simp only [PT.map,ho] at h
   unfold wpPT at h
   obtain ⟨ha,hu⟩:=h
   rcases List.mem_cons.1 hx with rfl|hx
   ·refine ⟨hi,?_⟩
    unfold wpOp
    simp only [ho]
    split
    ·rename_i hw
     rw [if_pos hw] at ha
     exact .inl (Oper.wp_mono (fun a' w' hk'=>⟨hk'.1,(iht k _ _ _ _ (hr.set hi) hk'.1 hk'.2 (by omega)).1 h2⟩) ha)
    ·rename_i hw
     rw [if_neg hw] at ha
     exact ⟨hS,(iht k _ _ _ _ (hr.set hi) hS ha (by omega)).1 h2⟩
   ·exact (ihu fuel s listed a w hr hS hu hl2).2 h3 k hk x hx
  have lt_of:okT md ops (needsN md ops) (withN s i) t=true→wpPT P ops Q S ((PT.alt i t u).map fun i=>ops[i]?) a w→i < ops.size:=by
   intro _ hw
   rcases Nat.lt_or_ge i ops.size with hi|hi
   ·exact hi
   ·simp only [PT.map,Array.getElem?_eq_none hi] at hw
    unfold wpPT at hw
    exact absurd hw (by simp)
  refine ⟨fun hok=>?_,fun hok k hk x hx=>?_⟩
  ·unfold okT at hok
   rw [Bool.and_eq_true,Bool.and_eq_true] at hok
   obtain ⟨h1,h2,h3⟩:=hok
   have e:=eqN_eq _ _ h1
   obtain ⟨fuel,rfl⟩:∃k,fuel=k+1:=⟨fuel - 1,by omega⟩
   have hrd:=ready_same (md:=md) hr
   rw [e] at hrd
   refine wpAnyH_all hrd (by simp) (fun x hx=>?_)
   exact (main h2 h3 (lt_of h2 h) fuel rfl x hx).2
  ·unfold okC at hok
   rw [Bool.and_eq_true] at hok
   exact main hok.1 hok.2 (lt_of hok.1 h) k hk x hx
 | stop =>
  intro fuel s listed a w hr hS h _
  exact ⟨fun hok=>by simp [okT] at hok,fun _ k _ x hx=>by simp [PT.chain] at hx⟩

theorem wpPT_leaf {a:Act} {w:World} (h:Q .normal a w):wpPT P ops Q S .leaf a w:=h
theorem wpPT_take {o : Oper} {t : PT (Option Oper)} {a : Act} {w : World} {v : Value} (hw : Region.wanted o (yielded ops a.tmps) = true) (hv : ∀ w, S w → (execOp a.eval o).run P w = .ok (.value v) w)
  (h:wpPT P ops Q S t (a.put o.dst v) w):wpPT P ops Q S (.take (some o) t) a w:=⟨v,.inl ⟨hw,hv⟩,h⟩
theorem wpPT_stop {a:Act} {w:World}:wpPT P ops Q S .stop a w:=trivial
theorem wpPT_alt {o : Oper} {t u : PT (Option Oper)} {a : Act} {w : World} (hw : Region.wanted o (yielded ops a.tmps) = true)
  (h:∀K':Act→World→Prop,Shut (∀a' w',S w'→(S w'→wpPT P ops Q S t a' w')→K' a' w')→Oper.wp P o a w K' Q) (hu:wpPT P ops Q S u a w):wpPT P ops Q S (.alt (some o) t u) a w:=by
 unfold wpPT
 rw [if_pos hw]
 exact ⟨h _ (fun a' w' hS hr=>⟨hS,hr hS⟩),hu⟩
theorem wp_region_G {id : Nat} {a : Act} {w : World} (S : World → Prop) (t : PT Nat) {l : PT (Option Oper)} (hm : P.follows .mixedOrders = true) (hok : okT .any ops (needsN .any ops) 0 t = true) (hn : Region.noSelect ops = true) (hlen : decide (t.depth ≤ ops.size) = true)
  (hl:t.map (fun i=>ops[i]?)=l) (hQ:∀c a k v w,Q (.panic c) (Act.put a (some k) v) w→Q (.panic c) a w) (hS:S w.drew) (h:S w.drew→wpPT P ops Q S l a w.drew):(Code.region id ops true).wp P Q a w:=by
 subst hl
 exact wp_region_held hm ((wpAnyH_PT hn (panic_put hQ) t _ _ _ _ _ (relN_zero ops) hS (h hS) (of_decide_eq_true hlen)).1 hok)
end
end Go.Proofs.YtpndfahgflgocaaGreatDoor

namespace Go.Proofs.YtpndfahgflgocaaGreatDoor
open Go.RowKit Go.Shelf Plain

def eA:List EntV:=[⟨0,3,[120]⟩,⟨1,1,[121]⟩]
def RdN {α:Type} (E:Enc α) (W:World) (g:Nat) (A:Option Addr) (n:Nat) (l:List α):Prop:=RdE E W (fun b=>b < W.heap.size∧b≠g) A n l
section
variable {α : Type} {E : Enc α} {W W' : World} {g n : Nat} {A : Option Addr} {l : List α}
theorem RdN.on (h:RdN E W g A n l) (hb:Below W.heap.size W W'):RdN E W' g A n l:=RdE.mono h (fun _ hb'=>hb.block _ hb'.1) (fun _ hb'=>⟨Nat.lt_of_lt_of_le hb'.1 hb.size,hb'.2⟩)
theorem RdN.of_fresh {w0:Nat} (h:RdE E W (fun b=>w0≤b∧b < W.heap.size) A n l) (hg:g < w0):RdN E W g A n l:=RdE.mono h (fun _ _=>rfl) (fun _ hb=>⟨hb.2,by omega⟩)
theorem RdN.grown (h:RdN E W g A n l) (hg:W.grownBy W' (some g)):RdE E W' (Under W'.heap.size) A n l:=RdE.mono h (fun _ hb=>hg.block _ hb.1 (fun e=>hb.2 (Option.some.inj e))) (fun _ hb=>Nat.lt_of_lt_of_le hb.1 hg.size)
end
theorem ent_row {W:World} {g t:Nat} {l:List EntV} {D:Nat→Prop} (h:RowL W g t (flatE l)) (hD:D g):RdE entEn W D (some ⟨g,0,none⟩) l.length l:=by
 refine ⟨rfl,fun _=>⟨g,0,rfl,hD,fun i x hx=>⟨cellsE x,⟨[_],[_,_],rfl,rfl,[_],[_],rfl,rfl,rfl⟩,fun j v hv=>?_⟩⟩⟩
 have hj:j < 3:=by have:=(List.getElem?_eq_some_iff.1 hv).1;simpa [cellsE] using this
 rw [Nat.zero_add,h.cell]
 have:=flat_get (k:=3) (css:=l.map cellsE) (fun cs hc=>by obtain ⟨z,_,rfl⟩:=List.mem_map.1 hc;rfl) (i:=i) (j:=j) (cs:=cellsE x) (by rw [List.getElem?_map,hx];rfl) hj
 rw [show flatE l=(l.map cellsE).flatten from by simp [flatE,List.flatMap]]
 exact this.trans hv
end Go.Proofs.YtpndfahgflgocaaGreatDoor

