import Derived.Test.YtfdbhldnohaopaaGreatVw30
import Derived.Test.YtfdbhldnohaopaaGreatVw23
import Derived.Test.YtfdbhldnohaopaaGreatVw29

namespace Go.Proofs.YtfdbhldnohaopaaGreat
open Go Go.RowKit

def ForOps (C : Nat → Oper → Prop) : Nat → List Oper → Prop
 | _,[]=>True
 | i,o::r=>C i o∧ForOps C (i+1) r
theorem ForOps.get {C : Nat → Oper → Prop} : ∀ {l : List Oper} {n : Nat}, ForOps C n l → ∀ {i : Nat} {o : Oper}, l[i]? = some o → C (n + i) o
 | [],_,_,_,_,h=>by simp at h
 | x::r,n,hf,0,o,h=>by
  simp only [List.getElem?_cons_zero,Option.some.injEq] at h
  rw [←h]
  exact hf.1
 | x::r,n,hf,i+1,o,h=>by
  rw [List.getElem?_cons_succ] at h
  have:=hf.2.get h
  rw [show n+(i+1)=n+1+i by omega]
  exact this
def waits (o:Oper):List Nat:=(o.after.toList.filter (Region.binds .any)).map (·.on)
def noGuard (ops:Array Oper):Bool:=ops.all fun o=>o.guard.isNone
section
variable {P : Program} {ops : Array Oper} {Q : Exit → Act → World → Prop}
theorem wp_region_K {id : Nat} {a : Act} {w : World} (J : Act → (Nat → Prop) → Act → World → Prop) (hm : P.follows .mixedOrders = true) (hdown : downOk .any ops = true) (hng : noGuard ops = true)
  (h0:J a (fun _=>False) a w.drew)
  (hstep:ForOps (fun i o=>∀(L:Nat→Prop) (a':Act) (w':World),¬L i→(∀k∈waits o,L k)→J a L a' w'→∀K:Act→World→Prop,Hid (∀a'' w'',J a (fun k=>k=i∨L k) a'' w''→K a'' w'')→o.wp P a' w' K Q) 0 ops.toList)
  (hend:∀(L:Nat→Prop) (a':Act) (w':World),(∀k,k < ops.size→L k)→J a L a' w'→Q .normal a' w'):(Code.region id ops true).wp P Q a w:=by
 refine wp_region_J (fun listed a' w'=>∃L:Nat→Prop,(∀k,k < ops.size→(L k↔listed.getD k false=true))∧J a L a' w') hm hdown ?_ ?_ ?_
 ·refine ⟨fun _=>False,fun k hk=>?_,h0⟩
  simp [Array.getD,hk]
 ·intro i o ho listed a' w' hsz hli haf ⟨L,hL,hJ⟩
  have hi:i < ops.size:=(Array.getElem?_eq_some_iff.1 ho).1
  have ho2:ops.toList[i]?=some o:=by rw [Array.getElem?_toList];exact ho
  have h1:=hstep.get ho2
  rw [Nat.zero_add] at h1
  have hg:o.guard=none:=by
   unfold noGuard at hng
   rw [Array.all_eq_true_iff_forall_mem] at hng
   have:=hng o (Array.mem_of_getElem? ho)
   simpa using this
  unfold wpOp
  rw [ho]
  simp only
  rw [if_pos (by unfold Region.wanted;rw [hg])]
  left
  refine h1 L a' w' (fun hh=>?_) (fun k hk=>?_) hJ _ (show Hid _ from fun a'' w'' hJ'=>⟨fun k=>k=i∨L k,fun k hk=>?_,hJ'⟩)
  ·have h2:=(hL i hi).1 hh
   rw [getD_in (by omega) false true,hli] at h2
   cases h2
  ·unfold waits at hk
   obtain ⟨e,he,rfl⟩:=List.mem_map.1 hk
   rw [List.mem_filter] at he
   rw [Array.all_eq_true_iff_forall_mem] at haf
   have h2:=haf e (Array.mem_toList_iff.1 he.1)
   rw [he.2] at h2
   have h3:listed.getD e.on false=true:=by simpa using h2
   have h4:e.on < ops.size:=by
    rw [←hsz]
    by_cases hc:e.on < listed.size
    ·exact hc
    ·simp [Array.getD,hc] at h3
   exact (hL _ h4).2 h3
  ·by_cases hki:k=i
   ·subst hki
    simp [Array.getD,hsz,hk]
   ·rw [Array.getD_eq_getD_getElem?,Array.getElem?_setIfInBounds_ne (fun e=>hki e.symm),←Array.getD_eq_getD_getElem?,←hL k hk]
    simp [hki]
 ·intro listed a' w' hsz hall ⟨L,hL,hJ⟩
  exact hend L a' w' (fun k hk=>(hL k hk).2 (by rw [getD_in (by omega) false true];exact hall k hk)) hJ
end
theorem put_self (a:Act) (s:Nat):a.put (some s) (a.tmps.getD s undef)=a:=by
 obtain ⟨t,d⟩:=a
 simp only [Act.put,Act.mk.injEq,and_true]
 apply Array.ext
 ·simp
 ·intro i h1 h2
  rw [Array.getElem_setIfInBounds h2]
  split
  ·rename_i h;subst h;simp [Array.getD,h2]
  ·rfl
def puts : Act → List (Nat × Value) → Act
 | a,[]=>a
 | a,(s,v)::r=>puts (a.put (some s) v) r
theorem puts_self (a : Act) : ∀ ss : List Nat, puts a (ss.map fun s => (s, a.tmps.getD s undef)) = a
 | []=>rfl
 | s::r=>by
  rw [List.map_cons]
  show puts (a.put (some s) (a.tmps.getD s undef)) _=a
  rw [put_self]
  exact puts_self a r
theorem wp_val {P:Program} {o:Oper} {a:Act} {w w':World} {v:Value} {K:Act→World→Prop} {Q:Exit→Act→World→Prop} (h:(execOp a.eval o).run P w=.ok (.value v) w') (hk:K (a.put o.dst v) w'):o.wp P a w K Q:=by
 unfold Oper.wp
 rw [h]
 exact hk
theorem or_of {p q:Prop} (hp:¬p) (h:p∨q):q:=h.resolve_left hp
theorem wp_region_L {P : Program} {l : List Oper} {Q : Exit → Act → World → Prop} {id : Nat} {a : Act} {w : World} (J : Act → (Nat → Prop) → Act → World → Prop) (hm : P.follows .mixedOrders = true) (hdown : downOk .any l.toArray = true) (hng : noGuard l.toArray = true)
  (h0:∀f:Nat→Value,(∀ss:List Nat,puts a (ss.map fun s=>(s,f s))=a)→J a (fun _=>False) a w.drew)
  (hstep:ForOps (fun i o=>∀(L:Nat→Prop) (a':Act) (w':World),¬L i→(∀k∈waits o,L k)→J a L a' w'→∀K:Act→World→Prop,Hid (∀a'' w'',J a (fun k=>k=i∨L k) a'' w''→K a'' w'')→o.wp P a' w' K Q) 0 l)
  (hend:∀(L:Nat→Prop) (a':Act) (w':World),(∀k,k < l.length→L k)→J a L a' w'→Q .normal a' w'):(Code.region id l.toArray true).wp P Q a w :=
 wp_region_K J hm hdown hng (h0 _ (puts_self a)) hstep (fun L a' w' h=>hend L a' w' (fun k hk=>h k (by simpa using hk)))
end Go.Proofs.YtfdbhldnohaopaaGreat

namespace Go.Proofs.YtfdbhldnohaopaaGreat
open Go.RowKit Go.Shelf Plain

structure RsF (W0 : World) (L : Nat → Prop) (uV uB uP : Value) (A8 : Option Addr) (c8 g10 g11 : Nat) (V : ViewV) (S : StepV) (A9 : Option Addr) (c9 : Nat) (w' : World) : Prop where
 hb:Below W0.heap.size W0 w'
 f2:L 2→uV=.agg (viwC V.1 (.slice A8 V.2.length c8)).toArray
 h2:L 2→¬L 4→RdE prEn w' (Under w'.heap.size) A8 V.2.length V.2
 o5:L 5→L 4
 o7:L 7→L 4
 f9:L 9→uB=.pointer (some ⟨g10,0,none⟩)
 b9:L 9→W0.heap.size≤g10
 r9:L 9→¬L 12→RowL w' g10 47 (viwC 0 (.slice none 0 0))
 f10:L 10→uP=.pointer (some ⟨g11,0,none⟩)
 b10:L 10→W0.heap.size≤g11
 r10:L 10→¬L 13→RowL w' g11 49 (prC (0,0))
 o12:L 12→L 4
 p12:L 12→L 9
 r12:L 12→RowL w' g10 47 (viwC S.2.1.1 (.slice A9 S.2.1.2.length c9))
 p13:L 13→L 10
 r13:L 13→RowL w' g11 49 (prC S.2.2)
theorem RsF.on {W0 : World} {L : Nat → Prop} {uV uB uP : Value} {A8 : Option Addr} {c8 g10 g11 : Nat} {V : ViewV} {S : StepV} {A9 : Option Addr} {c9 : Nat} {w' w'' : World} (h : RsF W0 L uV uB uP A8 c8 g10 g11 V S A9 c9 w') (hb : Below w'.heap.size w' w'') : RsF W0 L uV uB uP A8 c8 g10 g11 V S A9 c9 w'' where
 hb:=h.hb.trans (hb.mono h.hb.size)
 f2:=h.f2
 h2:=fun LP N4=>und_up (((h.h2 LP N4)).under hb (Nat.le_refl _)) hb.size
 o5:=h.o5
 o7:=h.o7
 f9:=h.f9
 b9:=h.b9
 r9:=fun LP N12=>(h.r9 LP N12).on hb
 f10:=h.f10
 b10:=h.b10
 r10:=fun LP N13=>(h.r10 LP N13).on hb
 o12:=h.o12
 p12:=h.p12
 r12:=fun LP=>(h.r12 LP).on hb
 p13:=h.p13
 r13:=fun LP=>(h.r13 LP).on hb
theorem RsF.more {W0 : World} {L : Nat → Prop} {uV uB uP : Value} {A8 : Option Addr} {c8 g10 g11 : Nat} {V : ViewV} {S : StepV} {A9 : Option Addr} {c9 : Nat} {w' : World} (h : RsF W0 L uV uB uP A8 c8 g10 g11 V S A9 c9 w') {i : Nat} (hi : ∀ k ∈ [2, 4, 5, 7, 9, 10, 12, 13], k ≠ i) : RsF W0 (fun k => k = i ∨ L k) uV uB uP A8 c8 g10 g11 V S A9 c9 w' where
 hb:=h.hb
 f2:=fun LP=>h.f2 (or_of (hi 2 (by decide)) LP)
 h2:=fun LP N4=>h.h2 (or_of (hi 2 (by decide)) LP) (fun q=>N4 (.inr q))
 o5:=fun LP=>.inr (h.o5 (or_of (hi 5 (by decide)) LP))
 o7:=fun LP=>.inr (h.o7 (or_of (hi 7 (by decide)) LP))
 f9:=fun LP=>h.f9 (or_of (hi 9 (by decide)) LP)
 b9:=fun LP=>h.b9 (or_of (hi 9 (by decide)) LP)
 r9:=fun LP N12=>h.r9 (or_of (hi 9 (by decide)) LP) (fun q=>N12 (.inr q))
 f10:=fun LP=>h.f10 (or_of (hi 10 (by decide)) LP)
 b10:=fun LP=>h.b10 (or_of (hi 10 (by decide)) LP)
 r10:=fun LP N13=>h.r10 (or_of (hi 10 (by decide)) LP) (fun q=>N13 (.inr q))
 o12:=fun LP=>.inr (h.o12 (or_of (hi 12 (by decide)) LP))
 p12:=fun LP=>.inr (h.p12 (or_of (hi 12 (by decide)) LP))
 r12:=fun LP=>h.r12 (or_of (hi 12 (by decide)) LP)
 p13:=fun LP=>.inr (h.p13 (or_of (hi 13 (by decide)) LP))
 r13:=fun LP=>h.r13 (or_of (hi 13 (by decide)) LP)
theorem RsF.start {W0 w':World} (hb:Below W0.heap.size W0 w') {uV uB uP:Value} {A8:Option Addr} {c8 g10 g11:Nat} {V:ViewV} {S:StepV} {A9:Option Addr} {c9:Nat}:RsF W0 (fun _=>False) uV uB uP A8 c8 g10 g11 V S A9 c9 w':=⟨hb,fun h=>h.elim,fun h=>h.elim,fun h=>h.elim,fun h=>h.elim,fun h=>h.elim,fun h=>h.elim,fun h=>h.elim,fun h=>h.elim,fun h=>h.elim,fun h=>h.elim,fun h=>h.elim,fun h=>h.elim,fun h=>h.elim,fun h=>h.elim,fun h=>h.elim⟩
end Go.Proofs.YtfdbhldnohaopaaGreat

