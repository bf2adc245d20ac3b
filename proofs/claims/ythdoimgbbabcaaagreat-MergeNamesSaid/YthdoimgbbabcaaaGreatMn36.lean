import Derived.Test.YthdoimgbbabcaaaGreatMn33
import Derived.Test.YthdoimgbbabcaaaGreatMn23
import Derived.Test.YthdoimgbbabcaaaGreatMn24
import Derived.Test.YthdoimgbbabcaaaGreatMn35
import Derived.Test.YthdoimgbbabcaaaGreatMn5
import Derived.Test.YthdoimgbbabcaaaGreatMn17
import Derived.Test.YthdoimgbbabcaaaGreatMn32
import Derived.Test.YthdoimgbbabcaaaGreatMn25
import Derived.Test.YthdoimgbbabcaaaGreatMn21
import Derived.Test.YthdoimgbbabcaaaGreatMn26
import Derived.Test.YthdoimgbbabcaaaGreatMn27
import Derived.Test.YthdoimgbbabcaaaGreatMn28
import Derived.Test.YthdoimgbbabcaaaGreatMn12
import Derived.BigRegion
import Derived.Test.YthdoimgbbabcaaaGreatMn4
import Derived.Test.YthdoimgbbabcaaaGreatMn3
import Derived.BigQuiet
import Derived.Deep.QuietTactic
import Derived.StillTailTactics
import Derived.Test.YthdoimgbbabcaaaGreatProg
import Derived.WalkMore
import Derived.ScopeJumps

namespace Go.Proofs.YthdoimgbbabcaaaGreat
open Go.RowKit Go.Shelf Plain

theorem lowStep_kind (ls:List (List NodV)) (vl:List (Int×Int)) (nm:List UInt8):(lowStep ls vl nm).1=(findL ls nm vl []).1:=by
 unfold lowStep noStep
 split
 ·rename_i h;exact h.symm
 ·split
  ·rename_i h;exact h.symm
  ·rfl
theorem shown_mem {up:List NodV} {ls:List (List NodV)} {u:Int} {vl:List (Int×Int)} {nm:List UInt8}:decide (nm∈namesV up ls (u,vl))=((stepV up ls (u,vl) nm).1 != 0):=by
 rw [Bool.eq_iff_iff,decide_eq_true_iff]
 unfold namesV
 rw [List.mem_filter,(sortS_rising _).2]
 constructor
 ·rintro ⟨-,h⟩
  unfold hidV at h
  simpa using h
 ·intro h
  have h0:(stepV up ls (u,vl) nm).1≠0:=by simpa using h
  refine ⟨?_,by unfold hidV;simpa using h0⟩
  unfold allV
  rw [List.mem_append]
  cases ho:firstB up u nm with
  | some e =>
   obtain ⟨-,h1,h2⟩:=firstB_use ho
   exact .inr (List.mem_map.2 ⟨e,h2,h1⟩)
  | none =>
   left
   unfold stepV at h0
   dsimp only at h0
   rw [ho] at h0
   dsimp only at h0
   rw [lowStep_kind] at h0
   have:=told_mem (ls:=ls) (l:=vl) (nm:=nm)
   rw [show ((findL ls nm vl []).1 != 0)=true from by simpa using h0] at this
   exact of_decide_eq_true this
end Go.Proofs.YthdoimgbbabcaaaGreat

namespace Go.Proofs.YthdoimgbbabcaaaGreat
open Go

def downOk (md:Region.Mode) (ops:Array Oper):Bool:=(List.range ops.size).all fun i=>((ops[i]?).map (·.after.all fun e=>!Region.binds md e||decide (e.on < i))).getD false
section
variable {P : Program} {ops : Array Oper} {Q : Exit → Act → World → Prop} {md : Region.Mode}
theorem getD_in {listed:Array Bool} {k:Nat} (h:k < listed.size) (b c:Bool):listed.getD k b=listed.getD k c:=by simp [Array.getD,h]
theorem wpAny_J {J : Array Bool → Act → World → Prop} (hdown : downOk md ops = true)
  (hend:∀listed a w,listed.size=ops.size→(∀i,i < ops.size→listed.getD i true=true)→J listed a w→Q .normal a w)
  (hstep:∀i o,ops[i]?=some o→∀listed a w,listed.size=ops.size→listed.getD i true=false→(o.after.all fun e=>!Region.binds md e||listed.getD e.on false)=true→J listed a w→wpOp P ops Q i (J (listed.setIfInBounds i true)) a w) :
  ∀(fuel:Nat) (l:List Nat) (listed:Array Bool) (a:Act) (w:World),listed.size=ops.size→(∀i,i < ops.size→listed.getD i true=false→i∈l)→l.length≤fuel→J listed a w→wpAny P md ops Q fuel listed a w:=by
 have hmem:∀(listed:Array Bool) i,i < ops.size→listed.getD i true=false→(∀o,ops[i]?=some o→(o.after.all fun e=>!Region.binds md e||listed.getD e.on false)=true)→i∈Region.ready md ops listed:=by
  intro listed i hi h1 h2
  unfold Region.ready
  rw [List.mem_filter]
  refine ⟨List.mem_range.2 hi,?_⟩
  have ho:ops[i]?=some ops[i]:=Array.getElem?_eq_getElem hi
  rw [h1,ho]
  simpa using h2 _ ho
 have hleast:∀(listed:Array Bool),listed.size=ops.size→Region.ready md ops listed=[]→∀i,i < ops.size→listed.getD i true=true:=by
  intro listed hsz hr i
  induction i using Nat.strongRecOn with
  | _ i ih =>
   intro hi
   cases h:listed.getD i true with
   | true=>rfl
   | false =>
    exfalso
    have hin:=hmem listed i hi h (fun o ho=>by
     unfold downOk at hdown
     have hd:=List.all_eq_true.1 hdown i (List.mem_range.2 hi)
     rw [ho] at hd
     simp only [Option.map_some,Option.getD_some] at hd
     rw [Array.all_eq_true_iff_forall_mem] at hd ⊢
     intro e he
     have h3:=hd e he
     rw [Bool.or_eq_true] at h3 ⊢
     refine h3.imp id (fun h4=>?_)
     have h5:e.on < i:=of_decide_eq_true h4
     rw [getD_in (by omega) false true]
     exact ih e.on h5 (by omega))
    rw [hr] at hin
    cases hin
 intro fuel
 induction fuel with
 | zero =>
  intro l listed a w hsz hl hlen hJ
  have hall:∀i,i < ops.size→listed.getD i true=true:=by
   intro i hi
   cases h:listed.getD i true with
   | true=>rfl
   | false =>
    have:=hl i hi h
    rw [List.eq_nil_of_length_eq_zero (by omega:l.length=0)] at this
    cases this
  refine ⟨?_,hend listed a w hsz hall hJ⟩
  unfold Region.ready
  rw [List.filter_eq_nil_iff]
  intro i hi
  rw [hall i (List.mem_range.1 hi)]
  simp
 | succ fuel ih =>
  intro l listed a w hsz hl hlen hJ
  refine ⟨fun hr=>hend listed a w hsz (hleast listed hsz hr) hJ,fun i hi=>?_⟩
  unfold Region.ready at hi
  rw [List.mem_filter,Bool.and_eq_true] at hi
  obtain ⟨h0,h1,h2⟩:=hi
  have hlt:=List.mem_range.1 h0
  have ho:ops[i]?=some ops[i]:=Array.getElem?_eq_getElem hlt
  have h1':listed.getD i true=false:=by simpa using h1
  rw [ho] at h2
  refine wpOp_mono (fun a' w' h'=>ih (l.erase i) _ a' w' (by simpa using hsz) ?_ ?_ h') (hstep i _ ho listed a w hsz h1' (by simpa using h2) hJ)
  ·intro k hk hkf
   have hne:k≠i:=by
    intro e
    subst e
    simp [Array.getD,hsz,hk] at hkf
   refine (List.mem_erase_of_ne hne).2 (hl k hk ?_)
   rw [←hkf]
   rw [Array.getD_eq_getD_getElem?,Array.getD_eq_getD_getElem?,Array.getElem?_setIfInBounds_ne hne.symm]
  ·rw [List.length_erase_of_mem (hl i hlt h1')]
   omega
theorem wp_region_J {id : Nat} {a : Act} {w : World} (J : Array Bool → Act → World → Prop) (hm : P.follows .mixedOrders = true) (hdown : downOk .any ops = true)
  (h0:J (Array.replicate ops.size false) a w.drew)
  (hstep:∀i o,ops[i]?=some o→∀listed a w,listed.size=ops.size→listed.getD i true=false→(o.after.all fun e=>!Region.binds .any e||listed.getD e.on false)=true→J listed a w→wpOp P ops Q i (J (listed.setIfInBounds i true)) a w)
  (hend:∀listed a w,listed.size=ops.size→(∀i,i < ops.size→listed.getD i true=true)→J listed a w→Q .normal a w):(Code.region id ops true).wp P Q a w :=
 wp_region_any hm (wpAny_J hdown hend hstep ops.size (List.range ops.size) _ a _ (by simp) (fun i hi _=>List.mem_range.2 hi) (by simp) h0)
end
end Go.Proofs.YthdoimgbbabcaaaGreat

namespace Go.Proofs.YthdoimgbbabcaaaGreat
open Go Go.RowKit

def ForOps (C : Nat → Oper → Prop) : Nat → List Oper → Prop
 | _,[]=>True
 | i,o::r=>C i o∧ForOps C (i+1) r
theorem ForOps.get {C : Nat → Oper → Prop} : ∀ {l : List Oper} {n : Nat}, ForOps C n l → ∀ {i : Nat} {o : Oper}, l[i]? = some o → C (n + i) o
 | [],_,_,_,_,h=>by simp at h
 | x::r,n,hf,0,o,h=>by
  simp only [List.getElem?_cons_zero,Option.some.injEq] at h
  rw [←h]
  exact hf.1
 | x::r,n,hf,i+1,o,h=>by
  rw [List.getElem?_cons_succ] at h
  have:=hf.2.get h
  rw [show n+(i+1)=n+1+i by omega]
  exact this
def waits (o:Oper):List Nat:=(o.after.toList.filter (Region.binds .any)).map (·.on)
def noGuard (ops:Array Oper):Bool:=ops.all fun o=>o.guard.isNone
section
variable {P : Program} {ops : Array Oper} {Q : Exit → Act → World → Prop}
theorem wp_region_K {id : Nat} {a : Act} {w : World} (J : Act → (Nat → Prop) → Act → World → Prop) (hm : P.follows .mixedOrders = true) (hdown : downOk .any ops = true) (hng : noGuard ops = true)
  (h0:J a (fun _=>False) a w.drew)
  (hstep:ForOps (fun i o=>∀(L:Nat→Prop) (a':Act) (w':World),¬L i→(∀k∈waits o,L k)→J a L a' w'→∀K:Act→World→Prop,Hid (∀a'' w'',J a (fun k=>k=i∨L k) a'' w''→K a'' w'')→o.wp P a' w' K Q) 0 ops.toList)
  (hend:∀(L:Nat→Prop) (a':Act) (w':World),(∀k,k < ops.size→L k)→J a L a' w'→Q .normal a' w'):(Code.region id ops true).wp P Q a w:=by
 refine wp_region_J (fun listed a' w'=>∃L:Nat→Prop,(∀k,k < ops.size→(L k↔listed.getD k false=true))∧J a L a' w') hm hdown ?_ ?_ ?_
 ·refine ⟨fun _=>False,fun k hk=>?_,h0⟩
  simp [Array.getD,hk]
 ·intro i o ho listed a' w' hsz hli haf ⟨L,hL,hJ⟩
  have hi:i < ops.size:=(Array.getElem?_eq_some_iff.1 ho).1
  have ho2:ops.toList[i]?=some o:=by rw [Array.getElem?_toList];exact ho
  have h1:=hstep.get ho2
  rw [Nat.zero_add] at h1
  have hg:o.guard=none:=by
   unfold noGuard at hng
   rw [Array.all_eq_true_iff_forall_mem] at hng
   have:=hng o (Array.mem_of_getElem? ho)
   simpa using this
  unfold wpOp
  rw [ho]
  simp only
  rw [if_pos (by unfold Region.wanted;rw [hg])]
  left
  refine h1 L a' w' (fun hh=>?_) (fun k hk=>?_) hJ _ (show Hid _ from fun a'' w'' hJ'=>⟨fun k=>k=i∨L k,fun k hk=>?_,hJ'⟩)
  ·have h2:=(hL i hi).1 hh
   rw [getD_in (by omega) false true,hli] at h2
   cases h2
  ·unfold waits at hk
   obtain ⟨e,he,rfl⟩:=List.mem_map.1 hk
   rw [List.mem_filter] at he
   rw [Array.all_eq_true_iff_forall_mem] at haf
   have h2:=haf e (Array.mem_toList_iff.1 he.1)
   rw [he.2] at h2
   have h3:listed.getD e.on false=true:=by simpa using h2
   have h4:e.on < ops.size:=by
    rw [←hsz]
    by_cases hc:e.on < listed.size
    ·exact hc
    ·simp [Array.getD,hc] at h3
   exact (hL _ h4).2 h3
  ·by_cases hki:k=i
   ·subst hki
    simp [Array.getD,hsz,hk]
   ·rw [Array.getD_eq_getD_getElem?,Array.getElem?_setIfInBounds_ne (fun e=>hki e.symm),←Array.getD_eq_getD_getElem?,←hL k hk]
    simp [hki]
 ·intro listed a' w' hsz hall ⟨L,hL,hJ⟩
  exact hend L a' w' (fun k hk=>(hL k hk).2 (by rw [getD_in (by omega) false true];exact hall k hk)) hJ
end
theorem put_self (a:Act) (s:Nat):a.put (some s) (a.tmps.getD s undef)=a:=by
 obtain ⟨t,d⟩:=a
 simp only [Act.put,Act.mk.injEq,and_true]
 apply Array.ext
 ·simp
 ·intro i h1 h2
  rw [Array.getElem_setIfInBounds h2]
  split
  ·rename_i h;subst h;simp [Array.getD,h2]
  ·rfl
def puts : Act → List (Nat × Value) → Act
 | a,[]=>a
 | a,(s,v)::r=>puts (a.put (some s) v) r
theorem puts_self (a : Act) : ∀ ss : List Nat, puts a (ss.map fun s => (s, a.tmps.getD s undef)) = a
 | []=>rfl
 | s::r=>by
  rw [List.map_cons]
  show puts (a.put (some s) (a.tmps.getD s undef)) _=a
  rw [put_self]
  exact puts_self a r
theorem wp_val {P:Program} {o:Oper} {a:Act} {w w':World} {v:Value} {K:Act→World→Prop} {Q:Exit→Act→World→Prop} (h:(execOp a.eval o).run P w=.ok (.value v) w') (hk:K (a.put o.dst v) w'):o.wp P a w K Q:=by
 unfold Oper.wp
 rw [h]
 exact hk
theorem or_of {p q:Prop} (hp:¬p) (h:p∨q):q:=h.resolve_left hp
theorem wp_region_L {P : Program} {l : List Oper} {Q : Exit → Act → World → Prop} {id : Nat} {a : Act} {w : World} (J : Act → (Nat → Prop) → Act → World → Prop) (hm : P.follows .mixedOrders = true) (hdown : downOk .any l.toArray = true) (hng : noGuard l.toArray = true)
  (h0:∀f:Nat→Value,(∀ss:List Nat,puts a (ss.map fun s=>(s,f s))=a)→J a (fun _=>False) a w.drew)
  (hstep:ForOps (fun i o=>∀(L:Nat→Prop) (a':Act) (w':World),¬L i→(∀k∈waits o,L k)→J a L a' w'→∀K:Act→World→Prop,Hid (∀a'' w'',J a (fun k=>k=i∨L k) a'' w''→K a'' w'')→o.wp P a' w' K Q) 0 l)
  (hend:∀(L:Nat→Prop) (a':Act) (w':World),(∀k,k < l.length→L k)→J a L a' w'→Q .normal a' w'):(Code.region id l.toArray true).wp P Q a w :=
 wp_region_K J hm hdown hng (h0 _ (puts_self a)) hstep (fun L a' w' h=>hend L a' w' (fun k hk=>h k (by simpa using hk)))
end Go.Proofs.YthdoimgbbabcaaaGreat

namespace Go.Proofs.YthdoimgbbabcaaaGreat
open Go.RowKit Go.Shelf Plain

structure NmF (W0 : World) (L : Nat → Prop) (u46 u48 u50 u51 u10 u11 : Value) (p46 : Nat) (A48 : Option Addr) (c48 p50 : Nat) (A51 : Option Addr) (c51 g10 g11 nN : Nat) (names : List (List UInt8)) (last : List UInt8) (S : StepV) (A9 : Option Addr) (c9 : Nat) (w' : World) : Prop where
 hb:Below W0.heap.size W0 w'
 f1:L 1→u46=.slice (some ⟨p46,0,none⟩) 0 0
 r1:L 1→¬L 3→OwE Enc.text w' W0.heap.size 9 (some ⟨p46,0,none⟩) 0 0 []
 f3:L 3→u48=.slice A48 nN c48
 r3:L 3→¬L 6→OwE Enc.text w' W0.heap.size 9 A48 nN c48 names
 f5:L 5→u50=.slice (some ⟨p50,0,none⟩) 1 1
 r5:L 5→¬L 6→RdE Enc.text w' (fun b=>b=p50) (some ⟨p50,0,none⟩) 1 [last]
 l5:L 5→p50 < w'.heap.size
 d3:L 3→¬L 6→L 5→∀a,A48=some a→a.block≠p50
 d1:L 1→¬L 3→L 5→p46≠p50
 f6:L 6→u51=.slice A51 (nN+1) c51
 r6:L 6→¬L 7→OwE Enc.text w' W0.heap.size 9 A51 (nN+1) c51 (names++[last])
 f12:L 12→u10=.pointer (some ⟨g10,0,none⟩)
 b12:L 12→W0.heap.size≤g10
 r12:L 12→¬L 15→RowL w' g10 47 (viwC 0 (.slice none 0 0))
 f13:L 13→u11=.pointer (some ⟨g11,0,none⟩)
 b13:L 13→W0.heap.size≤g11
 r13:L 13→¬L 16→RowL w' g11 49 (prC (0,0))
 o8:L 8→L 7
 o10:L 10→L 7
 o15:L 15→L 7
 p15:L 15→L 12
 r15:L 15→RowL w' g10 47 (viwC S.2.1.1 (.slice A9 S.2.1.2.length c9))
 p16:L 16→L 13
 r16:L 16→RowL w' g11 49 (prC S.2.2)
theorem NmF.on {W0 : World} {L : Nat → Prop} {u46 u48 u50 u51 u10 u11 : Value} {p46 : Nat} {A48 : Option Addr} {c48 p50 : Nat} {A51 : Option Addr} {c51 g10 g11 nN : Nat} {names : List (List UInt8)} {last : List UInt8} {S : StepV} {A9 : Option Addr} {c9 : Nat} {w' w'' : World} (h : NmF W0 L u46 u48 u50 u51 u10 u11 p46 A48 c48 p50 A51 c51 g10 g11 nN names last S A9 c9 w') (hb : Below w'.heap.size w' w'') : NmF W0 L u46 u48 u50 u51 u10 u11 p46 A48 c48 p50 A51 c51 g10 g11 nN names last S A9 c9 w'' where
 hb:=h.hb.trans (hb.mono h.hb.size)
 f1:=h.f1
 r1:=fun LP N3=>(h.r1 LP N3).below hb
 f3:=h.f3
 r3:=fun LP N6=>(h.r3 LP N6).below hb
 f5:=h.f5
 r5:=fun LP N6=>((h.r5 LP N6)).mono (Kept.of_below hb (fun b e=>by have e':b=p50:=e;rw [e'];exact h.l5 LP)) (fun _ h=>h)
 l5:=fun LP=>Nat.lt_of_lt_of_le ((h.l5 LP)) hb.size
 d3:=h.d3
 d1:=h.d1
 f6:=h.f6
 r6:=fun LP N7=>(h.r6 LP N7).below hb
 f12:=h.f12
 b12:=h.b12
 r12:=fun LP N15=>(h.r12 LP N15).on hb
 f13:=h.f13
 b13:=h.b13
 r13:=fun LP N16=>(h.r13 LP N16).on hb
 o8:=h.o8
 o10:=h.o10
 o15:=h.o15
 p15:=h.p15
 r15:=fun LP=>(h.r15 LP).on hb
 p16:=h.p16
 r16:=fun LP=>(h.r16 LP).on hb
theorem NmF.more {W0 : World} {L : Nat → Prop} {u46 u48 u50 u51 u10 u11 : Value} {p46 : Nat} {A48 : Option Addr} {c48 p50 : Nat} {A51 : Option Addr} {c51 g10 g11 nN : Nat} {names : List (List UInt8)} {last : List UInt8} {S : StepV} {A9 : Option Addr} {c9 : Nat} {w' : World} (h : NmF W0 L u46 u48 u50 u51 u10 u11 p46 A48 c48 p50 A51 c51 g10 g11 nN names last S A9 c9 w') {i : Nat} (hi : ∀ k ∈ [1, 3, 5, 6, 7, 8, 10, 12, 13, 15, 16], k ≠ i) : NmF W0 (fun k => k = i ∨ L k) u46 u48 u50 u51 u10 u11 p46 A48 c48 p50 A51 c51 g10 g11 nN names last S A9 c9 w' where
 hb:=h.hb
 f1:=fun LP=>h.f1 (or_of (hi 1 (by decide)) LP)
 r1:=fun LP N3=>h.r1 (or_of (hi 1 (by decide)) LP) (fun q=>N3 (.inr q))
 f3:=fun LP=>h.f3 (or_of (hi 3 (by decide)) LP)
 r3:=fun LP N6=>h.r3 (or_of (hi 3 (by decide)) LP) (fun q=>N6 (.inr q))
 f5:=fun LP=>h.f5 (or_of (hi 5 (by decide)) LP)
 r5:=fun LP N6=>h.r5 (or_of (hi 5 (by decide)) LP) (fun q=>N6 (.inr q))
 l5:=fun LP=>h.l5 (or_of (hi 5 (by decide)) LP)
 d3:=fun LP N6 L5=>h.d3 (or_of (hi 3 (by decide)) LP) (fun q=>N6 (.inr q)) (or_of (hi 5 (by decide)) L5)
 d1:=fun LP N3 L5=>h.d1 (or_of (hi 1 (by decide)) LP) (fun q=>N3 (.inr q)) (or_of (hi 5 (by decide)) L5)
 f6:=fun LP=>h.f6 (or_of (hi 6 (by decide)) LP)
 r6:=fun LP N7=>h.r6 (or_of (hi 6 (by decide)) LP) (fun q=>N7 (.inr q))
 f12:=fun LP=>h.f12 (or_of (hi 12 (by decide)) LP)
 b12:=fun LP=>h.b12 (or_of (hi 12 (by decide)) LP)
 r12:=fun LP N15=>h.r12 (or_of (hi 12 (by decide)) LP) (fun q=>N15 (.inr q))
 f13:=fun LP=>h.f13 (or_of (hi 13 (by decide)) LP)
 b13:=fun LP=>h.b13 (or_of (hi 13 (by decide)) LP)
 r13:=fun LP N16=>h.r13 (or_of (hi 13 (by decide)) LP) (fun q=>N16 (.inr q))
 o8:=fun LP=>.inr (h.o8 (or_of (hi 8 (by decide)) LP))
 o10:=fun LP=>.inr (h.o10 (or_of (hi 10 (by decide)) LP))
 o15:=fun LP=>.inr (h.o15 (or_of (hi 15 (by decide)) LP))
 p15:=fun LP=>.inr (h.p15 (or_of (hi 15 (by decide)) LP))
 r15:=fun LP=>h.r15 (or_of (hi 15 (by decide)) LP)
 p16:=fun LP=>.inr (h.p16 (or_of (hi 16 (by decide)) LP))
 r16:=fun LP=>h.r16 (or_of (hi 16 (by decide)) LP)
theorem NmF.start {W0 w':World} (hb:Below W0.heap.size W0 w') {u46 u48 u50 u51 u10 u11:Value} {p46:Nat} {A48:Option Addr} {c48 p50:Nat} {A51:Option Addr} {c51 g10 g11 nN:Nat} {names:List (List UInt8)} {last:List UInt8} {S:StepV} {A9:Option Addr} {c9:Nat}:NmF W0 (fun _=>False) u46 u48 u50 u51 u10 u11 p46 A48 c48 p50 A51 c51 g10 g11 nN names last S A9 c9 w':=⟨hb,fun h=>h.elim,fun h=>h.elim,fun h=>h.elim,fun h=>h.elim,fun h=>h.elim,fun h=>h.elim,fun h=>h.elim,fun h=>h.elim,fun h=>h.elim,fun h=>h.elim,fun h=>h.elim,fun h=>h.elim,fun h=>h.elim,fun h=>h.elim,fun h=>h.elim,fun h=>h.elim,fun h=>h.elim,fun h=>h.elim,fun h=>h.elim,fun h=>h.elim,fun h=>h.elim,fun h=>h.elim,fun h=>h.elim,fun h=>h.elim⟩
theorem OwE.baseB {α:Type} {E:Enc α} {w:World} {base e n c:Nat} {A:Option Addr} {l:List α} (h:OwE E w base e A n c l):∀a,A=some a→base≤a.block:=by
 obtain ⟨css,⟨h1,h2⟩,h3⟩:=h
 intro a ha
 rcases h2 with ⟨h2,-⟩|⟨g,cap,cur,he,hbg,-⟩
 ·simp only [Value.slice.injEq] at h2
  rw [h2.1] at ha;cases ha
 ·simp only [Value.slice.injEq] at he
  rw [he.1] at ha
  cases ha
  exact hbg
theorem rowl_ne {w:World} {g g' t t':Nat} {cs cs':List Value} (h:RowL w g t cs) (h':RowL w g' t' cs') (ht:t≠t'):g≠g':=by
 rintro rfl
 have:=Option.some.inj ((show w.heap[g]?=_ from h).symm.trans h')
 injection this with _ h2 _
 exact ht h2
theorem str_infoE:(Tryz.prog.info? 9).map (fun i=>(i.zero,i.size,i.bytes))=some (some (.string ⟨#[]⟩),Enc.text.k,16):=by kernel_rfl
theorem text_R (x:List UInt8):∀(w:World) (D:Nat→Prop),Enc.text.R w D [.string ⟨x.toArray⟩] x:=fun _ _=>rfl
theorem rd_txt {w:World} {B n:Nat} {A:Option Addr} {l:List (List UInt8)} (h:Rd st w B A n l):RdE Enc.text w (Under B) A n l:=by
 refine ⟨h.1,fun hn=>?_⟩
 obtain ⟨b,o,e,hb,hc⟩:=h.2 hn
 refine ⟨b,o,e,hb,fun i x hx=>⟨[st x],rfl,fun j v hv=>?_⟩⟩
 have hj:j=0:=by have:=(List.getElem?_eq_some_iff.1 hv).1;simpa using this
 subst hj
 obtain rfl:st x=v:=by simpa using hv
 have:=hc i x hx
 simpa [Enc.text,Enc.val] using this
theorem at_snoc (up:List NodV) (ls:List (List NodV)) (l:List (List UInt8)) (x:List UInt8):atM up ls (l++[x])=goM up ls (atM up ls l) x:=by
 unfold atM
 rw [List.foldl_append]
 rfl
end Go.Proofs.YthdoimgbbabcaaaGreat

namespace Go.Proofs.YthdoimgbbabcaaaGreat
open Go.RowKit Go.Shelf Plain

theorem hcell {w w':World} {b o:Nat} {cs:List Value} (h:∀k x,cs[k]?=some x→w.cell? ⟨b,o+k,none⟩=some x) {B:Nat} (hb:Below B w w') (hlt:b < B):∀k x,cs[k]?=some x→w'.cell? ⟨b,o+k,none⟩=some x:=fun k x hx=>(hb.cell (p:=⟨b,o+k,none⟩) hlt).trans (h k x hx)
end Go.Proofs.YthdoimgbbabcaaaGreat

namespace Go.Proofs.YthdoimgbbabcaaaGreat
open Go.RowKit Go.Shelf Plain

def TreeF (w:World) (ws:List WayV) (vs:List ViewV) (e:Ending) (w':World):Prop:=∃A c A' c',e=.returned (.tuple #[.slice A ws.length c,.slice A' vs.length c'])∧RdE wayEn w' (fun b=>w.heap.size≤b∧b < w'.heap.size) A ws.length ws∧RdE viewEn w' (Under w'.heap.size) A' vs.length vs∧Below w.heap.size w w'
end Go.Proofs.YthdoimgbbabcaaaGreat

namespace Go.Proofs.YthdoimgbbabcaaaGreat
open Go.RowKit Go.Shelf Plain

theorem OwE.lt {α:Type} {E:Enc α} {w:World} {base e n c:Nat} {A:Option Addr} {l:List α} (h:OwE E w base e A n c l):∀a,A=some a→a.block < w.heap.size:=by
 obtain ⟨css,hrow,-,-⟩:=h
 intro a ha
 subst ha
 rcases hrow.2 with ⟨h0,-⟩|⟨g,cap,cur,h0,-,hg,-⟩
 ·cases h0
 ·cases h0
  exact (Array.getElem?_eq_some_iff.1 hg).1
theorem KeepS.cell {wX W:World} {B b o:Nat} {vc:List Value} (h:KeepS wX B b o vc W) {p:Addr} (hp:p.block < wX.heap.size) (hne:p.block≠b):W.cell? p=wX.cell? p:=World.cell?_of_block (w:=wX) (h.2.1 p.block hp hne)
end Go.Proofs.YthdoimgbbabcaaaGreat

namespace Go.Proofs.YthdoimgbbabcaaaGreat
open Go.RowKit Go.Shelf Plain

def TreeP (w:World) (n:Nat) (ws:List WayV) (vs:List ViewV) (e:Ending) (w':World):Prop:=∃A c A' c',e=.returned (.tuple #[.slice A n c,.slice A' n c'])∧RdE wayEn w' (fun b=>w.heap.size≤b∧b < w'.heap.size) A n ws∧RdE viewEn w' (Under w'.heap.size) A' n vs∧Below w.heap.size w w'
theorem TreeF.p {w w':World} {ws:List WayV} {vs:List ViewV} {n:Nat} {e:Ending} (h:TreeF w ws vs e w') (h1:ws.length=n) (h2:vs.length=n):TreeP w n ws vs e w':=by
 obtain ⟨A,c,A',c',he,ha,hb,hbl⟩:=h
 rw [h1] at he ha
 rw [h2] at he hb
 exact ⟨A,c,A',c',he,ha,hb,hbl⟩
end Go.Proofs.YthdoimgbbabcaaaGreat

namespace Go.Proofs.YthdoimgbbabcaaaGreat
open Go.RowKit Go.Shelf Plain

theorem enc_lit1 {α:Type} {E:Enc α} {x:α} {cs:List Value} (hR:∀w D,E.R w D cs x) (W:World) (t:Nat) {lo:Nat} (hlo:lo≤W.heap.size):RdE E (W.alloc (.cells cs.toArray t)) (fun b=>lo≤b∧b < (W.alloc (.cells cs.toArray t)).heap.size) (some ⟨W.heap.size,0,none⟩) 1 [x]:=by
 refine ⟨rfl,fun _=>⟨_,_,rfl,⟨hlo,by simp⟩,fun i y hy=>⟨cs,?_,fun j v hv=>?_⟩⟩⟩
 ·have hi:i=0:=by have:=(List.getElem?_eq_some_iff.1 hy).1;simpa using this
  subst hi
  obtain rfl:x=y:=by simpa using hy
  exact hR _ _
 ·have hi:i=0:=by have:=(List.getElem?_eq_some_iff.1 hy).1;simpa using this
  subst hi
  rw [Nat.zero_mul,Nat.zero_add,Nat.zero_add,(RowL.new W t cs).cell]
  exact hv
end Go.Proofs.YthdoimgbbabcaaaGreat

