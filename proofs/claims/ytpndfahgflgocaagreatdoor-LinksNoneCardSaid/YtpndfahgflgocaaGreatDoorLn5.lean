import Derived.Test.YtpndfahgflgocaaGreatDoorLn4
import Derived.Test.YtpndfahgflgocaaGreatDoorLn3
import Derived.Great.BuildSlice
import Derived.RangeFuncCalls
import Derived.OwnWalkIn

namespace Go.Proofs.YtpndfahgflgocaaGreatDoor
open Go

def bitN (s i:Nat):Bool:=Nat.beq (Nat.land (Nat.shiftRight s i) 1) 1
def withN (s i:Nat):Nat:=Nat.lor s (Nat.shiftLeft 1 i)
def needN (md : Region.Mode) : List Edge → Nat
 | []=>0
 | e::r=>bif Region.binds md e then withN (needN md r) e.on else needN md r
def needsN (md:Region.Mode) (ops:Array Oper):List Nat:=ops.toList.map fun o=>needN md o.after.toList
def readyN (s : Nat) : List Nat → Nat → List Nat
 | [],_=>[]
 | m::r,i=>bif bitN s i then readyN s r (i+1) else bif Nat.beq (Nat.land m s) m then i::readyN s r (i+1) else readyN s r (i+1)
def freeN (md : Region.Mode) (ops : Array Oper) (s i : Nat) : List Oper → Nat → Bool
 | [],_=>true
 | o::r,j=>(bif bitN s j then true else bif Nat.beq j i then true else bif o.after.toList.any (fun e=>Region.binds md e&&Nat.beq e.on i) then true else match ops[i]? with|some oi=>oi.apart ops o|none=>false)&&freeN md ops s i r (j+1)
def isOne : List Nat → Nat → Bool
 | [j],i=>Nat.beq j i
 | _,_=>false
def hasN : List Nat → Nat → Bool
 | [],_=>false
 | j::r,i=>bif Nat.beq j i then true else hasN r i
def planOkN (md : Region.Mode) (ops : Array Oper) (ns : List Nat) : Nat → List (Nat × Bool) → Bool
 | s,[]=>(readyN s ns 0).isEmpty
 | s,(i,p)::r=>(bif p then hasN (readyN s ns 0) i&&freeN md ops s i ops.toList 0 else isOne (readyN s ns 0) i)&&planOkN md ops ns (withN s i) r

theorem bitN_test (s i:Nat):bitN s i=s.testBit i:=by
 have h:∀n,n % 2=1∨n % 2=0:=fun n=>by omega
 unfold bitN
 show Nat.beq ((s >>> i) &&& 1) 1=_
 rw [Nat.testBit,Nat.and_comm 1]
 simp only [Nat.and_one_is_mod]
 rcases h (s >>> i) with e|e <;> rw [e] <;> rfl
theorem withN_test (s i k:Nat):(withN s i).testBit k=(s.testBit k||decide (i=k)):=by
 unfold withN
 show (s ||| (1 <<< i)).testBit k=_
 rw [Nat.testBit_or,Nat.one_shiftLeft,Nat.testBit_two_pow]
theorem needN_test (md : Region.Mode) : ∀ (l : List Edge) (k : Nat), (needN md l).testBit k = l.any fun e => Region.binds md e && decide (e.on = k)
 | [],k=>by simp [needN]
 | e::r,k=>by
  unfold needN
  rw [List.any_cons,←needN_test md r k]
  cases hb:Region.binds md e with
  | true=>simp only [cond_true,withN_test,Bool.true_and,Bool.or_comm]
  | false=>simp
theorem sub_test (m s:Nat):Nat.beq (Nat.land m s) m=true↔∀k,m.testBit k=true→s.testBit k=true:=by
 rw [Nat.beq_eq]
 show m &&& s=m↔_
 constructor
 ·intro h k hk
  rw [←h,Nat.testBit_and,Bool.and_eq_true] at hk
  exact hk.2
 ·intro h
  refine Nat.eq_of_testBit_eq fun k=>?_
  rw [Nat.testBit_and]
  cases hm:m.testBit k with
  | false=>rfl
  | true=>rw [h k hm];rfl

def RelN (ops:Array Oper) (listed:Array Bool) (s:Nat):Prop:=listed.size=ops.size∧∀k,s.testBit k=listed.getD k false
theorem RelN.at_true {ops:Array Oper} {listed:Array Bool} {s:Nat} (h:RelN ops listed s) {k:Nat} (hk:k < ops.size):listed.getD k true=s.testBit k:=by
 rw [h.2,gd_tf (by rw [h.1];exact hk)]
theorem RelN.set {ops:Array Oper} {listed:Array Bool} {s i:Nat} (h:RelN ops listed s) (hi:i < ops.size):RelN ops (listed.setIfInBounds i true) (withN s i):=by
 refine ⟨by simp [h.1],fun k=>?_⟩
 rw [withN_test,gd_set (by rw [h.1];exact hi),h.2]
 by_cases e:k=i
 ·subst e;simp
 ·rw [if_neg e]
  have:¬i=k:=fun q=>e q.symm
  simp [this]

theorem readyN_cons (s m i:Nat) (r:List Nat):readyN s (m::r) i=bif bitN s i then readyN s r (i+1) else bif Nat.beq (Nat.land m s) m then i::readyN s r (i+1) else readyN s r (i+1):=rfl
theorem readyN_mem {s : Nat} : ∀ (l : List Nat) (i x : Nat), x ∈ readyN s l i ↔ ∃ j, ∃ m, l[j]? = some m ∧ x = i + j ∧ s.testBit x = false ∧ ∀ k, m.testBit k = true → s.testBit k = true
 | [],i,x=>by simp [readyN]
 | m::r,i,x=>by
  have ih:=readyN_mem (s:=s) r (i+1) x
  have split:(∃j,∃m',(m::r)[j]?=some m'∧x=i+j∧s.testBit x=false∧∀k,m'.testBit k=true→s.testBit k=true)↔((x=i∧s.testBit x=false∧∀k,m.testBit k=true→s.testBit k=true)∨x∈readyN s r (i+1)):=by
   rw [ih]
   constructor
   ·rintro ⟨j,m',hj,hx,h1,h2⟩
    cases j with
    | zero=>rw [List.getElem?_cons_zero] at hj;cases hj;exact .inl ⟨by omega,h1,h2⟩
    | succ j=>rw [List.getElem?_cons_succ] at hj;exact .inr ⟨j,m',hj,by omega,h1,h2⟩
   ·rintro (⟨h0,h1,h2⟩|⟨j,m',hj,hx,h1,h2⟩)
    ·exact ⟨0,m,rfl,by omega,h1,h2⟩
    ·exact ⟨j+1,m',by rw [List.getElem?_cons_succ];exact hj,by omega,h1,h2⟩
  rw [split,readyN_cons,bitN_test]
  cases hb:s.testBit i with
  | true =>
   simp only [cond_true]
   constructor
   ·exact .inr
   ·rintro (⟨rfl,h1,-⟩|h)
    ·rw [hb] at h1;cases h1
    ·exact h
  | false =>
   simp only [cond_false]
   cases hm:Nat.beq (Nat.land m s) m with
   | true =>
    simp only [cond_true,List.mem_cons]
    have hm':=(sub_test m s).1 hm
    constructor
    ·rintro (rfl|h)
     ·exact .inl ⟨rfl,hb,hm'⟩
     ·exact .inr h
    ·rintro (⟨rfl,-,-⟩|h)
     ·exact .inl rfl
     ·exact .inr h
   | false =>
    simp only [cond_false]
    constructor
    ·exact .inr
    ·rintro (⟨rfl,-,h2⟩|h)
     ·rw [(sub_test m s).2 h2] at hm;cases hm
     ·exact h
theorem readyN_lt {s:Nat} {l:List Nat} {x:Nat} (h:x∈readyN s l 0):x < l.length:=by
 obtain ⟨j,m,hj,hx,-⟩:=(readyN_mem l 0 x).1 h
 have:=(List.getElem?_eq_some_iff.1 hj).1
 omega
theorem readyN_pair {s : Nat} : ∀ (l : List Nat) (i : Nat), (readyN s l i).Pairwise (· < ·)
 | [],i=>List.Pairwise.nil
 | m::r,i=>by
  have ih:=readyN_pair (s:=s) r (i+1)
  have hgt:∀x∈readyN s r (i+1),i < x:=by
   intro x hx
   obtain ⟨j,m',hj,hx,-⟩:=(readyN_mem r (i+1) x).1 hx
   omega
  rw [readyN_cons]
  cases bitN s i with
  | true=>exact ih
  | false =>
   simp only [cond_false]
   cases Nat.beq (Nat.land m s) m with
   | true=>exact List.pairwise_cons.2 ⟨hgt,ih⟩
   | false=>exact ih
theorem ready_iff {md:Region.Mode} {ops:Array Oper} {listed:Array Bool} {s:Nat} (h:RelN ops listed s) (x:Nat):x∈Region.ready md ops listed↔x∈readyN s (needsN md ops) 0:=by
 rw [mem_ready,readyN_mem]
 constructor
 ·rintro ⟨h1,h2,o,ho,h3⟩
  refine ⟨x,needN md o.after.toList,?_,by omega,by rw [←h.at_true h1];exact h2,fun k hk=>?_⟩
  ·unfold needsN
   rw [List.getElem?_map,Array.getElem?_toList,ho]
   rfl
  ·rw [needN_test,List.any_eq_true] at hk
   obtain ⟨e,he,hb⟩:=hk
   rw [Bool.and_eq_true,decide_eq_true_eq] at hb
   rw [h.2,←hb.2]
   exact h3 e (by simpa using he) hb.1
 ·rintro ⟨j,m,hj,hx,h1,h2⟩
  obtain rfl:x=j:=by omega
  unfold needsN at hj
  rw [List.getElem?_map,Array.getElem?_toList] at hj
  cases ho:ops[x]? with
  | none=>rw [ho] at hj;cases hj
  | some o =>
   rw [ho] at hj
   cases hj
   have hlt:=(Array.getElem?_eq_some_iff.1 ho).1
   refine ⟨hlt,by rw [h.at_true hlt];exact h1,o,rfl,fun e he hb=>?_⟩
   rw [←h.2]
   refine h2 _ ?_
   rw [needN_test,List.any_eq_true]
   exact ⟨e,by simpa using he,by rw [Bool.and_eq_true,decide_eq_true_eq];exact ⟨hb,rfl⟩⟩
theorem ready_pair {md:Region.Mode} {ops:Array Oper} {listed:Array Bool}:(Region.ready md ops listed).Pairwise (· < ·):=by
 unfold Region.ready
 exact List.Pairwise.filter _ List.pairwise_lt_range
theorem ready_same {md:Region.Mode} {ops:Array Oper} {listed:Array Bool} {s:Nat} (h:RelN ops listed s):Region.ready md ops listed=readyN s (needsN md ops) 0 :=
 List.Perm.eq_of_pairwise (fun _ _ _ _ h1 h2=>absurd h1 (Nat.lt_asymm h2)) ready_pair (readyN_pair _ _) ((List.perm_ext_iff_of_nodup ((ready_pair).imp Nat.ne_of_lt) ((readyN_pair _ _).imp Nat.ne_of_lt)).2 fun x=>ready_iff h x)
theorem free_of {md:Region.Mode} {ops:Array Oper} {listed:Array Bool} {s i:Nat} (h:RelN ops listed s) (hi:i < ops.size):∀(l:List Oper) (j:Nat),freeN md ops s i l j=true→(∀k o,l[k]?=some o→ops[j+k]?=some o) →
  ∀k o,l[k]?=some o→(j+k==i||listed.getD (j+k) true||(o.after.any (fun e=>Region.binds md e&&e.on==i)||(ops[i]'hi).apart ops o))=true
 | [],j,_,_,k,o,ho=>by simp at ho
 | x::r,j,hf,hl,k,o,ho=>by
  unfold freeN at hf
  rw [Bool.and_eq_true] at hf
  cases k with
  | zero =>
   rw [List.getElem?_cons_zero] at ho
   cases ho
   have hj:=(Array.getElem?_eq_some_iff.1 (hl 0 x rfl)).1
   have h1:=hf.1
   rw [bitN_test] at h1
   rw [h.at_true hj]
   cases hb:s.testBit (j+0) with
   | true=>simp
   | false =>
    rw [Nat.add_zero] at hb ⊢
    rw [hb] at h1
    simp only [cond_false] at h1
    by_cases he:j=i
    ·simp [he]
    ·have:Nat.beq j i=false:=by
      cases hq:Nat.beq j i with
      | false=>rfl
      | true=>exact absurd (Nat.eq_of_beq_eq_true hq) he
     rw [this] at h1
     simp only [cond_false,Array.getElem?_eq_getElem hi] at h1
     have eb:∀e:Edge,Nat.beq e.on i=(e.on==i):=fun e=>by rw [Bool.eq_iff_iff,Nat.beq_eq,beq_iff_eq]
     simp only [eb,Array.any_toList] at h1
     cases ha:x.after.any (fun e=>Region.binds md e&&e.on==i) with
     | true=>simp
     | false =>
      rw [ha] at h1
      simp only [cond_false] at h1
      rw [h1]
      simp
  | succ k =>
   rw [List.getElem?_cons_succ] at ho
   have:=free_of h hi r (j+1) hf.2 (fun k o hk=>by have:=hl (k+1) o (by rw [List.getElem?_cons_succ];exact hk);rw [show j+1+k=j+(k+1) from by omega];exact this) k o ho
   rw [show j+(k+1)=j+1+k from by omega]
   exact this
theorem free_same {md:Region.Mode} {ops:Array Oper} {listed:Array Bool} {s i:Nat} (h:RelN ops listed s) (hi:i < ops.size) (hf:freeN md ops s i ops.toList 0=true):Region.free md ops listed i=true:=by
 unfold Region.free
 rw [Array.getElem?_eq_getElem hi]
 simp only [List.all_eq_true,List.mem_range]
 intro j hj
 have:=free_of h hi ops.toList 0 hf (fun k o hk=>by rw [Nat.zero_add,←Array.getElem?_toList];exact hk) j (ops[j]'hj) (by rw [Array.getElem?_toList,Array.getElem?_eq_getElem hj])
 rw [Nat.zero_add] at this
 rw [Array.getElem?_eq_getElem hj]
 exact this
theorem hasN_mem : ∀ (l : List Nat) (i : Nat), hasN l i = true → i ∈ l
 | [],i,h=>by cases h
 | j::r,i,h=>by
  unfold hasN at h
  cases hq:Nat.beq j i with
  | true=>rw [Nat.eq_of_beq_eq_true hq];exact List.mem_cons_self
  | false=>rw [hq] at h;exact List.mem_cons_of_mem _ (hasN_mem r i h)
theorem isOne_eq : ∀ (l : List Nat) (i : Nat), isOne l i = true → l = [i]
 | [],i,h=>by cases h
 | [j],i,h=>by rw [Nat.eq_of_beq_eq_true h]
 | _::_::_,i,h=>by cases h
theorem planOk_ofN {md : Region.Mode} {ops : Array Oper} : ∀ (ps : List (Nat × Bool)) (listed : Array Bool) (s : Nat), RelN ops listed s → planOkN md ops (needsN md ops) s ps = true → planOk md ops listed ps = true
 | [],listed,s,h,hp=>by
  unfold planOkN at hp
  unfold planOk
  rw [ready_same h]
  exact hp
 | (i,p)::r,listed,s,h,hp=>by
  unfold planOkN at hp
  rw [Bool.and_eq_true] at hp
  obtain ⟨h1,h2⟩:=hp
  unfold planOk
  have hlen:(needsN md ops).length=ops.size:=by simp [needsN]
  have go:i < ops.size→planOk md ops (listed.setIfInBounds i true) r=true:=fun hi=>planOk_ofN r _ _ (h.set hi) h2
  cases p with
  | true =>
   simp only [cond_true,Bool.and_eq_true] at h1
   have hmem:=hasN_mem _ _ h1.1
   have hi:i < ops.size:=by rw [←hlen];exact readyN_lt hmem
   simp only [if_true,Bool.and_eq_true]
   exact ⟨⟨free_same h hi h1.2,by rw [ready_same h];simpa using hmem⟩,go hi⟩
  | false =>
   simp only [cond_false] at h1
   have e:=isOne_eq _ _ h1
   have hi:i < ops.size:=by rw [←hlen];exact readyN_lt (s:=s) (by rw [e];simp)
   simp only [Bool.false_eq_true,if_false,Bool.and_eq_true,beq_iff_eq]
   exact ⟨by rw [ready_same h];exact e,go hi⟩
theorem relN_zero (ops:Array Oper):RelN ops (Array.replicate ops.size false) 0:=by
 refine ⟨by simp,fun k=>?_⟩
 rw [Nat.zero_testBit,Array.getD_eq_getD_getElem?,Array.getElem?_replicate]
 split <;> rfl
theorem planOk_fast {ops:Array Oper} {ps:List (Nat×Bool)} (h:planOkN .any ops (needsN .any ops) 0 ps=true):planOk .any ops (Array.replicate ops.size false) ps=true :=
 planOk_ofN ps _ _ (relN_zero ops) h
theorem planOk_fastL {ops:Array Oper} {ps:List (Nat×Bool)} {L:Nat} (hL:L < ops.size) (h:planOkN .any ops (needsN .any ops) (withN 0 L) ps=true):planOk .any ops ((Array.replicate ops.size false).setIfInBounds L true) ps=true :=
 planOk_ofN ps _ _ ((relN_zero ops).set hL) h

section
variable {P : Program} {ops : Array Oper} {Q : Exit → Act → World → Prop}
theorem wp_region_planN {id : Nat} {a : Act} {w : World} (S : World → Prop) (ps : List (Nat × Bool)) {l : List (Oper × Bool)} (hm : P.follows .mixedOrders = true) (hok : planOkN .any ops (needsN .any ops) 0 ps = true) (hn : Region.noSelect ops = true) (hlen : decide (ps.length ≤ ops.size) = true)
  (hl:planOps ops ps=l) (hQ:∀c a k v w,Q (.panic c) (Act.put a (some k) v) w→Q (.panic c) a w) (hS:S w.drew) (h:S w.drew→wpPlan P ops Q S l a w.drew):(Code.region id ops true).wp P Q a w :=
 wp_region_plan S ps hm (planOk_fast hok) hn hlen hl hQ hS h
theorem wp_region_planLN {id : Nat} {a : Act} {w : World} (S : World → Prop) (ps : List (Nat × Bool)) (L : Nat) {l : List (Oper × Bool)} (hm : P.follows .mixedOrders = true) (hlast : lastOk .any ops L = true) (hok : planOkN .any ops (needsN .any ops) (withN 0 L) ps = true) (hn : Region.noSelect ops = true) (hlen : decide (ps.length + 1 ≤ ops.size) = true)
  (hl:planOps ops ps=l) (hQ:∀c a k v w,Q (.panic c) (Act.put a (some k) v) w→Q (.panic c) a w) (hS:S w.drew) (h:S w.drew→wpPlan P ops (postL P ops Q L) S l a w.drew):(Code.region id ops true).wp P Q a w :=
 wp_region_planL S ps L hm hlast (planOk_fastL (lastOk_parts hlast).1 hok) hn hlen hl hQ hS h
end
end Go.Proofs.YtpndfahgflgocaaGreatDoor

namespace Go.Proofs.YtpndfahgflgocaaGreatDoor
open Go.RowKit Plain

section
variable {P : Program} {T : TypeId}
theorem execOp_load {ρ:Operand→Value} {o:Oper} {x:Operand} {k:Nat} {w:World} (ho:o.op=.load T x) (hag:∀w,(isAgg T).run P w=.ok true w) (hsz:∀w,(sizeOf T).run P w=.ok k w) {g off:Nat} {cs:List Value} (hx:ρ x=.pointer (some ⟨g,off,none⟩)) (h:∀j v,cs[j]?=some v→w.cell? ⟨g,off+j,none⟩=some v) (hk:cs.length=k) :
  (execOp ρ o).run P w=.ok (.value (.agg cs.toArray)) w:=by
 have hr:=run_loadAt_cells (P:=P) hag hsz h hk
 unfold execOp
 simp only [ho,Sem.run_bind,Sem.run_pure,Result.andThen_ok,hx,hr]
theorem RowL.at0 {w:World} {g t:Nat} {cs:List Value} (h:RowL w g t cs):∀j v,cs[j]?=some v→w.cell? ⟨g,0+j,none⟩=some v:=fun j v hv=>by rw [Nat.zero_add,h.cell];exact hv
end
end Go.Proofs.YtpndfahgflgocaaGreatDoor

namespace Go.Proofs.YtpndfahgflgocaaGreatDoor
open Go.RowKit Go.Shelf Plain

def wayC (y:WayV):List Value:=[.int .i64 y.ino,.int .i64 y.up,.string ⟨y.name.toArray⟩]
def twC (q:Int×Nat):List Value:=[.int .i64 q.1,.int .i64 (q.2:Int)]
def flatW (l:List WayV):List Value:=l.flatMap wayC
def flatT (l:List (Int×Nat)):List Value:=l.flatMap twC
theorem flatW_snoc (l:List WayV) (y:WayV):flatW (l++[y])=flatW l++wayC y:=by simp [flatW]
theorem flatT_snoc (l:List (Int×Nat)) (q:Int×Nat):flatT (l++[q])=flatT l++twC q:=by simp [flatT]
theorem flatW_len (l:List WayV):(flatW l).length=l.length*3:=by
 induction l with
 | nil=>rfl
 | cons x r ih=>rw [show flatW (x::r)=wayC x++flatW r from rfl,List.length_append,ih,List.length_cons];simp only [wayC,List.length_cons,List.length_nil];omega
theorem flatT_len (l:List (Int×Nat)):(flatT l).length=l.length*2:=by
 induction l with
 | nil=>rfl
 | cons x r ih=>rw [show flatT (x::r)=twC x++flatT r from rfl,List.length_append,ih,List.length_cons];simp only [twC,List.length_cons,List.length_nil];omega
def FreeO (o:Obj):Prop:=∀arr t fr,o=.cells arr t fr→t≠92∧t≠178
theorem SetW.not_own {W:World} {b c base e s n:Nat} {f:Int→Bool} {v:Value} {xs:List Value} (h:SetW W b c f) (ho:W.ownsRow base e s v n xs):v.ownBlock=none∨v.ownBlock≠some b:=by
 obtain ⟨o,h1,-,h2⟩:=h.obj
 refine .inr fun e=>?_
 obtain ⟨-,-,o',h3,h4⟩:=own_block ho b e
 rw [h1] at h3
 cases Option.some.inj h3
 rw [h2] at h4
 cases h4
theorem SetW.not_row {W:World} {b c g t:Nat} {f:Int→Bool} {cs:List Value} (h:SetW W b c f) (hr:RowL W g t cs):some g≠some b:=by
 obtain ⟨o,h1,-,h2⟩:=h.obj
 intro e
 have e:=Option.some.inj e
 subst e
 rw [show W.heap[g]?=_ from hr] at h1
 cases Option.some.inj h1
 cases h2
structure TurnW (B g b : Nat) (W W' : World) : Prop where
 os:W'.os=W.os
 tape:W'.tape=W.tape
 output:W'.output=W.output
 size:W.heap.size≤W'.heap.size
 kept:∀(k:Nat) (o:Obj),W.heap[k]?=some o→(k < B∨(k≠g∧k≠b∧FreeO o))→W'.heap[k]?=some o
section
variable {B g b : Nat} {A C E : World}
theorem heap_lt {W:World} {k:Nat} {o:Obj} (h:W.heap[k]?=some o):k < W.heap.size:=(Array.getElem?_eq_some_iff.1 h).1
theorem TurnW.refl (B g b:Nat) (A:World):TurnW B g b A A:=⟨rfl,rfl,rfl,Nat.le_refl _,fun _ _ h _=>h⟩
theorem TurnW.trans (h:TurnW B g b A C) (k:TurnW B g b C E):TurnW B g b A E :=
 ⟨k.os.trans h.os,k.tape.trans h.tape,k.output.trans h.output,Nat.le_trans h.size k.size,fun i o ho hi=>k.kept i o (h.kept i o ho hi) hi⟩
theorem TurnW.of_below (h:Below A.heap.size A C):TurnW B g b A C:=⟨h.os,h.tape,h.output,h.size,fun k _ ho _=>(h.block k (heap_lt ho)).trans ho⟩
theorem TurnW.grown {row:Option Nat} (hg:A.grownBy C row) (hr:∀k,row=some k→B≤k∧(k=g∨k=b∨∀o,A.heap[k]?=some o→¬FreeO o)):TurnW B g b A C :=
 ⟨hg.os,hg.tape,hg.output,hg.size,fun k o ho hk=>(hg.block k (heap_lt ho) (fun e=>by
  obtain ⟨h1,h2⟩:=hr k e.symm
  rcases hk with hk|⟨h3,h4,h5⟩
  ·omega
  ·rcases h2 with h2|h2|h2
   ·exact h3 h2
   ·exact h4 h2
   ·exact h2 o ho h5)).trans ho⟩
theorem not_free {W:World} {base e s n:Nat} {v:Value} {xs:List Value} (h:W.ownsRow base e s v n xs) (he:e=92∨e=178):∀k,v.ownBlock=some k→base≤k∧∀o,W.heap[k]?=some o→¬FreeO o:=by
 intro k hk
 rcases h.2 with ⟨rfl,_⟩|⟨g',cap,cur,rfl,hb,hc,_⟩
 ·cases hk
 ·obtain rfl:g'=k:=Option.some.inj hk
  refine ⟨hb,fun o ho hf=>?_⟩
  rw [hc] at ho
  have:=hf _ _ _ (Option.some.inj ho).symm
  rcases he with rfl|rfl
  ·exact this.1 rfl
  ·exact this.2 rfl
theorem TurnW.own {base e s n:Nat} {v:Value} {xs:List Value} (ho:A.ownsRow base e s v n xs) (he:e=92∨e=178) (hg:A.grownBy C v.ownBlock) (hB:B≤base):TurnW B g b A C :=
 TurnW.grown hg (fun k hk=>by
  obtain ⟨h1,h2⟩:=not_free ho he k hk
  exact ⟨by omega,.inr (.inr h2)⟩)
theorem TurnW.row (h:TurnW B g b A C) {k t:Nat} {cs:List Value} (hr:RowL A k t cs) (h1:k≠g) (h2:k≠b) (h3:t≠92∧t≠178):RowL C k t cs :=
 h.kept k _ hr (.inr ⟨h1,h2,fun arr t' fr e=>by injection e with _ e _;rw [←e];exact h3⟩)
theorem TurnW.low (h:TurnW B g b A C) (hB:B≤A.heap.size) {k:Nat} (hk:k < B):C.heap[k]?=A.heap[k]?:=by
 have hx:A.heap[k]?=some A.heap[k]:=Array.getElem?_eq_getElem (by omega)
 rw [hx]
 exact h.kept k _ hx (.inl hk)
theorem TurnW.below {w:World} (h:TurnW B g b A C) (hb:Below B w A) (hB:B≤A.heap.size):Below B w C:=⟨h.os.trans hb.os,h.tape.trans hb.tape,h.output.trans hb.output,Nat.le_trans hb.size h.size,fun k hk=>(h.low hB hk).trans (hb.block k hk)⟩
theorem TurnW.rd {α:Type} {F:Enc α} (h:TurnW B g b A C) (hB:B≤A.heap.size) {Q:Option Addr} {n:Nat} {l:List α} (hr:RdE F A (Under B) Q n l):RdE F C (Under B) Q n l:=hr.mono (fun _ hk=>h.low hB hk) fun _ h=>h
end
def WkS (B g b:Nat) (ns:List NodV) (s:StW) (W:World):Prop :=
 ∃A n c A1 n1 c1 A2 n2 c2,B≤g∧B≤b∧RowL W g 144 [.slice A n c,.slice A1 n1 c1,.map (some b),.slice A2 n2 c2]∧RdE nodEn W (Under B) A n ns∧W.ownsRow B 92 3 (.slice A1 n1 c1) n1 (flatW s.1)∧SetW W b n1 (cameW s.1)∧W.ownsRow B 178 2 (.slice A2 n2 c2) n2 (flatT s.2)
section
variable {B g b : Nat} {ns : List NodV} {s : StW} {W W' : World}
theorem WkS.on (h:WkS B g b ns s W) (hb:Below W.heap.size W W'):WkS B g b ns s W':=by
 obtain ⟨A,n,c,A1,n1,c1,A2,n2,c2,h1,h2,h3,h4,h5,h6,h7⟩:=h
 exact ⟨A,n,c,A1,n1,c1,A2,n2,c2,h1,h2,h3.on hb,h4.under hb (by have:=h3.lt;omega),ownsRow_below h5 hb,h6.on hb,ownsRow_below h7 hb⟩
theorem WkS.lt (h:WkS B g b ns s W):B≤g∧g < W.heap.size∧B≤b∧b < W.heap.size:=by
 obtain ⟨A,n,c,A1,n1,c1,A2,n2,c2,h1,h2,h3,h4,h5,h6,h7⟩:=h
 exact ⟨h1,h3.lt,h2,h6.lt⟩
theorem WkS.n (h:WkS B g b ns s W):WkN W B g ns:=by
 obtain ⟨A,n,c,A1,n1,c1,A2,n2,c2,h1,h2,h3,h4,-⟩:=h
 exact ⟨A,n,c,h3.cell 0,h4⟩
theorem WkS.turned {row:Option Nat} (h:WkS B g b ns s W) (hg:W.grownBy W' row) (hr:∀k,row=some k→∀o,W.heap[k]?=some o→B≤k∧k≠b∧(∀arr t fr,o=.cells arr t fr→t≠92∧t≠178∧t≠144)):WkS B g b ns s W':=by
 obtain ⟨A,n,c,A1,n1,c1,A2,n2,c2,h1,h2,h3,h4,h5,h6,h7⟩:=h
 have hlt:=h3.lt
 have hobj:∀ {base e s n:Nat} {v:Value} {xs:List Value},W.ownsRow base e s v n xs→(e=92∨e=178)→(v.ownBlock=none∨v.ownBlock≠row):=by
  intro base e s n v xs ho he
  rcases ho.2 with ⟨rfl,_⟩|⟨g',cap,cur,rfl,_,hc,_⟩
  ·exact .inl rfl
  ·refine .inr fun e'=>?_
   have h9:=(hr g' e'.symm _ hc).2.2 _ _ _ rfl
   rcases he with rfl|rfl
   ·exact h9.1 rfl
   ·exact h9.2.1 rfl
 refine ⟨A,n,c,A1,n1,c1,A2,n2,c2,h1,h2,h3.grown hg (fun e=>((hr g e.symm _ h3).2.2 _ _ _ rfl).2.2 rfl),h4.mono (fun k hk=>hg.block k (by unfold Under at hk;omega) (fun e=>?_)) (fun _ h=>h),h5.kept hg (hobj h5 (.inl rfl)),h6.kept hg (fun e=>?_),h7.kept hg (hobj h7 (.inr rfl))⟩
 ·unfold Under at hk
  have hx:W.heap[k]?=some W.heap[k]:=Array.getElem?_eq_getElem (by omega)
  have:=(hr k e.symm _ hx).1
  omega
 ·obtain ⟨o,ho,-⟩:=h6.obj
  exact (hr b e.symm _ ho).2.1 rfl
end
set_option maxRecDepth 100000 in
theorem way_agg:∀w,(isAgg 92).run Tryz.prog w=.ok true w:=fun w=>by kernel_rfl
set_option maxRecDepth 100000 in
theorem way_size:∀w,(Go.sizeOf 92).run Tryz.prog w=.ok 3 w:=fun w=>by kernel_rfl
def zway:Value:=.agg #[.int .i64 0,.int .i64 0,.string ⟨#[]⟩]
set_option maxRecDepth 100000 in
theorem way_info:(Tryz.prog.info? 92).map (fun i=>(i.zero,i.size,i.bytes))=some (some zway,3,32):=by kernel_rfl
theorem lit_way (y:WayV) (W:World):(Instr.buildSlice 89 1 #[(0,.agg (wayC y).toArray)]).run Tryz.prog W=.ok (.slice (some ⟨W.heap.size,0,none⟩) 1 1) (W.alloc (.cells (wayC y).toArray 92)):=by
 obtain ⟨it,hi,hz,hsz,-⟩:=info_parts way_info
 refine run_buildSlice W _ 92 1 _ _ it zway Tryz.underlying89 hi hz (by omega) (by omega) ?_
 rw [hsz]
 have:=Great.fill_whole (s:=3) (by omega) [.agg (wayC y).toArray] ((Array.range (1*3)).map (zway.cells[· % zway.cells.size]!)) (by intro v hv;rw [List.mem_singleton] at hv;subst hv;simp [Value.cells,wayC]) (by simp)
 simpa [Value.cells] using this
theorem wp_appF {P : Program} {o : Oper} {a : Act} {K : Act → World → Prop} {Q : Exit → Act → World → Prop} (W3 : World) (base B3 : Nat) (hB3 : W3.heap.size = B3) (s x : Operand) (t e : TypeId)
  (hop:o.op=Op.call {callee:=Callee.builtin Builtin.append,args:=#[s,x],argTypes:=#[t,t]}) (ht:P.underlying t=some (.slice e)) (z:Value) (k k8:Nat) (hinfo:(P.info? e).map (fun i=>(i.zero,i.size,i.bytes))=some (some z,k,k8)) (hz:z.cells.size=k) (hk:0 < k) (hk2:k8≤1000)
  (A1:Option Addr) (n1 c1:Nat) (L1 cs:List Value) (hlen:cs.length=k) (h1c:∀u∈cs,u.oneCell'=true) (hs:a.eval s=.slice A1 n1 c1) (ho1:W3.ownsRow base e k (.slice A1 n1 c1) n1 L1)
  (hx:a.eval x=.slice (some ⟨B3,0,none⟩) 1 1) (hm:n1≤100000) (hb:base≤W3.heap.size)
  (hK:∀A5 c5 W5,W5.ownsRow base e k (.slice A5 (n1+1) c5) (n1+1) (L1++cs)→(W3.alloc (.cells cs.toArray e)).grownBy W5 (Value.slice A1 n1 c1).ownBlock→K (a.put o.dst (.slice A5 (n1+1) c5)) W5) :
  o.wp P a (W3.alloc (.cells cs.toArray e)) K Q:=by
 subst hB3
 obtain ⟨ie,hie,hze,hse,hbe⟩:=info_parts hinfo
 have hc:=(RowL.new W3 e cs).src (off:=0) (m:=k) (l:=cs) (by simp [←hlen]) hlen
 obtain ⟨v',W5,hr,ho5,hg5,_⟩:=run_append_own (P:=P) (W3.alloc (.cells cs.toArray e)) base t o.type e ie z k k8 ht hie hze hse hbe hz hk (.slice A1 n1 c1) n1 L1 (ho1.alloc _) ⟨W3.heap.size,0,none⟩ 1 1 cs (by rw [Nat.one_mul];exact hlen) hc h1c (by simp only [maxLen];omega) (by have:(n1+1)*k8≤100001*1000:=Nat.mul_le_mul (by omega) hk2;omega) (by rw [World.size_alloc];omega)
 obtain ⟨A5,c5,rfl⟩:=owns_slice ho5
 unfold Oper.wp execOp
 simp only [hop,resolve,invoke,builtin,Sem.run_bind,Sem.run_pure,Result.andThen_ok,List.map_toArray,List.map_cons,List.map_nil,hs,hx,hr]
 exact hK A5 c5 W5 ho5 hg5
theorem came_snoc (l:List WayV) (y:WayV):cameW (l++[y])=fun x=>cameW l x||x==y.ino:=by
 funext x
 unfold cameW
 rw [List.any_append,List.any_cons,List.any_nil,Bool.or_false]
 congr 1
 exact BEq.comm
end Go.Proofs.YtpndfahgflgocaaGreatDoor

namespace Go.Proofs.YtpndfahgflgocaaGreatDoor
open Go

def noDefer (ops:Array Oper):Bool:=ops.toList.all fun o=>match o.op with|.defer _=>false|_=>true
section
variable {P : Program} {ops : Array Oper} {Q : Exit → Act → World → Prop} {S : World → Prop} {l n : Nat}
theorem noDefer_get (h:noDefer ops=true) {i:Nat} {o:Oper} (ho:ops[i]?=some o) (c:Call):o.op≠.defer c:=by
 unfold noDefer at h
 rw [List.all_eq_true] at h
 have hm:o∈ops.toList:=by
  rw [←Array.getElem?_toList] at ho
  exact List.mem_of_getElem? ho
 have:=h o hm
 intro e
 rw [e] at this
 cases this
theorem Oper.wp_round {o:Oper} {a:Act} {w:World} {K:Act→World→Prop} (hd:∀c,o.op≠.defer c) (h:o.wp P a w K Q):o.wpIn (Fence.wide.inRound l) n P a w K Q:=by
 unfold Oper.wpIn
 refine ⟨fun _ _=>trivial,?_⟩
 rw [Oper.semAt_plain _ _ _ hd]
 unfold Oper.wp at h
 revert h
 generalize (execOp a.eval o).run P w=r
 intro h
 cases r with
 | ok x w' =>
  cases x with
  | value v=>exact h
  | skip=>exact h
  | defer d=>exact h
  | enter f args=>exact ⟨(fun hh=>by cases hh),CallsIn.inRound l (callsIn_wide.2 h)⟩
  | row r args =>
   refine ⟨(fun hh=>by cases hh),fun c cs _=>?_⟩
   obtain ⟨v,w'',h1,h2⟩:=h c cs
   exact ⟨v,w'',h1,stepsIn_wide.2 h2⟩
  | _=>exact h.elim
 | halt e w' =>
  cases e with
  | panic v=>exact h
  | _=>exact h.elim
theorem wpAny_round {md:Region.Mode} (hd:noDefer ops=true) (hlo:¬LetsOut Q):∀(fuel:Nat) (listed:Array Bool) (a:Act) (w:World),wpAny P md ops Q fuel listed a w→wpAnyIn (Fence.wide.inRound l) n P md ops Q fuel listed a w:=by
 intro fuel
 induction fuel with
 | zero=>exact fun listed a w h=>h
 | succ fuel ih =>
  intro listed a w h
  refine ⟨h.1,fun i hi=>?_⟩
  have h2:=h.2 i hi
  unfold wpOp at h2
  unfold wpOpIn
  cases ho:ops[i]? with
  | none=>simp only [ho] at h2 ⊢;exact ih _ _ _ h2
  | some o =>
   simp only [ho] at h2 ⊢
   split
   ·rename_i hw
    rw [if_pos hw] at h2
    rcases h2 with h2|⟨_,h3⟩
    ·exact Oper.wp_round (noDefer_get hd ho) (Oper.wp_mono (fun _ _ h=>ih _ _ _ h) h2)
    ·exact absurd h3 hlo
   ·rename_i hw
    rw [if_neg hw] at h2
    exact ⟨fun _ _=>trivial,ih _ _ _ h2⟩
end
end Go.Proofs.YtpndfahgflgocaaGreatDoor

namespace Go.Proofs.YtpndfahgflgocaaGreatDoor
open Go

def lastOkP (md:Region.Mode) (ops:Array Oper) (L:Nat):Bool :=
 decide (L < ops.size)&&(List.range ops.size).all fun j=>((ops[j]?).map (·.after.all fun e=>!Region.binds md e||(decide (e.on < j)&&e.on != L))).getD false&&(j==L||((ops[L]?).map (·.after.any fun e=>Region.binds md e&&(e.on==j||((ops[e.on]?).map (·.after.any fun e'=>Region.binds md e'&&e'.on==j)).getD false))).getD false)
def ClosedP (md:Region.Mode) (ops:Array Oper) (listed:Array Bool):Prop:=∀k o,ops[k]?=some o→listed.getD k false=true→∀e∈o.after,Region.binds md e=true→listed.getD e.on false=true
section
variable {P : Program} {ops : Array Oper} {Q : Exit → Act → World → Prop} {S : World → Prop} {md : Region.Mode}
theorem gd_mono {listed:Array Bool} {k:Nat} (i:Nat) (h:listed.getD k false=true):(listed.setIfInBounds i true).getD k false=true:=by
 rw [Array.getD_eq_getD_getElem?] at h ⊢
 rw [Array.getElem?_setIfInBounds]
 split
 ·rename_i e
  subst e
  split
  ·rfl
  ·rename_i hn
   rw [Array.getElem?_eq_none (by omega)] at h
   exact h
 ·exact h
theorem ClosedP.zero (md:Region.Mode) (ops:Array Oper):ClosedP md ops (Array.replicate ops.size false):=fun k o _ h=>by
 rw [Array.getD_eq_getD_getElem?,Array.getElem?_replicate] at h
 split at h <;> cases h
theorem ClosedP.set {listed:Array Bool} {i:Nat} (h:ClosedP md ops listed) (hi:i∈Region.ready md ops listed):ClosedP md ops (listed.setIfInBounds i true):=fun k o ho hk e he hb=>by
 by_cases e':k=i
 ·subst e'
  obtain ⟨_,_,o',ho',h3⟩:=mem_ready.1 hi
  rw [ho] at ho'
  cases ho'
  exact gd_mono _ (h3 e he hb)
 ·refine gd_mono _ (h k o ho ?_ e he hb)
  rw [Array.getD_eq_getD_getElem?,Array.getElem?_setIfInBounds_ne (fun h=>e' h.symm)] at hk
  rw [Array.getD_eq_getD_getElem?]
  exact hk
theorem lastOkP_parts {L:Nat} (hok:lastOkP md ops L=true):L < ops.size∧(∀j o,ops[j]?=some o→∀e∈o.after,Region.binds md e=true→e.on < j∧e.on≠L)∧∀j,j < ops.size→j≠L→∀o,ops[L]?=some o→(∃e∈o.after,Region.binds md e=true∧e.on=j)∨(∃e∈o.after,Region.binds md e=true∧∃o',ops[e.on]?=some o'∧∃e'∈o'.after,Region.binds md e'=true∧e'.on=j):=by
 unfold lastOkP at hok
 rw [Bool.and_eq_true,decide_eq_true_eq,List.all_eq_true] at hok
 obtain ⟨hL,hall⟩:=hok
 refine ⟨hL,fun j o ho e he hb=>?_,fun j hj hne o ho=>?_⟩
 ·have hj:=(Array.getElem?_eq_some_iff.1 ho).1
  have h1:=hall j (List.mem_range.2 hj)
  rw [Bool.and_eq_true,ho] at h1
  have h2:=h1.1
  simp only [Option.map_some,Option.getD_some] at h2
  have h3:=Array.all_eq_true_iff_forall_mem.1 h2 e he
  simpa [hb] using h3
 ·have h1:=hall j (List.mem_range.2 hj)
  rw [Bool.and_eq_true,ho] at h1
  have h2:=h1.2
  rw [Bool.or_eq_true] at h2
  rcases h2 with h2|h2
  ·exact absurd (by simpa using h2) hne
  ·simp only [Option.map_some,Option.getD_some] at h2
   obtain ⟨i,hi,h3⟩:=Array.any_eq_true.1 h2
   rw [Bool.and_eq_true,Bool.or_eq_true,beq_iff_eq] at h3
   obtain ⟨h3,h4|h4⟩:=h3
   ·exact .inl ⟨_,Array.getElem_mem hi,h3,h4⟩
   ·refine .inr ⟨_,Array.getElem_mem hi,h3,?_⟩
    cases ho':ops[o.after[i].on]? with
    | none=>rw [ho'] at h4;cases h4
    | some o' =>
     rw [ho'] at h4
     simp only [Option.map_some,Option.getD_some] at h4
     obtain ⟨i',hi',h5⟩:=Array.any_eq_true.1 h4
     rw [Bool.and_eq_true,beq_iff_eq] at h5
     exact ⟨o',rfl,_,Array.getElem_mem hi',h5.1,h5.2⟩

theorem ready_lastP {L:Nat} (hok:lastOkP md ops L=true) {listed:Array Bool} (hsz:listed.size=ops.size) (hcl:ClosedP md ops listed) (hU:∃j,j < ops.size∧(j≠L∧listed.getD j true=false)) :
  (∀i,i∈Region.ready md ops listed→i≠L∧i∈Region.ready md ops (listed.setIfInBounds L true))∧Region.ready md ops listed≠[]:=by
 obtain ⟨hL,hE,hW⟩:=lastOkP_parts hok
 have hLs:L < listed.size:=by omega
 refine ⟨fun i hi=>?_,fun hnil=>?_⟩
 ·rw [mem_ready] at hi
  obtain ⟨h1,h2,o,ho,h3⟩:=hi
  have hne:i≠L:=by
   intro e
   subst e
   obtain ⟨j,hj,hjne,hjl⟩:=hU
   rw [gd_tf (by omega)] at hjl
   rcases hW j hj hjne o ho with ⟨e,he,hb,rfl⟩|⟨e,he,hb,o',ho',e',he',hb',rfl⟩
   ·have:=h3 e he hb
    rw [hjl] at this
    cases this
   ·have:=hcl e.on o' ho' (h3 e he hb) e' he' hb'
    rw [hjl] at this
    cases this
  refine ⟨hne,mem_ready.2 ⟨h1,by rw [gd_set hLs,if_neg hne];exact h2,o,ho,fun e he hb=>?_⟩⟩
  rw [gd_set hLs]
  split
  ·rfl
  ·exact h3 e he hb
 ·obtain ⟨j,hj,⟨hjne,hjl⟩,hmin⟩:=least hU
  have:j∈Region.ready md ops listed:=by
   refine mem_ready.2 ⟨hj,hjl,ops[j],Array.getElem?_eq_getElem hj,fun e he hb=>?_⟩
   obtain ⟨h1,h2⟩:=hE j _ (Array.getElem?_eq_getElem hj) e he hb
   have h3:=hmin e.on h1
   have h4:listed.getD e.on true=true:=by
    cases hq:listed.getD e.on true with
    | true=>rfl
    | false=>exact absurd ⟨h2,hq⟩ h3
   rw [←gd_tf (by omega)]
   exact h4
  rw [hnil] at this
  cases this
theorem wpAny_fullP {L:Nat} (hok:lastOkP md ops L=true) {listed:Array Bool} {a:Act} {w:World} (k:Nat) (hsz:listed.size=ops.size) (hnl:listed.getD L true=false) (hU:¬ ∃j,j < ops.size∧(j≠L∧listed.getD j true=false)) (h:postL P ops Q L .normal a w) :
  wpAny P md ops Q (k+1) listed a w:=by
 obtain ⟨hL,hE,hW⟩:=lastOkP_parts hok
 have hLs:L < listed.size:=by omega
 have hlisted:∀j,j < ops.size→j≠L→listed.getD j true=true:=by
  intro j hj hne
  cases hq:listed.getD j true with
  | true=>rfl
  | false=>exact absurd ⟨j,hj,hne,hq⟩ hU
 have hmem:L∈Region.ready md ops listed:=by
  refine mem_ready.2 ⟨hL,hnl,ops[L],Array.getElem?_eq_getElem hL,fun e he hb=>?_⟩
  obtain ⟨h1,h2⟩:=hE L _ (Array.getElem?_eq_getElem hL) e he hb
  rw [←gd_tf (by omega)]
  exact hlisted _ (by omega) h2
 have hnil:Region.ready md ops (listed.setIfInBounds L true)=[]:=by
  refine List.eq_nil_iff_forall_not_mem.2 fun i hi=>?_
  obtain ⟨h1,h2,_⟩:=mem_ready.1 hi
  rw [gd_set hLs] at h2
  split at h2
  ·cases h2
  ·rename_i hne
   rw [hlisted i h1 hne] at h2
   cases h2
 refine ⟨fun hr=>?_,fun i hi=>?_⟩
 ·rw [hr] at hmem
  cases hmem
 ·obtain ⟨h1,h2,_⟩:=mem_ready.1 hi
  have hiL:i=L:=by
   rcases Nat.decEq i L with hne|he
   ·rw [hlisted i h1 hne] at h2
    cases h2
   ·exact he
  subst hiL
  refine wpOp_mono (fun a' w' hq=>?_) h
  cases k with
  | zero=>exact ⟨hnil,hq⟩
  | succ k=>exact ⟨fun _=>hq,fun i hi=>by rw [hnil] at hi;cases hi⟩

theorem wpAny_lastP {L:Nat} (hok:lastOkP md ops L=true):∀(fuel:Nat) (listed:Array Bool) (a:Act) (w:World),listed.size=ops.size→ClosedP md ops listed→listed.getD L true=false→wpAnyH P md ops (postL P ops Q L) S fuel (listed.setIfInBounds L true) a w→wpAny P md ops Q (fuel+1) listed a w:=by
 have hL:=(lastOkP_parts hok).1
 intro fuel
 induction fuel with
 | zero =>
  intro listed a w hsz hcl hnl H
  by_cases hU:∃j,j < ops.size∧(j≠L∧listed.getD j true=false)
  ·obtain ⟨h1,h2⟩:=ready_lastP hok hsz hcl hU
   refine absurd (List.eq_nil_iff_forall_not_mem.2 fun i hi=>?_) h2
   have:=(h1 i hi).2
   rw [H.1] at this
   cases this
  ·exact wpAny_fullP hok 0 hsz hnl hU H.2
 | succ fuel ih =>
  intro listed a w hsz hcl hnl H
  by_cases hU:∃j,j < ops.size∧(j≠L∧listed.getD j true=false)
  ·obtain ⟨hready,hsome⟩:=ready_lastP hok hsz hcl hU
   refine ⟨fun h=>absurd h hsome,fun i hi=>?_⟩
   obtain ⟨hne,hi2⟩:=hready i hi
   refine wpOp_mono (fun a' w' hk=>?_) (wpOp_post postL_post (H.2 i hi2))
   refine ih _ a' w' (by simp [hsz]) (hcl.set hi) (by rw [gd_set (by have:=(mem_ready.1 hi).1;omega),if_neg (fun e=>hne e.symm)];exact hnl) ?_
   rw [Array.setIfInBounds_comm _ _ hne]
   exact hk.2
  ·refine wpAny_fullP hok _ hsz hnl hU (H.1 ?_)
   refine List.eq_nil_iff_forall_not_mem.2 fun i hi=>?_
   obtain ⟨h1,h2,_⟩:=mem_ready.1 hi
   rw [gd_set (by omega)] at h2
   split at h2
   ·cases h2
   ·rename_i hne
    exact hU ⟨i,h1,hne,h2⟩

theorem wp_region_planP {id : Nat} {a : Act} {w : World} (S : World → Prop) (ps : List (Nat × Bool)) (L : Nat) {l : List (Oper × Bool)} (hm : P.follows .mixedOrders = true) (hlast : lastOkP .any ops L = true) (hok : planOkN .any ops (needsN .any ops) (withN 0 L) ps = true) (hn : Region.noSelect ops = true) (hlen : decide (ps.length + 1 ≤ ops.size) = true)
  (hl:planOps ops ps=l) (hQ:∀c a k v w,Q (.panic c) (Act.put a (some k) v) w→Q (.panic c) a w) (hS:S w.drew) (h:S w.drew→wpPlan P ops (postL P ops Q L) S l a w.drew):(Code.region id ops true).wp P Q a w:=by
 subst hl
 have hlen':=of_decide_eq_true hlen
 have hok:=planOk_fastL (lastOkP_parts hlast).1 hok
 refine wp_region_any hm ?_
 obtain ⟨k,hk⟩:∃k,ops.size=k+1:=⟨ops.size - 1,by omega⟩
 have hLs:=(lastOkP_parts hlast).1
 have H:wpAny P .any ops Q (k+1) (Array.replicate ops.size false) a w.drew:=wpAny_lastP (S:=S) hlast k _ a w.drew (by simp) (ClosedP.zero _ _) (by rw [Array.getD_eq_getD_getElem?,Array.getElem?_replicate,if_pos hLs];rfl) (wpAnyH_plan (S:=S) (Q:=postL P ops Q L) hn (panic_put (Q:=postL P ops Q L) fun c a k v w h=>hQ c a k v w h) ps k _ a w.drew hok (by omega) hS (h hS))
 rw [←hk] at H
 exact H
theorem wpIn_region_planP {id l n : Nat} {a : Act} {w : World} (S : World → Prop) (ps : List (Nat × Bool)) (L : Nat) {r : List (Oper × Bool)} (hm : P.follows .mixedOrders = true) (hlast : lastOkP .any ops L = true) (hok : planOkN .any ops (needsN .any ops) (withN 0 L) ps = true) (hn : Region.noSelect ops = true) (hd : noDefer ops = true) (hlen : decide (ps.length + 1 ≤ ops.size) = true)
  (hl:planOps ops ps=r) (hlo:¬LetsOut Q) (hQ:∀c a k v w,Q (.panic c) (Act.put a (some k) v) w→Q (.panic c) a w) (hS:S w.drew) (h:S w.drew→wpPlan P ops (postL P ops Q L) S r a w.drew):(Code.region id ops true).wpIn (Fence.wide.inRound l) n P Q a w:=by
 subst hl
 have hlen':=of_decide_eq_true hlen
 have hok:=planOk_fastL (lastOkP_parts hlast).1 hok
 refine wpIn_region_any hm (wpAny_round hd hlo _ _ _ _ ?_)
 obtain ⟨k,hk⟩:∃k,ops.size=k+1:=⟨ops.size - 1,by omega⟩
 have hLs:=(lastOkP_parts hlast).1
 have H:wpAny P .any ops Q (k+1) (Array.replicate ops.size false) a w.drew:=wpAny_lastP (S:=S) hlast k _ a w.drew (by simp) (ClosedP.zero _ _) (by rw [Array.getD_eq_getD_getElem?,Array.getElem?_replicate,if_pos hLs];rfl) (wpAnyH_plan (S:=S) (Q:=postL P ops Q L) hn (panic_put (Q:=postL P ops Q L) fun c a k v w h=>hQ c a k v w h) ps k _ a w.drew hok (by omega) hS (h hS))
 rw [←hk] at H
 exact H
end
end Go.Proofs.YtpndfahgflgocaaGreatDoor

