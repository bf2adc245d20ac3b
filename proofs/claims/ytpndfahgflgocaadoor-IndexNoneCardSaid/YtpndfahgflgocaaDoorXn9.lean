import Derived.Test.YtpndfahgflgocaaDoorXn7
import Derived.Test.YtpndfahgflgocaaDoorXn8
import Derived.Test.YtpndfahgflgocaaDoorXn5

namespace Go.Proofs.YtpndfahgflgocaaDoor
open Go

def bitN (s i:Nat):Bool:=Nat.beq (Nat.land (Nat.shiftRight s i) 1) 1
def withN (s i:Nat):Nat:=Nat.lor s (Nat.shiftLeft 1 i)
def needN (md : Region.Mode) : List Edge → Nat
 | []=>0
 | e::r=>bif Region.binds md e then withN (needN md r) e.on else needN md r
def needsN (md:Region.Mode) (ops:Array Oper):List Nat:=ops.toList.map fun o=>needN md o.after.toList
def readyN (s : Nat) : List Nat → Nat → List Nat
 | [],_=>[]
 | m::r,i=>bif bitN s i then readyN s r (i+1) else bif Nat.beq (Nat.land m s) m then i::readyN s r (i+1) else readyN s r (i+1)
def freeN (md : Region.Mode) (ops : Array Oper) (s i : Nat) : List Oper → Nat → Bool
 | [],_=>true
 | o::r,j=>(bif bitN s j then true else bif Nat.beq j i then true else bif o.after.toList.any (fun e=>Region.binds md e&&Nat.beq e.on i) then true else match ops[i]? with|some oi=>oi.apart ops o|none=>false)&&freeN md ops s i r (j+1)
def isOne : List Nat → Nat → Bool
 | [j],i=>Nat.beq j i
 | _,_=>false
def hasN : List Nat → Nat → Bool
 | [],_=>false
 | j::r,i=>bif Nat.beq j i then true else hasN r i
def planOkN (md : Region.Mode) (ops : Array Oper) (ns : List Nat) : Nat → List (Nat × Bool) → Bool
 | s,[]=>(readyN s ns 0).isEmpty
 | s,(i,p)::r=>(bif p then hasN (readyN s ns 0) i&&freeN md ops s i ops.toList 0 else isOne (readyN s ns 0) i)&&planOkN md ops ns (withN s i) r

theorem bitN_test (s i:Nat):bitN s i=s.testBit i:=by
 have h:∀n,n % 2=1∨n % 2=0:=fun n=>by omega
 unfold bitN
 show Nat.beq ((s >>> i) &&& 1) 1=_
 rw [Nat.testBit,Nat.and_comm 1]
 simp only [Nat.and_one_is_mod]
 rcases h (s >>> i) with e|e <;> rw [e] <;> rfl
theorem withN_test (s i k:Nat):(withN s i).testBit k=(s.testBit k||decide (i=k)):=by
 unfold withN
 show (s ||| (1 <<< i)).testBit k=_
 rw [Nat.testBit_or,Nat.one_shiftLeft,Nat.testBit_two_pow]
theorem needN_test (md : Region.Mode) : ∀ (l : List Edge) (k : Nat), (needN md l).testBit k = l.any fun e => Region.binds md e && decide (e.on = k)
 | [],k=>by simp [needN]
 | e::r,k=>by
  unfold needN
  rw [List.any_cons,←needN_test md r k]
  cases hb:Region.binds md e with
  | true=>simp only [cond_true,withN_test,Bool.true_and,Bool.or_comm]
  | false=>simp
theorem sub_test (m s:Nat):Nat.beq (Nat.land m s) m=true↔∀k,m.testBit k=true→s.testBit k=true:=by
 rw [Nat.beq_eq]
 show m &&& s=m↔_
 constructor
 ·intro h k hk
  rw [←h,Nat.testBit_and,Bool.and_eq_true] at hk
  exact hk.2
 ·intro h
  refine Nat.eq_of_testBit_eq fun k=>?_
  rw [Nat.testBit_and]
  cases hm:m.testBit k with
  | false=>rfl
  | true=>rw [h k hm];rfl

def RelN (ops:Array Oper) (listed:Array Bool) (s:Nat):Prop:=listed.size=ops.size∧∀k,s.testBit k=listed.getD k false
theorem RelN.at_true {ops:Array Oper} {listed:Array Bool} {s:Nat} (h:RelN ops listed s) {k:Nat} (hk:k < ops.size):listed.getD k true=s.testBit k:=by
 rw [h.2,gd_tf (by rw [h.1];exact hk)]
theorem RelN.set {ops:Array Oper} {listed:Array Bool} {s i:Nat} (h:RelN ops listed s) (hi:i < ops.size):RelN ops (listed.setIfInBounds i true) (withN s i):=by
 refine ⟨by simp [h.1],fun k=>?_⟩
 rw [withN_test,gd_set (by rw [h.1];exact hi),h.2]
 by_cases e:k=i
 ·subst e;simp
 ·rw [if_neg e]
  have:¬i=k:=fun q=>e q.symm
  simp [this]

theorem readyN_cons (s m i:Nat) (r:List Nat):readyN s (m::r) i=bif bitN s i then readyN s r (i+1) else bif Nat.beq (Nat.land m s) m then i::readyN s r (i+1) else readyN s r (i+1):=rfl
theorem readyN_mem {s : Nat} : ∀ (l : List Nat) (i x : Nat), x ∈ readyN s l i ↔ ∃ j, ∃ m, l[j]? = some m ∧ x = i + j ∧ s.testBit x = false ∧ ∀ k, m.testBit k = true → s.testBit k = true
 | [],i,x=>by simp [readyN]
 | m::r,i,x=>by
  have ih:=readyN_mem (s:=s) r (i+1) x
  have split:(∃j,∃m',(m::r)[j]?=some m'∧x=i+j∧s.testBit x=false∧∀k,m'.testBit k=true→s.testBit k=true)↔((x=i∧s.testBit x=false∧∀k,m.testBit k=true→s.testBit k=true)∨x∈readyN s r (i+1)):=by
   rw [ih]
   constructor
   ·rintro ⟨j,m',hj,hx,h1,h2⟩
    cases j with
    | zero=>rw [List.getElem?_cons_zero] at hj;cases hj;exact .inl ⟨by omega,h1,h2⟩
    | succ j=>rw [List.getElem?_cons_succ] at hj;exact .inr ⟨j,m',hj,by omega,h1,h2⟩
   ·rintro (⟨h0,h1,h2⟩|⟨j,m',hj,hx,h1,h2⟩)
    ·exact ⟨0,m,rfl,by omega,h1,h2⟩
    ·exact ⟨j+1,m',by rw [List.getElem?_cons_succ];exact hj,by omega,h1,h2⟩
  rw [split,readyN_cons,bitN_test]
  cases hb:s.testBit i with
  | true =>
   simp only [cond_true]
   constructor
   ·exact .inr
   ·rintro (⟨rfl,h1,-⟩|h)
    ·rw [hb] at h1;cases h1
    ·exact h
  | false =>
   simp only [cond_false]
   cases hm:Nat.beq (Nat.land m s) m with
   | true =>
    simp only [cond_true,List.mem_cons]
    have hm':=(sub_test m s).1 hm
    constructor
    ·rintro (rfl|h)
     ·exact .inl ⟨rfl,hb,hm'⟩
     ·exact .inr h
    ·rintro (⟨rfl,-,-⟩|h)
     ·exact .inl rfl
     ·exact .inr h
   | false =>
    simp only [cond_false]
    constructor
    ·exact .inr
    ·rintro (⟨rfl,-,h2⟩|h)
     ·rw [(sub_test m s).2 h2] at hm;cases hm
     ·exact h
theorem readyN_lt {s:Nat} {l:List Nat} {x:Nat} (h:x∈readyN s l 0):x < l.length:=by
 obtain ⟨j,m,hj,hx,-⟩:=(readyN_mem l 0 x).1 h
 have:=(List.getElem?_eq_some_iff.1 hj).1
 omega
theorem readyN_pair {s : Nat} : ∀ (l : List Nat) (i : Nat), (readyN s l i).Pairwise (· < ·)
 | [],i=>List.Pairwise.nil
 | m::r,i=>by
  have ih:=readyN_pair (s:=s) r (i+1)
  have hgt:∀x∈readyN s r (i+1),i < x:=by
   intro x hx
   obtain ⟨j,m',hj,hx,-⟩:=(readyN_mem r (i+1) x).1 hx
   omega
  rw [readyN_cons]
  cases bitN s i with
  | true=>exact ih
  | false =>
   simp only [cond_false]
   cases Nat.beq (Nat.land m s) m with
   | true=>exact List.pairwise_cons.2 ⟨hgt,ih⟩
   | false=>exact ih
theorem ready_iff {md:Region.Mode} {ops:Array Oper} {listed:Array Bool} {s:Nat} (h:RelN ops listed s) (x:Nat):x∈Region.ready md ops listed↔x∈readyN s (needsN md ops) 0:=by
 rw [mem_ready,readyN_mem]
 constructor
 ·rintro ⟨h1,h2,o,ho,h3⟩
  refine ⟨x,needN md o.after.toList,?_,by omega,by rw [←h.at_true h1];exact h2,fun k hk=>?_⟩
  ·unfold needsN
   rw [List.getElem?_map,Array.getElem?_toList,ho]
   rfl
  ·rw [needN_test,List.any_eq_true] at hk
   obtain ⟨e,he,hb⟩:=hk
   rw [Bool.and_eq_true,decide_eq_true_eq] at hb
   rw [h.2,←hb.2]
   exact h3 e (by simpa using he) hb.1
 ·rintro ⟨j,m,hj,hx,h1,h2⟩
  obtain rfl:x=j:=by omega
  unfold needsN at hj
  rw [List.getElem?_map,Array.getElem?_toList] at hj
  cases ho:ops[x]? with
  | none=>rw [ho] at hj;cases hj
  | some o =>
   rw [ho] at hj
   cases hj
   have hlt:=(Array.getElem?_eq_some_iff.1 ho).1
   refine ⟨hlt,by rw [h.at_true hlt];exact h1,o,rfl,fun e he hb=>?_⟩
   rw [←h.2]
   refine h2 _ ?_
   rw [needN_test,List.any_eq_true]
   exact ⟨e,by simpa using he,by rw [Bool.and_eq_true,decide_eq_true_eq];exact ⟨hb,rfl⟩⟩
theorem ready_pair {md:Region.Mode} {ops:Array Oper} {listed:Array Bool}:(Region.ready md ops listed).Pairwise (· < ·):=by
 unfold Region.ready
 exact List.Pairwise.filter _ List.pairwise_lt_range
theorem ready_same {md:Region.Mode} {ops:Array Oper} {listed:Array Bool} {s:Nat} (h:RelN ops listed s):Region.ready md ops listed=readyN s (needsN md ops) 0 :=
 List.Perm.eq_of_pairwise (fun _ _ _ _ h1 h2=>absurd h1 (Nat.lt_asymm h2)) ready_pair (readyN_pair _ _) ((List.perm_ext_iff_of_nodup ((ready_pair).imp Nat.ne_of_lt) ((readyN_pair _ _).imp Nat.ne_of_lt)).2 fun x=>ready_iff h x)
theorem free_of {md:Region.Mode} {ops:Array Oper} {listed:Array Bool} {s i:Nat} (h:RelN ops listed s) (hi:i < ops.size):∀(l:List Oper) (j:Nat),freeN md ops s i l j=true→(∀k o,l[k]?=some o→ops[j+k]?=some o) →
  ∀k o,l[k]?=some o→(j+k==i||listed.getD (j+k) true||(o.after.any (fun e=>Region.binds md e&&e.on==i)||(ops[i]'hi).apart ops o))=true
 | [],j,_,_,k,o,ho=>by simp at ho
 | x::r,j,hf,hl,k,o,ho=>by
  unfold freeN at hf
  rw [Bool.and_eq_true] at hf
  cases k with
  | zero =>
   rw [List.getElem?_cons_zero] at ho
   cases ho
   have hj:=(Array.getElem?_eq_some_iff.1 (hl 0 x rfl)).1
   have h1:=hf.1
   rw [bitN_test] at h1
   rw [h.at_true hj]
   cases hb:s.testBit (j+0) with
   | true=>simp
   | false =>
    rw [Nat.add_zero] at hb ⊢
    rw [hb] at h1
    simp only [cond_false] at h1
    by_cases he:j=i
    ·simp [he]
    ·have:Nat.beq j i=false:=by
      cases hq:Nat.beq j i with
      | false=>rfl
      | true=>exact absurd (Nat.eq_of_beq_eq_true hq) he
     rw [this] at h1
     simp only [cond_false,Array.getElem?_eq_getElem hi] at h1
     have eb:∀e:Edge,Nat.beq e.on i=(e.on==i):=fun e=>by rw [Bool.eq_iff_iff,Nat.beq_eq,beq_iff_eq]
     simp only [eb,Array.any_toList] at h1
     cases ha:x.after.any (fun e=>Region.binds md e&&e.on==i) with
     | true=>simp
     | false =>
      rw [ha] at h1
      simp only [cond_false] at h1
      rw [h1]
      simp
  | succ k =>
   rw [List.getElem?_cons_succ] at ho
   have:=free_of h hi r (j+1) hf.2 (fun k o hk=>by have:=hl (k+1) o (by rw [List.getElem?_cons_succ];exact hk);rw [show j+1+k=j+(k+1) from by omega];exact this) k o ho
   rw [show j+(k+1)=j+1+k from by omega]
   exact this
theorem free_same {md:Region.Mode} {ops:Array Oper} {listed:Array Bool} {s i:Nat} (h:RelN ops listed s) (hi:i < ops.size) (hf:freeN md ops s i ops.toList 0=true):Region.free md ops listed i=true:=by
 unfold Region.free
 rw [Array.getElem?_eq_getElem hi]
 simp only [List.all_eq_true,List.mem_range]
 intro j hj
 have:=free_of h hi ops.toList 0 hf (fun k o hk=>by rw [Nat.zero_add,←Array.getElem?_toList];exact hk) j (ops[j]'hj) (by rw [Array.getElem?_toList,Array.getElem?_eq_getElem hj])
 rw [Nat.zero_add] at this
 rw [Array.getElem?_eq_getElem hj]
 exact this
theorem hasN_mem : ∀ (l : List Nat) (i : Nat), hasN l i = true → i ∈ l
 | [],i,h=>by cases h
 | j::r,i,h=>by
  unfold hasN at h
  cases hq:Nat.beq j i with
  | true=>rw [Nat.eq_of_beq_eq_true hq];exact List.mem_cons_self
  | false=>rw [hq] at h;exact List.mem_cons_of_mem _ (hasN_mem r i h)
theorem isOne_eq : ∀ (l : List Nat) (i : Nat), isOne l i = true → l = [i]
 | [],i,h=>by cases h
 | [j],i,h=>by rw [Nat.eq_of_beq_eq_true h]
 | _::_::_,i,h=>by cases h
theorem planOk_ofN {md : Region.Mode} {ops : Array Oper} : ∀ (ps : List (Nat × Bool)) (listed : Array Bool) (s : Nat), RelN ops listed s → planOkN md ops (needsN md ops) s ps = true → planOk md ops listed ps = true
 | [],listed,s,h,hp=>by
  unfold planOkN at hp
  unfold planOk
  rw [ready_same h]
  exact hp
 | (i,p)::r,listed,s,h,hp=>by
  unfold planOkN at hp
  rw [Bool.and_eq_true] at hp
  obtain ⟨h1,h2⟩:=hp
  unfold planOk
  have hlen:(needsN md ops).length=ops.size:=by simp [needsN]
  have go:i < ops.size→planOk md ops (listed.setIfInBounds i true) r=true:=fun hi=>planOk_ofN r _ _ (h.set hi) h2
  cases p with
  | true =>
   simp only [cond_true,Bool.and_eq_true] at h1
   have hmem:=hasN_mem _ _ h1.1
   have hi:i < ops.size:=by rw [←hlen];exact readyN_lt hmem
   simp only [if_true,Bool.and_eq_true]
   exact ⟨⟨free_same h hi h1.2,by rw [ready_same h];simpa using hmem⟩,go hi⟩
  | false =>
   simp only [cond_false] at h1
   have e:=isOne_eq _ _ h1
   have hi:i < ops.size:=by rw [←hlen];exact readyN_lt (s:=s) (by rw [e];simp)
   simp only [Bool.false_eq_true,if_false,Bool.and_eq_true,beq_iff_eq]
   exact ⟨by rw [ready_same h];exact e,go hi⟩
theorem relN_zero (ops:Array Oper):RelN ops (Array.replicate ops.size false) 0:=by
 refine ⟨by simp,fun k=>?_⟩
 rw [Nat.zero_testBit,Array.getD_eq_getD_getElem?,Array.getElem?_replicate]
 split <;> rfl
theorem planOk_fast {ops:Array Oper} {ps:List (Nat×Bool)} (h:planOkN .any ops (needsN .any ops) 0 ps=true):planOk .any ops (Array.replicate ops.size false) ps=true :=
 planOk_ofN ps _ _ (relN_zero ops) h
theorem planOk_fastL {ops:Array Oper} {ps:List (Nat×Bool)} {L:Nat} (hL:L < ops.size) (h:planOkN .any ops (needsN .any ops) (withN 0 L) ps=true):planOk .any ops ((Array.replicate ops.size false).setIfInBounds L true) ps=true :=
 planOk_ofN ps _ _ ((relN_zero ops).set hL) h

section
variable {P : Program} {ops : Array Oper} {Q : Exit → Act → World → Prop}
theorem wp_region_planN {id : Nat} {a : Act} {w : World} (S : World → Prop) (ps : List (Nat × Bool)) {l : List (Oper × Bool)} (hm : P.follows .mixedOrders = true) (hok : planOkN .any ops (needsN .any ops) 0 ps = true) (hn : Region.noSelect ops = true) (hlen : decide (ps.length ≤ ops.size) = true)
  (hl:planOps ops ps=l) (hQ:∀c a k v w,Q (.panic c) (Act.put a (some k) v) w→Q (.panic c) a w) (hS:S w.drew) (h:S w.drew→wpPlan P ops Q S l a w.drew):(Code.region id ops true).wp P Q a w :=
 wp_region_plan S ps hm (planOk_fast hok) hn hlen hl hQ hS h
theorem wp_region_planLN {id : Nat} {a : Act} {w : World} (S : World → Prop) (ps : List (Nat × Bool)) (L : Nat) {l : List (Oper × Bool)} (hm : P.follows .mixedOrders = true) (hlast : lastOk .any ops L = true) (hok : planOkN .any ops (needsN .any ops) (withN 0 L) ps = true) (hn : Region.noSelect ops = true) (hlen : decide (ps.length + 1 ≤ ops.size) = true)
  (hl:planOps ops ps=l) (hQ:∀c a k v w,Q (.panic c) (Act.put a (some k) v) w→Q (.panic c) a w) (hS:S w.drew) (h:S w.drew→wpPlan P ops (postL P ops Q L) S l a w.drew):(Code.region id ops true).wp P Q a w :=
 wp_region_planL S ps L hm hlast (planOk_fastL (lastOk_parts hlast).1 hok) hn hlen hl hQ hS h
end
end Go.Proofs.YtpndfahgflgocaaDoor

namespace Go.Proofs.YtpndfahgflgocaaDoor
open Go.RowKit Plain

section
variable {P : Program} {T : TypeId}
theorem execOp_load {ρ:Operand→Value} {o:Oper} {x:Operand} {k:Nat} {w:World} (ho:o.op=.load T x) (hag:∀w,(isAgg T).run P w=.ok true w) (hsz:∀w,(sizeOf T).run P w=.ok k w) {g off:Nat} {cs:List Value} (hx:ρ x=.pointer (some ⟨g,off,none⟩)) (h:∀j v,cs[j]?=some v→w.cell? ⟨g,off+j,none⟩=some v) (hk:cs.length=k) :
  (execOp ρ o).run P w=.ok (.value (.agg cs.toArray)) w:=by
 have hr:=run_loadAt_cells (P:=P) hag hsz h hk
 unfold execOp
 simp only [ho,Sem.run_bind,Sem.run_pure,Result.andThen_ok,hx,hr]
theorem RowL.at0 {w:World} {g t:Nat} {cs:List Value} (h:RowL w g t cs):∀j v,cs[j]?=some v→w.cell? ⟨g,0+j,none⟩=some v:=fun j v hv=>by rw [Nat.zero_add,h.cell];exact hv
end
end Go.Proofs.YtpndfahgflgocaaDoor

