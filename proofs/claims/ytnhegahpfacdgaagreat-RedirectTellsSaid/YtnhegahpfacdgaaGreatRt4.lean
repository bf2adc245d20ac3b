import Derived.Test.YtnhegahpfacdgaaGreatRt3
import Derived.Maps.OwnIn
import Derived.Maps.RangeWalk
import Derived.Carry
import Derived.Test.YtnhegahpfacdgaaGreatRt1
import Derived.Deep.RegionHeld3
import Derived.KernelRfl

namespace Go.Proofs.YtnhegahpfacdgaaGreat
open Go.RowKit Go.Shelf Plain Go.Maps

def i64 (x:Int):Prop := -9223372036854775808≤x∧x≤9223372036854775807
theorem i64_wf {n:Int} (h:i64 n):(Lit.int .i64 n).wf=true:=by
 unfold i64 at h
 simp [Lit.wf,IntKind.min,IntKind.max,IntKind.signed,IntKind.bits]
 omega
theorem intKey:Keyed Tryz.prog 3:=int_keyed Tryz.underlying3
theorem unit_zero:∀w,(zeroValue 114).run Tryz.prog w=.ok (.agg #[]) w:=fun w=>by kernel_rfl
def SetW (w:World) (b c:Nat) (f:Int→Bool):Prop:=∃D:DataW Unit,w.ownsMap Tryz.prog 3 unitElem b c D∧∀n,i64 n→Maps.has D (.int .i64 n)=f n
section
variable {w w' : World} {b c : Nat} {f : Int → Bool}
theorem SetW.made (w:World):SetW (w.alloc (.map #[] 0)) w.heap.size 0 (fun _=>false):=⟨.map [],World.ownsMap_made w _ _ _,fun _ _=>rfl⟩
theorem SetW.lt (h:SetW w b c f):b < w.heap.size:=by obtain ⟨D,h1,h2⟩:=h;exact h1.lt
theorem SetW.kept {row:Option Nat} (h:SetW w b c f) (hg:w.grownBy w' row) (hne:some b≠row):SetW w' b c f:=by obtain ⟨D,h1,h2⟩:=h;exact ⟨D,h1.kept hg hne,h2⟩
theorem SetW.on (h:SetW w b c f) (hb:Below w.heap.size w w'):SetW w' b c f:=h.kept (grown_below hb) (by simp)
theorem SetW.eq {g:Int→Bool} (h:SetW w b c f) (e:f=g):SetW w b c g:=e ▸ h
theorem SetW.at_ (h:SetW w b c f) (e:w'.heap[b]?=w.heap[b]?):SetW w' b c f:=by
 obtain ⟨D,⟨es,clock,h1,h2⟩,h3⟩:=h
 exact ⟨D,⟨es,clock,e.trans h1,h2⟩,h3⟩
theorem SetW.obj (h:SetW w b c f):∃o:Obj,w.heap[b]?=some o∧(∀x,o≠.deferred x)∧o.isCells=false:=by
 obtain ⟨D,⟨es,clock,h1,_⟩,h2⟩:=h
 exact ⟨_,h1,(fun x e=>by cases e),rfl⟩
theorem SetW.look (h:SetW w b c f) {n:Int} (hn:i64 n):(Instr.lookup 117 (.map (some b)) (.int .i64 n) true).run Tryz.prog w=.ok (.tuple #[.agg #[],.bool (f n)]) w:=by
 obtain ⟨D,h1,h2⟩:=h
 obtain ⟨v,ps,hrun,hv⟩:=h1.look_ok (t:=117) (e:=114) intKey Tryz.underlying117 (unit_zero w) unitElem_mk (keyOf_int_mk Tryz.underlying3 (i64_wf hn))
 obtain ⟨rfl,-⟩:=unitElem_inv hv
 rw [hrun,h2 n hn]
theorem SetW.put (h:SetW w b c f) {n:Int} (hn:i64 n) (hc:c < maxLen):∃w',(Instr.mapUpdate 117 (.map (some b)) (.int .i64 n) (.agg #[])).run Tryz.prog w=.ok () w'∧SetW w' b (c+1) (fun x=>f x||x==n)∧w.grownBy w' (some b):=by
 obtain ⟨D,h1,h2⟩:=h
 obtain ⟨w',hrun,h3,h4⟩:=h1.update (t:=117) (e:=114) intKey Tryz.underlying117 hc (keyOf_int_mk Tryz.underlying3 (i64_wf hn)) unitElem_mk
 have hm:Maps.IsMap D:=h1.isMap
 have hk:WideAt.IsKeyLit (.int .i64 n):=intKey.key (keyOf_int_mk Tryz.underlying3 (i64_wf hn))
 refine ⟨w',hrun,⟨_,h3,fun x hx=>?_⟩,h4⟩
 by_cases e:x=n
 ·subst e
  rw [has_put_same hm hk]
  simp
 ·have hne:Lit.int .i64 x≠Lit.int .i64 n:=by simpa using e
  rw [has_put_other hne,h2 x hx]
  simp [e]
end
set_option maxHeartbeats 800000 in
theorem came_any {g b c:Nat} {f:Int→Bool} {i:Int} {r:Bool} (w:World) (hc:w.cell? ⟨g,2,none⟩=some (.map (some b))) (h:SetW w b c f) (hi:i64 i) (hr:f i=r):Calls Tryz.prog 67 #[.pointer (some ⟨g,0,none⟩),.int .i64 i] w (BoolB w r):=by
 subst hr
 have hl:=h.look hi
 obtain ⟨r,hr⟩:∃r,f i=r:=⟨_,rfl⟩
 rw [hr] at hl ⊢
 clear h hi hr
 go_enter Tryz.func67,Tryz.ntmps67
 go_wp2
 go_ret
 exact BoolB.of (below_new (below_self w) _)
end Go.Proofs.YtnhegahpfacdgaaGreat

namespace Go.Proofs.YtnhegahpfacdgaaGreat
open Go

def planOk (md : Region.Mode) (ops : Array Oper) : Array Bool → List (Nat × Bool) → Bool
 | listed,[]=>(Region.ready md ops listed).isEmpty
 | listed,(i,p)::r=>(if p then Region.free md ops listed i&&(Region.ready md ops listed).contains i else Region.ready md ops listed==[i])&&planOk md ops (listed.setIfInBounds i true) r
def planOps (ops:Array Oper) (ps:List (Nat×Bool)):List (Oper×Bool):=ps.filterMap fun x=>(ops[x.1]?).map fun o=>(o,x.2)

section
variable {P : Program} {ops : Array Oper} {Q : Exit → Act → World → Prop} {S : World → Prop}
def wpPlan (P : Program) (ops : Array Oper) (Q : Exit → Act → World → Prop) (S : World → Prop) : List (Oper × Bool) → Act → World → Prop
 | [],a,w=>Q .normal a w
 | (o,true)::r,a,w=>∃v,YieldsIf P ops S o v a∧wpPlan P ops Q S r (a.put o.dst v) w
 | (o,false)::r,a,w=>if Region.wanted o (yielded ops a.tmps)=true then Oper.wp P o a w (fun a' w'=>S w'∧wpPlan P ops Q S r a' w') Q else wpPlan P ops Q S r (a.put o.dst undef) w
theorem wpPlan_end {a:Act} {w:World} (h:Q .normal a w):wpPlan P ops Q S [] a w:=h
theorem wpPlan_take {o : Oper} {r : List (Oper × Bool)} {a : Act} {w : World} {v : Value} (hw : Region.wanted o (yielded ops a.tmps) = true) (hv : ∀ w, S w → (execOp a.eval o).run P w = .ok (.value v) w)
  (h:wpPlan P ops Q S r (a.put o.dst v) w):wpPlan P ops Q S ((o,true)::r) a w:=⟨v,.inl ⟨hw,hv⟩,h⟩
theorem wpPlan_skip {o : Oper} {r : List (Oper × Bool)} {a : Act} {w : World} {p : Bool} (hw : Region.wanted o (yielded ops a.tmps) = false)
  (h:wpPlan P ops Q S r (a.put o.dst undef) w):wpPlan P ops Q S ((o,p)::r) a w:=by
 cases p with
 | true=>exact ⟨undef,.inr ⟨hw,rfl⟩,h⟩
 | false=>unfold wpPlan;rw [if_neg (by rw [hw];simp)];exact h
theorem wpPlan_call {o : Oper} {r : List (Oper × Bool)} {a : Act} {w : World} (hw : Region.wanted o (yielded ops a.tmps) = true)
  (h:∀K':Act→World→Prop,Shut (∀a' w',S w'→(S w'→wpPlan P ops Q S r a' w')→K' a' w')→Oper.wp P o a w K' Q):wpPlan P ops Q S ((o,false)::r) a w:=by
 unfold wpPlan
 rw [if_pos hw]
 exact h _ (fun a' w' hS hr=>⟨hS,hr hS⟩)

theorem ready_some {md:Region.Mode} {listed:Array Bool} {i:Nat} (h:i∈Region.ready md ops listed):∃o,ops[i]?=some o:=by
 unfold Region.ready at h
 have:=List.mem_range.1 (List.mem_filter.1 h).1
 exact ⟨ops[i],Array.getElem?_eq_getElem this⟩
theorem wpAnyH_plan {md:Region.Mode} (hs:Region.noSelect ops=true) (hQ:∀c a d v w,Q (.panic c) (Act.put a d v) w→Q (.panic c) a w) :
  ∀(ps:List (Nat×Bool)) (fuel:Nat) (listed:Array Bool) (a:Act) (w:World),planOk md ops listed ps=true→ps.length≤fuel→S w→wpPlan P ops Q S (planOps ops ps) a w→wpAnyH P md ops Q S fuel listed a w:=by
 intro ps
 induction ps with
 | nil =>
  intro fuel listed a w hok _ _ h
  exact wpAnyH_done (List.isEmpty_iff.1 hok) h fuel
 | cons x r ih =>
  obtain ⟨i,p⟩:=x
  intro fuel listed a w hok hl hS h
  obtain ⟨fuel,rfl⟩:∃k,fuel=k+1:=⟨fuel - 1,by simp at hl;omega⟩
  have hl':r.length≤fuel:=by simpa using hl
  unfold planOk at hok
  rw [Bool.and_eq_true] at hok
  obtain ⟨h1,h2⟩:=hok
  cases p with
  | true =>
   simp only [if_true,Bool.and_eq_true] at h1
   obtain ⟨o,ho⟩:=ready_some (md:=md) (listed:=listed) (by simpa using h1.2)
   have e:planOps ops ((i,true)::r)=(o,true)::planOps ops r:=by simp [planOps,ho]
   rw [e] at h
   obtain ⟨v,hy,hr⟩:=h
   exact wpAnyH_take ho hs h1.1 h1.2 (fun c a w=>hQ c a _ _ w) hy hS (ih fuel _ _ w h2 hl' hS hr)
  | false =>
   simp only [Bool.false_eq_true,if_false,beq_iff_eq] at h1
   obtain ⟨o,ho⟩:=ready_some (md:=md) (listed:=listed) (i:=i) (by rw [h1];simp)
   have e:planOps ops ((i,false)::r)=(o,false)::planOps ops r:=by simp [planOps,ho]
   rw [e] at h
   refine wpAnyH_all h1 (by simp) (fun j hj=>?_)
   obtain rfl:j=i:=by simpa using hj
   unfold wpOp
   simp only [ho]
   unfold wpPlan at h
   split
   ·rename_i hw
    rw [if_pos hw] at h
    exact .inl (Oper.wp_mono (fun a' w' hk=>⟨hk.1,ih fuel _ _ _ h2 hl' hk.1 hk.2⟩) h)
   ·rename_i hw
    rw [if_neg hw] at h
    exact ⟨hS,ih fuel _ _ w h2 hl' hS h⟩
theorem panic_put (hQ:∀c a k v w,Q (.panic c) (Act.put a (some k) v) w→Q (.panic c) a w):∀c a d v w,Q (.panic c) (Act.put a d v) w→Q (.panic c) a w:=by
 intro c a d v w h
 cases d with
 | none=>exact h
 | some k=>exact hQ c a k v w h
theorem wp_region_plan {id : Nat} {a : Act} {w : World} (S : World → Prop) (ps : List (Nat × Bool)) {l : List (Oper × Bool)} (hm : P.follows .mixedOrders = true) (hok : planOk .any ops (Array.replicate ops.size false) ps = true) (hn : Region.noSelect ops = true) (hlen : decide (ps.length ≤ ops.size) = true)
  (hl:planOps ops ps=l) (hQ:∀c a k v w,Q (.panic c) (Act.put a (some k) v) w→Q (.panic c) a w) (hS:S w.drew) (h:S w.drew→wpPlan P ops Q S l a w.drew):(Code.region id ops true).wp P Q a w:=by
 subst hl
 exact wp_region_held hm (wpAnyH_plan hn (panic_put hQ) ps _ _ _ _ hok (of_decide_eq_true hlen) hS (h hS))
end
end Go.Proofs.YtnhegahpfacdgaaGreat

namespace Go.Proofs.YtnhegahpfacdgaaGreat
open Go

def lastOk (md:Region.Mode) (ops:Array Oper) (L:Nat):Bool :=
 decide (L < ops.size)&&(List.range ops.size).all fun j=>((ops[j]?).map (·.after.all fun e=>!Region.binds md e||(decide (e.on < j)&&e.on != L))).getD false&&(j==L||((ops[L]?).map (·.after.any fun e=>Region.binds md e&&e.on==j)).getD false)

section
variable {P : Program} {ops : Array Oper} {Q Q' : Exit → Act → World → Prop} {S : World → Prop} {md : Region.Mode}
theorem LetsOut.post (h:∀e a w,e≠.normal→Q e a w→Q' e a w) (hl:LetsOut Q):LetsOut Q':=by
 obtain ⟨a,w,h1⟩:=hl
 exact ⟨a,w,h _ _ _ (by simp) h1⟩
theorem Oper.wp_post {o:Oper} {a:Act} {w:World} {K:Act→World→Prop} (h:∀e a w,e≠.normal→Q e a w→Q' e a w) (hh:o.wp P a w K Q):o.wp P a w K Q':=by
 unfold Oper.wp at *
 generalize (execOp a.eval o).run P w=r at *
 cases r with
 | ok n w' =>
  cases n <;> simp only [Oper.upon] at hh ⊢ <;>
   first
    | exact hh
    | exact Calls.mono hh (fun e w'' he=>by cases e <;> first|exact he|exact h _ _ _ (by simp) he|exact LetsOut.post h he)
 | halt x w'=>cases x <;> simp only [Oper.upon] at hh ⊢ <;> first|exact hh|exact h _ _ _ (by simp) hh
theorem wpOp_post {i:Nat} {a:Act} {w:World} {K:Act→World→Prop} (h:∀e a w,e≠.normal→Q e a w→Q' e a w) (hh:wpOp P ops Q i K a w):wpOp P ops Q' i K a w:=by
 unfold wpOp at *
 split
 ·rename_i ho
  simpa only [ho] using hh
 ·rename_i o ho
  simp only [ho] at hh
  split
  ·rename_i hw
   rw [if_pos hw] at hh
   rcases hh with hh|hh
   ·exact .inl (Oper.wp_post h hh)
   ·exact .inr ⟨hh.1,LetsOut.post h hh.2⟩
  ·rename_i hw
   rw [if_neg hw] at hh
   exact hh

def postL (P : Program) (ops : Array Oper) (Q : Exit → Act → World → Prop) (L : Nat) : Exit → Act → World → Prop
 | .normal,a,w=>wpOp P ops Q L (fun a' w'=>Q .normal a' w') a w
 | e,a,w=>Q e a w
theorem postL_post {L:Nat} (e:Exit) (a:Act) (w:World) (he:e≠.normal) (h:postL P ops Q L e a w):Q e a w:=by
 cases e <;> first|exact absurd rfl he|exact h

theorem mem_ready {listed:Array Bool} {i:Nat}:i∈Region.ready md ops listed↔i < ops.size∧listed.getD i true=false∧∃o,ops[i]?=some o∧∀e∈o.after,Region.binds md e=true→listed.getD e.on false=true:=by
 unfold Region.ready
 rw [List.mem_filter,List.mem_range,Bool.and_eq_true]
 constructor
 ·rintro ⟨h1,h2,h3⟩
  refine ⟨h1,by simpa using h2,?_⟩
  rw [Array.getElem?_eq_getElem h1] at h3 ⊢
  refine ⟨_,rfl,fun e he hb=>?_⟩
  simp only [Option.map_some,Option.getD_some] at h3
  have:=Array.all_eq_true_iff_forall_mem.1 h3 e he
  simpa [hb] using this
 ·rintro ⟨h1,h2,o,ho,h3⟩
  refine ⟨h1,by simpa using h2,?_⟩
  rw [ho]
  simp only [Option.map_some,Option.getD_some]
  refine Array.all_eq_true_iff_forall_mem.2 fun e he=>?_
  cases hb:Region.binds md e with
  | false=>rfl
  | true=>simpa using h3 e he hb

theorem gd_set {listed:Array Bool} {L:Nat} (hL:L < listed.size) (k:Nat) (d:Bool):(listed.setIfInBounds L true).getD k d=if k=L then true else listed.getD k d:=by
 rw [Array.getD_eq_getD_getElem?,Array.getD_eq_getD_getElem?,Array.getElem?_setIfInBounds]
 by_cases h:L=k
 ·subst h
  simp [hL]
 ·rw [if_neg h,if_neg (fun e=>h e.symm)]
theorem gd_tf {listed:Array Bool} {k:Nat} (hk:k < listed.size):listed.getD k true=listed.getD k false:=by
 rw [Array.getD_eq_getD_getElem?,Array.getD_eq_getD_getElem?,Array.getElem?_eq_getElem hk]
 rfl
theorem least {p:Nat→Prop} [DecidablePred p] {n:Nat} (h:∃j,j < n∧p j):∃j,j < n∧p j∧∀i,i < j→¬p i:=by
 obtain ⟨j,hj,hp⟩:=h
 induction j using Nat.strongRecOn with
 | _ j ih =>
  by_cases hm:∃i,i < j∧p i
  ·obtain ⟨i,hi,hpi⟩:=hm
   exact ih i hi (by omega) hpi
  ·exact ⟨j,hj,hp,fun i hi hpi=>hm ⟨i,hi,hpi⟩⟩

theorem lastOk_parts {L:Nat} (hok:lastOk md ops L=true):L < ops.size∧(∀j o,ops[j]?=some o→∀e∈o.after,Region.binds md e=true→e.on < j∧e.on≠L)∧∀j,j < ops.size→j≠L→∀o,ops[L]?=some o→∃e∈o.after,Region.binds md e=true∧e.on=j:=by
 unfold lastOk at hok
 rw [Bool.and_eq_true,decide_eq_true_eq,List.all_eq_true] at hok
 obtain ⟨hL,hall⟩:=hok
 refine ⟨hL,fun j o ho e he hb=>?_,fun j hj hne o ho=>?_⟩
 ·have hj:=(Array.getElem?_eq_some_iff.1 ho).1
  have h1:=hall j (List.mem_range.2 hj)
  rw [Bool.and_eq_true,ho] at h1
  have h2:=h1.1
  simp only [Option.map_some,Option.getD_some] at h2
  have h3:=Array.all_eq_true_iff_forall_mem.1 h2 e he
  simpa [hb] using h3
 ·have h1:=hall j (List.mem_range.2 hj)
  rw [Bool.and_eq_true,ho] at h1
  have h2:=h1.2
  rw [Bool.or_eq_true] at h2
  rcases h2 with h2|h2
  ·exact absurd (by simpa using h2) hne
  ·simp only [Option.map_some,Option.getD_some] at h2
   obtain ⟨i,hi,h3⟩:=Array.any_eq_true.1 h2
   rw [Bool.and_eq_true,beq_iff_eq] at h3
   exact ⟨_,Array.getElem_mem hi,h3.1,h3.2⟩

theorem ready_last {L:Nat} (hok:lastOk md ops L=true) {listed:Array Bool} (hsz:listed.size=ops.size) (hU:∃j,j < ops.size∧(j≠L∧listed.getD j true=false)) :
  (∀i,i∈Region.ready md ops listed→i≠L∧i∈Region.ready md ops (listed.setIfInBounds L true))∧Region.ready md ops listed≠[]:=by
 obtain ⟨hL,hE,hW⟩:=lastOk_parts hok
 have hLs:L < listed.size:=by omega
 refine ⟨fun i hi=>?_,fun hnil=>?_⟩
 ·rw [mem_ready] at hi
  obtain ⟨h1,h2,o,ho,h3⟩:=hi
  have hne:i≠L:=by
   intro e
   subst e
   obtain ⟨j,hj,hjne,hjl⟩:=hU
   obtain ⟨e,he,hb,rfl⟩:=hW j hj hjne o ho
   have:=h3 e he hb
   rw [gd_tf (by omega)] at hjl
   rw [hjl] at this
   cases this
  refine ⟨hne,mem_ready.2 ⟨h1,by rw [gd_set hLs,if_neg hne];exact h2,o,ho,fun e he hb=>?_⟩⟩
  rw [gd_set hLs]
  split
  ·rfl
  ·exact h3 e he hb
 ·obtain ⟨j,hj,⟨hjne,hjl⟩,hmin⟩:=least hU
  have:j∈Region.ready md ops listed:=by
   refine mem_ready.2 ⟨hj,hjl,ops[j],Array.getElem?_eq_getElem hj,fun e he hb=>?_⟩
   obtain ⟨h1,h2⟩:=hE j _ (Array.getElem?_eq_getElem hj) e he hb
   have h3:=hmin e.on h1
   have h4:listed.getD e.on true=true:=by
    cases hq:listed.getD e.on true with
    | true=>rfl
    | false=>exact absurd ⟨h2,hq⟩ h3
   rw [←gd_tf (by omega)]
   exact h4
  rw [hnil] at this
  cases this
theorem wpAny_full {L:Nat} (hok:lastOk md ops L=true) {listed:Array Bool} {a:Act} {w:World} (k:Nat) (hsz:listed.size=ops.size) (hnl:listed.getD L true=false) (hU:¬ ∃j,j < ops.size∧(j≠L∧listed.getD j true=false)) (h:postL P ops Q L .normal a w) :
  wpAny P md ops Q (k+1) listed a w:=by
 obtain ⟨hL,hE,hW⟩:=lastOk_parts hok
 have hLs:L < listed.size:=by omega
 have hlisted:∀j,j < ops.size→j≠L→listed.getD j true=true:=by
  intro j hj hne
  cases hq:listed.getD j true with
  | true=>rfl
  | false=>exact absurd ⟨j,hj,hne,hq⟩ hU
 have hmem:L∈Region.ready md ops listed:=by
  refine mem_ready.2 ⟨hL,hnl,ops[L],Array.getElem?_eq_getElem hL,fun e he hb=>?_⟩
  obtain ⟨h1,h2⟩:=hE L _ (Array.getElem?_eq_getElem hL) e he hb
  rw [←gd_tf (by omega)]
  exact hlisted _ (by omega) h2
 have hnil:Region.ready md ops (listed.setIfInBounds L true)=[]:=by
  refine List.eq_nil_iff_forall_not_mem.2 fun i hi=>?_
  obtain ⟨h1,h2,_⟩:=mem_ready.1 hi
  rw [gd_set hLs] at h2
  split at h2
  ·cases h2
  ·rename_i hne
   rw [hlisted i h1 hne] at h2
   cases h2
 refine ⟨fun hr=>?_,fun i hi=>?_⟩
 ·rw [hr] at hmem
  cases hmem
 ·obtain ⟨h1,h2,_⟩:=mem_ready.1 hi
  have hiL:i=L:=by
   rcases Nat.decEq i L with hne|he
   ·rw [hlisted i h1 hne] at h2
    cases h2
   ·exact he
  subst hiL
  refine wpOp_mono (fun a' w' hq=>?_) h
  cases k with
  | zero=>exact ⟨hnil,hq⟩
  | succ k=>exact ⟨fun _=>hq,fun i hi=>by rw [hnil] at hi;cases hi⟩

theorem wpAny_last {L:Nat} (hok:lastOk md ops L=true):∀(fuel:Nat) (listed:Array Bool) (a:Act) (w:World),listed.size=ops.size→listed.getD L true=false→wpAnyH P md ops (postL P ops Q L) S fuel (listed.setIfInBounds L true) a w→wpAny P md ops Q (fuel+1) listed a w:=by
 have hL:=(lastOk_parts hok).1
 intro fuel
 induction fuel with
 | zero =>
  intro listed a w hsz hnl H
  by_cases hU:∃j,j < ops.size∧(j≠L∧listed.getD j true=false)
  ·obtain ⟨h1,h2⟩:=ready_last hok hsz hU
   refine absurd (List.eq_nil_iff_forall_not_mem.2 fun i hi=>?_) h2
   have:=(h1 i hi).2
   rw [H.1] at this
   cases this
  ·exact wpAny_full hok 0 hsz hnl hU H.2
 | succ fuel ih =>
  intro listed a w hsz hnl H
  by_cases hU:∃j,j < ops.size∧(j≠L∧listed.getD j true=false)
  ·obtain ⟨hready,hsome⟩:=ready_last hok hsz hU
   refine ⟨fun h=>absurd h hsome,fun i hi=>?_⟩
   obtain ⟨hne,hi2⟩:=hready i hi
   refine wpOp_mono (fun a' w' hk=>?_) (wpOp_post postL_post (H.2 i hi2))
   refine ih _ a' w' (by simp [hsz]) (by rw [gd_set (by have:=(mem_ready.1 hi).1;omega),if_neg (fun e=>hne e.symm)];exact hnl) ?_
   rw [Array.setIfInBounds_comm _ _ hne]
   exact hk.2
  ·refine wpAny_full hok _ hsz hnl hU (H.1 ?_)
   refine List.eq_nil_iff_forall_not_mem.2 fun i hi=>?_
   obtain ⟨h1,h2,_⟩:=mem_ready.1 hi
   rw [gd_set (by omega)] at h2
   split at h2
   ·cases h2
   ·rename_i hne
    exact hU ⟨i,h1,hne,h2⟩

theorem wp_region_planL {id : Nat} {a : Act} {w : World} (S : World → Prop) (ps : List (Nat × Bool)) (L : Nat) {l : List (Oper × Bool)} (hm : P.follows .mixedOrders = true) (hlast : lastOk .any ops L = true) (hok : planOk .any ops ((Array.replicate ops.size false).setIfInBounds L true) ps = true) (hn : Region.noSelect ops = true) (hlen : decide (ps.length + 1 ≤ ops.size) = true)
  (hl:planOps ops ps=l) (hQ:∀c a k v w,Q (.panic c) (Act.put a (some k) v) w→Q (.panic c) a w) (hS:S w.drew) (h:S w.drew→wpPlan P ops (postL P ops Q L) S l a w.drew):(Code.region id ops true).wp P Q a w:=by
 subst hl
 have hlen':=of_decide_eq_true hlen
 refine wp_region_any hm ?_
 obtain ⟨k,hk⟩:∃k,ops.size=k+1:=⟨ops.size - 1,by omega⟩
 have hLs:=(lastOk_parts hlast).1
 have H:wpAny P .any ops Q (k+1) (Array.replicate ops.size false) a w.drew:=wpAny_last (S:=S) hlast k _ a w.drew (by simp) (by rw [Array.getD_eq_getD_getElem?,Array.getElem?_replicate,if_pos hLs];rfl) (wpAnyH_plan (S:=S) (Q:=postL P ops Q L) hn (panic_put (Q:=postL P ops Q L) fun c a k v w h=>hQ c a k v w h) ps k _ a w.drew hok (by omega) hS (h hS))
 rw [←hk] at H
 exact H
theorem postL_go {L:Nat} {o:Oper} {a:Act} {w:World} (ho:ops[L]?=some o) (hw:Region.wanted o (yielded ops a.tmps)=true) (h:Oper.wp P o a w (fun a' w'=>Q .normal a' w') Q):postL P ops Q L .normal a w:=by
 show wpOp P ops Q L _ a w
 unfold wpOp
 simp only [ho]
 rw [if_pos hw]
 exact .inl h
end
end Go.Proofs.YtnhegahpfacdgaaGreat

namespace Go.Proofs.YtnhegahpfacdgaaGreat
open Go

def bitN (s i:Nat):Bool:=Nat.beq (Nat.land (Nat.shiftRight s i) 1) 1
def withN (s i:Nat):Nat:=Nat.lor s (Nat.shiftLeft 1 i)
def needN (md : Region.Mode) : List Edge → Nat
 | []=>0
 | e::r=>bif Region.binds md e then withN (needN md r) e.on else needN md r
def needsN (md:Region.Mode) (ops:Array Oper):List Nat:=ops.toList.map fun o=>needN md o.after.toList
def readyN (s : Nat) : List Nat → Nat → List Nat
 | [],_=>[]
 | m::r,i=>bif bitN s i then readyN s r (i+1) else bif Nat.beq (Nat.land m s) m then i::readyN s r (i+1) else readyN s r (i+1)
def freeN (md : Region.Mode) (ops : Array Oper) (s i : Nat) : List Oper → Nat → Bool
 | [],_=>true
 | o::r,j=>(bif bitN s j then true else bif Nat.beq j i then true else bif o.after.toList.any (fun e=>Region.binds md e&&Nat.beq e.on i) then true else match ops[i]? with|some oi=>oi.apart ops o|none=>false)&&freeN md ops s i r (j+1)
def isOne : List Nat → Nat → Bool
 | [j],i=>Nat.beq j i
 | _,_=>false
def hasN : List Nat → Nat → Bool
 | [],_=>false
 | j::r,i=>bif Nat.beq j i then true else hasN r i
def planOkN (md : Region.Mode) (ops : Array Oper) (ns : List Nat) : Nat → List (Nat × Bool) → Bool
 | s,[]=>(readyN s ns 0).isEmpty
 | s,(i,p)::r=>(bif p then hasN (readyN s ns 0) i&&freeN md ops s i ops.toList 0 else isOne (readyN s ns 0) i)&&planOkN md ops ns (withN s i) r

theorem bitN_test (s i:Nat):bitN s i=s.testBit i:=by
 have h:∀n,n % 2=1∨n % 2=0:=fun n=>by omega
 unfold bitN
 show Nat.beq ((s >>> i) &&& 1) 1=_
 rw [Nat.testBit,Nat.and_comm 1]
 simp only [Nat.and_one_is_mod]
 rcases h (s >>> i) with e|e <;> rw [e] <;> rfl
theorem withN_test (s i k:Nat):(withN s i).testBit k=(s.testBit k||decide (i=k)):=by
 unfold withN
 show (s ||| (1 <<< i)).testBit k=_
 rw [Nat.testBit_or,Nat.one_shiftLeft,Nat.testBit_two_pow]
theorem needN_test (md : Region.Mode) : ∀ (l : List Edge) (k : Nat), (needN md l).testBit k = l.any fun e => Region.binds md e && decide (e.on = k)
 | [],k=>by simp [needN]
 | e::r,k=>by
  unfold needN
  rw [List.any_cons,←needN_test md r k]
  cases hb:Region.binds md e with
  | true=>simp only [cond_true,withN_test,Bool.true_and,Bool.or_comm]
  | false=>simp
theorem sub_test (m s:Nat):Nat.beq (Nat.land m s) m=true↔∀k,m.testBit k=true→s.testBit k=true:=by
 rw [Nat.beq_eq]
 show m &&& s=m↔_
 constructor
 ·intro h k hk
  rw [←h,Nat.testBit_and,Bool.and_eq_true] at hk
  exact hk.2
 ·intro h
  refine Nat.eq_of_testBit_eq fun k=>?_
  rw [Nat.testBit_and]
  cases hm:m.testBit k with
  | false=>rfl
  | true=>rw [h k hm];rfl

def RelN (ops:Array Oper) (listed:Array Bool) (s:Nat):Prop:=listed.size=ops.size∧∀k,s.testBit k=listed.getD k false
theorem RelN.at_true {ops:Array Oper} {listed:Array Bool} {s:Nat} (h:RelN ops listed s) {k:Nat} (hk:k < ops.size):listed.getD k true=s.testBit k:=by
 rw [h.2,gd_tf (by rw [h.1];exact hk)]
theorem RelN.set {ops:Array Oper} {listed:Array Bool} {s i:Nat} (h:RelN ops listed s) (hi:i < ops.size):RelN ops (listed.setIfInBounds i true) (withN s i):=by
 refine ⟨by simp [h.1],fun k=>?_⟩
 rw [withN_test,gd_set (by rw [h.1];exact hi),h.2]
 by_cases e:k=i
 ·subst e;simp
 ·rw [if_neg e]
  have:¬i=k:=fun q=>e q.symm
  simp [this]

theorem readyN_cons (s m i:Nat) (r:List Nat):readyN s (m::r) i=bif bitN s i then readyN s r (i+1) else bif Nat.beq (Nat.land m s) m then i::readyN s r (i+1) else readyN s r (i+1):=rfl
theorem readyN_mem {s : Nat} : ∀ (l : List Nat) (i x : Nat), x ∈ readyN s l i ↔ ∃ j, ∃ m, l[j]? = some m ∧ x = i + j ∧ s.testBit x = false ∧ ∀ k, m.testBit k = true → s.testBit k = true
 | [],i,x=>by simp [readyN]
 | m::r,i,x=>by
  have ih:=readyN_mem (s:=s) r (i+1) x
  have split:(∃j,∃m',(m::r)[j]?=some m'∧x=i+j∧s.testBit x=false∧∀k,m'.testBit k=true→s.testBit k=true)↔((x=i∧s.testBit x=false∧∀k,m.testBit k=true→s.testBit k=true)∨x∈readyN s r (i+1)):=by
   rw [ih]
   constructor
   ·rintro ⟨j,m',hj,hx,h1,h2⟩
    cases j with
    | zero=>rw [List.getElem?_cons_zero] at hj;cases hj;exact .inl ⟨by omega,h1,h2⟩
    | succ j=>rw [List.getElem?_cons_succ] at hj;exact .inr ⟨j,m',hj,by omega,h1,h2⟩
   ·rintro (⟨h0,h1,h2⟩|⟨j,m',hj,hx,h1,h2⟩)
    ·exact ⟨0,m,rfl,by omega,h1,h2⟩
    ·exact ⟨j+1,m',by rw [List.getElem?_cons_succ];exact hj,by omega,h1,h2⟩
  rw [split,readyN_cons,bitN_test]
  cases hb:s.testBit i with
  | true =>
   simp only [cond_true]
   constructor
   ·exact .inr
   ·rintro (⟨rfl,h1,-⟩|h)
    ·rw [hb] at h1;cases h1
    ·exact h
  | false =>
   simp only [cond_false]
   cases hm:Nat.beq (Nat.land m s) m with
   | true =>
    simp only [cond_true,List.mem_cons]
    have hm':=(sub_test m s).1 hm
    constructor
    ·rintro (rfl|h)
     ·exact .inl ⟨rfl,hb,hm'⟩
     ·exact .inr h
    ·rintro (⟨rfl,-,-⟩|h)
     ·exact .inl rfl
     ·exact .inr h
   | false =>
    simp only [cond_false]
    constructor
    ·exact .inr
    ·rintro (⟨rfl,-,h2⟩|h)
     ·rw [(sub_test m s).2 h2] at hm;cases hm
     ·exact h
theorem readyN_lt {s:Nat} {l:List Nat} {x:Nat} (h:x∈readyN s l 0):x < l.length:=by
 obtain ⟨j,m,hj,hx,-⟩:=(readyN_mem l 0 x).1 h
 have:=(List.getElem?_eq_some_iff.1 hj).1
 omega
theorem readyN_pair {s : Nat} : ∀ (l : List Nat) (i : Nat), (readyN s l i).Pairwise (· < ·)
 | [],i=>List.Pairwise.nil
 | m::r,i=>by
  have ih:=readyN_pair (s:=s) r (i+1)
  have hgt:∀x∈readyN s r (i+1),i < x:=by
   intro x hx
   obtain ⟨j,m',hj,hx,-⟩:=(readyN_mem r (i+1) x).1 hx
   omega
  rw [readyN_cons]
  cases bitN s i with
  | true=>exact ih
  | false =>
   simp only [cond_false]
   cases Nat.beq (Nat.land m s) m with
   | true=>exact List.pairwise_cons.2 ⟨hgt,ih⟩
   | false=>exact ih
theorem ready_iff {md:Region.Mode} {ops:Array Oper} {listed:Array Bool} {s:Nat} (h:RelN ops listed s) (x:Nat):x∈Region.ready md ops listed↔x∈readyN s (needsN md ops) 0:=by
 rw [mem_ready,readyN_mem]
 constructor
 ·rintro ⟨h1,h2,o,ho,h3⟩
  refine ⟨x,needN md o.after.toList,?_,by omega,by rw [←h.at_true h1];exact h2,fun k hk=>?_⟩
  ·unfold needsN
   rw [List.getElem?_map,Array.getElem?_toList,ho]
   rfl
  ·rw [needN_test,List.any_eq_true] at hk
   obtain ⟨e,he,hb⟩:=hk
   rw [Bool.and_eq_true,decide_eq_true_eq] at hb
   rw [h.2,←hb.2]
   exact h3 e (by simpa using he) hb.1
 ·rintro ⟨j,m,hj,hx,h1,h2⟩
  obtain rfl:x=j:=by omega
  unfold needsN at hj
  rw [List.getElem?_map,Array.getElem?_toList] at hj
  cases ho:ops[x]? with
  | none=>rw [ho] at hj;cases hj
  | some o =>
   rw [ho] at hj
   cases hj
   have hlt:=(Array.getElem?_eq_some_iff.1 ho).1
   refine ⟨hlt,by rw [h.at_true hlt];exact h1,o,rfl,fun e he hb=>?_⟩
   rw [←h.2]
   refine h2 _ ?_
   rw [needN_test,List.any_eq_true]
   exact ⟨e,by simpa using he,by rw [Bool.and_eq_true,decide_eq_true_eq];exact ⟨hb,rfl⟩⟩
theorem ready_pair {md:Region.Mode} {ops:Array Oper} {listed:Array Bool}:(Region.ready md ops listed).Pairwise (· < ·):=by
 unfold Region.ready
 exact List.Pairwise.filter _ List.pairwise_lt_range
theorem ready_same {md:Region.Mode} {ops:Array Oper} {listed:Array Bool} {s:Nat} (h:RelN ops listed s):Region.ready md ops listed=readyN s (needsN md ops) 0 :=
 List.Perm.eq_of_pairwise (fun _ _ _ _ h1 h2=>absurd h1 (Nat.lt_asymm h2)) ready_pair (readyN_pair _ _) ((List.perm_ext_iff_of_nodup ((ready_pair).imp Nat.ne_of_lt) ((readyN_pair _ _).imp Nat.ne_of_lt)).2 fun x=>ready_iff h x)
theorem free_of {md:Region.Mode} {ops:Array Oper} {listed:Array Bool} {s i:Nat} (h:RelN ops listed s) (hi:i < ops.size):∀(l:List Oper) (j:Nat),freeN md ops s i l j=true→(∀k o,l[k]?=some o→ops[j+k]?=some o) →
  ∀k o,l[k]?=some o→(j+k==i||listed.getD (j+k) true||(o.after.any (fun e=>Region.binds md e&&e.on==i)||(ops[i]'hi).apart ops o))=true
 | [],j,_,_,k,o,ho=>by simp at ho
 | x::r,j,hf,hl,k,o,ho=>by
  unfold freeN at hf
  rw [Bool.and_eq_true] at hf
  cases k with
  | zero =>
   rw [List.getElem?_cons_zero] at ho
   cases ho
   have hj:=(Array.getElem?_eq_some_iff.1 (hl 0 x rfl)).1
   have h1:=hf.1
   rw [bitN_test] at h1
   rw [h.at_true hj]
   cases hb:s.testBit (j+0) with
   | true=>simp
   | false =>
    rw [Nat.add_zero] at hb ⊢
    rw [hb] at h1
    simp only [cond_false] at h1
    by_cases he:j=i
    ·simp [he]
    ·have:Nat.beq j i=false:=by
      cases hq:Nat.beq j i with
      | false=>rfl
      | true=>exact absurd (Nat.eq_of_beq_eq_true hq) he
     rw [this] at h1
     simp only [cond_false,Array.getElem?_eq_getElem hi] at h1
     have eb:∀e:Edge,Nat.beq e.on i=(e.on==i):=fun e=>by rw [Bool.eq_iff_iff,Nat.beq_eq,beq_iff_eq]
     simp only [eb,Array.any_toList] at h1
     cases ha:x.after.any (fun e=>Region.binds md e&&e.on==i) with
     | true=>simp
     | false =>
      rw [ha] at h1
      simp only [cond_false] at h1
      rw [h1]
      simp
  | succ k =>
   rw [List.getElem?_cons_succ] at ho
   have:=free_of h hi r (j+1) hf.2 (fun k o hk=>by have:=hl (k+1) o (by rw [List.getElem?_cons_succ];exact hk);rw [show j+1+k=j+(k+1) from by omega];exact this) k o ho
   rw [show j+(k+1)=j+1+k from by omega]
   exact this
theorem free_same {md:Region.Mode} {ops:Array Oper} {listed:Array Bool} {s i:Nat} (h:RelN ops listed s) (hi:i < ops.size) (hf:freeN md ops s i ops.toList 0=true):Region.free md ops listed i=true:=by
 unfold Region.free
 rw [Array.getElem?_eq_getElem hi]
 simp only [List.all_eq_true,List.mem_range]
 intro j hj
 have:=free_of h hi ops.toList 0 hf (fun k o hk=>by rw [Nat.zero_add,←Array.getElem?_toList];exact hk) j (ops[j]'hj) (by rw [Array.getElem?_toList,Array.getElem?_eq_getElem hj])
 rw [Nat.zero_add] at this
 rw [Array.getElem?_eq_getElem hj]
 exact this
theorem hasN_mem : ∀ (l : List Nat) (i : Nat), hasN l i = true → i ∈ l
 | [],i,h=>by cases h
 | j::r,i,h=>by
  unfold hasN at h
  cases hq:Nat.beq j i with
  | true=>rw [Nat.eq_of_beq_eq_true hq];exact List.mem_cons_self
  | false=>rw [hq] at h;exact List.mem_cons_of_mem _ (hasN_mem r i h)
theorem isOne_eq : ∀ (l : List Nat) (i : Nat), isOne l i = true → l = [i]
 | [],i,h=>by cases h
 | [j],i,h=>by rw [Nat.eq_of_beq_eq_true h]
 | _::_::_,i,h=>by cases h
theorem planOk_ofN {md : Region.Mode} {ops : Array Oper} : ∀ (ps : List (Nat × Bool)) (listed : Array Bool) (s : Nat), RelN ops listed s → planOkN md ops (needsN md ops) s ps = true → planOk md ops listed ps = true
 | [],listed,s,h,hp=>by
  unfold planOkN at hp
  unfold planOk
  rw [ready_same h]
  exact hp
 | (i,p)::r,listed,s,h,hp=>by
  unfold planOkN at hp
  rw [Bool.and_eq_true] at hp
  obtain ⟨h1,h2⟩:=hp
  unfold planOk
  have hlen:(needsN md ops).length=ops.size:=by simp [needsN]
  have go:i < ops.size→planOk md ops (listed.setIfInBounds i true) r=true:=fun hi=>planOk_ofN r _ _ (h.set hi) h2
  cases p with
  | true =>
   simp only [cond_true,Bool.and_eq_true] at h1
   have hmem:=hasN_mem _ _ h1.1
   have hi:i < ops.size:=by rw [←hlen];exact readyN_lt hmem
   simp only [if_true,Bool.and_eq_true]
   exact ⟨⟨free_same h hi h1.2,by rw [ready_same h];simpa using hmem⟩,go hi⟩
  | false =>
   simp only [cond_false] at h1
   have e:=isOne_eq _ _ h1
   have hi:i < ops.size:=by rw [←hlen];exact readyN_lt (s:=s) (by rw [e];simp)
   simp only [Bool.false_eq_true,if_false,Bool.and_eq_true,beq_iff_eq]
   exact ⟨by rw [ready_same h];exact e,go hi⟩
theorem relN_zero (ops:Array Oper):RelN ops (Array.replicate ops.size false) 0:=by
 refine ⟨by simp,fun k=>?_⟩
 rw [Nat.zero_testBit,Array.getD_eq_getD_getElem?,Array.getElem?_replicate]
 split <;> rfl
theorem planOk_fast {ops:Array Oper} {ps:List (Nat×Bool)} (h:planOkN .any ops (needsN .any ops) 0 ps=true):planOk .any ops (Array.replicate ops.size false) ps=true :=
 planOk_ofN ps _ _ (relN_zero ops) h
theorem planOk_fastL {ops:Array Oper} {ps:List (Nat×Bool)} {L:Nat} (hL:L < ops.size) (h:planOkN .any ops (needsN .any ops) (withN 0 L) ps=true):planOk .any ops ((Array.replicate ops.size false).setIfInBounds L true) ps=true :=
 planOk_ofN ps _ _ ((relN_zero ops).set hL) h

section
variable {P : Program} {ops : Array Oper} {Q : Exit → Act → World → Prop}
theorem wp_region_planN {id : Nat} {a : Act} {w : World} (S : World → Prop) (ps : List (Nat × Bool)) {l : List (Oper × Bool)} (hm : P.follows .mixedOrders = true) (hok : planOkN .any ops (needsN .any ops) 0 ps = true) (hn : Region.noSelect ops = true) (hlen : decide (ps.length ≤ ops.size) = true)
  (hl:planOps ops ps=l) (hQ:∀c a k v w,Q (.panic c) (Act.put a (some k) v) w→Q (.panic c) a w) (hS:S w.drew) (h:S w.drew→wpPlan P ops Q S l a w.drew):(Code.region id ops true).wp P Q a w :=
 wp_region_plan S ps hm (planOk_fast hok) hn hlen hl hQ hS h
end
end Go.Proofs.YtnhegahpfacdgaaGreat

namespace Go.Proofs.YtnhegahpfacdgaaGreat
open Go.RowKit Plain

section
variable {P : Program} {T : TypeId}
theorem execOp_load {ρ:Operand→Value} {o:Oper} {x:Operand} {k:Nat} {w:World} (ho:o.op=.load T x) (hag:∀w,(isAgg T).run P w=.ok true w) (hsz:∀w,(sizeOf T).run P w=.ok k w) {g off:Nat} {cs:List Value} (hx:ρ x=.pointer (some ⟨g,off,none⟩)) (h:∀j v,cs[j]?=some v→w.cell? ⟨g,off+j,none⟩=some v) (hk:cs.length=k) :
  (execOp ρ o).run P w=.ok (.value (.agg cs.toArray)) w:=by
 have hr:=run_loadAt_cells (P:=P) hag hsz h hk
 unfold execOp
 simp only [ho,Sem.run_bind,Sem.run_pure,Result.andThen_ok,hx,hr]
theorem RowL.at0 {w:World} {g t:Nat} {cs:List Value} (h:RowL w g t cs):∀j v,cs[j]?=some v→w.cell? ⟨g,0+j,none⟩=some v:=fun j v hv=>by rw [Nat.zero_add,h.cell];exact hv
end
end Go.Proofs.YtnhegahpfacdgaaGreat

