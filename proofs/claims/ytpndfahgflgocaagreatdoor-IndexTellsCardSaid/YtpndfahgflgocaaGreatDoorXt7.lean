import Derived.Test.YtpndfahgflgocaaGreatDoorXt6
import Derived.RangeFuncCalls
import Derived.OwnWalkIn

namespace Go.Proofs.YtpndfahgflgocaaGreatDoor
open Go

def noDefer (ops:Array Oper):Bool:=ops.toList.all fun o=>match o.op with|.defer _=>false|_=>true
section
variable {P : Program} {ops : Array Oper} {Q : Exit → Act → World → Prop} {S : World → Prop} {l n : Nat}
theorem noDefer_get (h:noDefer ops=true) {i:Nat} {o:Oper} (ho:ops[i]?=some o) (c:Call):o.op≠.defer c:=by
 unfold noDefer at h
 rw [List.all_eq_true] at h
 have hm:o∈ops.toList:=by
  rw [←Array.getElem?_toList] at ho
  exact List.mem_of_getElem? ho
 have:=h o hm
 intro e
 rw [e] at this
 cases this
theorem Oper.wp_round {o:Oper} {a:Act} {w:World} {K:Act→World→Prop} (hd:∀c,o.op≠.defer c) (h:o.wp P a w K Q):o.wpIn (Fence.wide.inRound l) n P a w K Q:=by
 unfold Oper.wpIn
 refine ⟨fun _ _=>trivial,?_⟩
 rw [Oper.semAt_plain _ _ _ hd]
 unfold Oper.wp at h
 revert h
 generalize (execOp a.eval o).run P w=r
 intro h
 cases r with
 | ok x w' =>
  cases x with
  | value v=>exact h
  | skip=>exact h
  | defer d=>exact h
  | enter f args=>exact ⟨(fun hh=>by cases hh),CallsIn.inRound l (callsIn_wide.2 h)⟩
  | row r args =>
   refine ⟨(fun hh=>by cases hh),fun c cs _=>?_⟩
   obtain ⟨v,w'',h1,h2⟩:=h c cs
   exact ⟨v,w'',h1,stepsIn_wide.2 h2⟩
  | _=>exact h.elim
 | halt e w' =>
  cases e with
  | panic v=>exact h
  | _=>exact h.elim
theorem wpAny_round {md:Region.Mode} (hd:noDefer ops=true) (hlo:¬LetsOut Q):∀(fuel:Nat) (listed:Array Bool) (a:Act) (w:World),wpAny P md ops Q fuel listed a w→wpAnyIn (Fence.wide.inRound l) n P md ops Q fuel listed a w:=by
 intro fuel
 induction fuel with
 | zero=>exact fun listed a w h=>h
 | succ fuel ih =>
  intro listed a w h
  refine ⟨h.1,fun i hi=>?_⟩
  have h2:=h.2 i hi
  unfold wpOp at h2
  unfold wpOpIn
  cases ho:ops[i]? with
  | none=>simp only [ho] at h2 ⊢;exact ih _ _ _ h2
  | some o =>
   simp only [ho] at h2 ⊢
   split
   ·rename_i hw
    rw [if_pos hw] at h2
    rcases h2 with h2|⟨_,h3⟩
    ·exact Oper.wp_round (noDefer_get hd ho) (Oper.wp_mono (fun _ _ h=>ih _ _ _ h) h2)
    ·exact absurd h3 hlo
   ·rename_i hw
    rw [if_neg hw] at h2
    exact ⟨fun _ _=>trivial,ih _ _ _ h2⟩
end
end Go.Proofs.YtpndfahgflgocaaGreatDoor

namespace Go.Proofs.YtpndfahgflgocaaGreatDoor
open Go

def lastOkP (md:Region.Mode) (ops:Array Oper) (L:Nat):Bool :=
 decide (L < ops.size)&&(List.range ops.size).all fun j=>((ops[j]?).map (·.after.all fun e=>!Region.binds md e||(decide (e.on < j)&&e.on != L))).getD false&&(j==L||((ops[L]?).map (·.after.any fun e=>Region.binds md e&&(e.on==j||((ops[e.on]?).map (·.after.any fun e'=>Region.binds md e'&&e'.on==j)).getD false))).getD false)
def ClosedP (md:Region.Mode) (ops:Array Oper) (listed:Array Bool):Prop:=∀k o,ops[k]?=some o→listed.getD k false=true→∀e∈o.after,Region.binds md e=true→listed.getD e.on false=true
section
variable {P : Program} {ops : Array Oper} {Q : Exit → Act → World → Prop} {S : World → Prop} {md : Region.Mode}
theorem gd_mono {listed:Array Bool} {k:Nat} (i:Nat) (h:listed.getD k false=true):(listed.setIfInBounds i true).getD k false=true:=by
 rw [Array.getD_eq_getD_getElem?] at h ⊢
 rw [Array.getElem?_setIfInBounds]
 split
 ·rename_i e
  subst e
  split
  ·rfl
  ·rename_i hn
   rw [Array.getElem?_eq_none (by omega)] at h
   exact h
 ·exact h
theorem ClosedP.zero (md:Region.Mode) (ops:Array Oper):ClosedP md ops (Array.replicate ops.size false):=fun k o _ h=>by
 rw [Array.getD_eq_getD_getElem?,Array.getElem?_replicate] at h
 split at h <;> cases h
theorem ClosedP.set {listed:Array Bool} {i:Nat} (h:ClosedP md ops listed) (hi:i∈Region.ready md ops listed):ClosedP md ops (listed.setIfInBounds i true):=fun k o ho hk e he hb=>by
 by_cases e':k=i
 ·subst e'
  obtain ⟨_,_,o',ho',h3⟩:=mem_ready.1 hi
  rw [ho] at ho'
  cases ho'
  exact gd_mono _ (h3 e he hb)
 ·refine gd_mono _ (h k o ho ?_ e he hb)
  rw [Array.getD_eq_getD_getElem?,Array.getElem?_setIfInBounds_ne (fun h=>e' h.symm)] at hk
  rw [Array.getD_eq_getD_getElem?]
  exact hk
theorem lastOkP_parts {L:Nat} (hok:lastOkP md ops L=true):L < ops.size∧(∀j o,ops[j]?=some o→∀e∈o.after,Region.binds md e=true→e.on < j∧e.on≠L)∧∀j,j < ops.size→j≠L→∀o,ops[L]?=some o→(∃e∈o.after,Region.binds md e=true∧e.on=j)∨(∃e∈o.after,Region.binds md e=true∧∃o',ops[e.on]?=some o'∧∃e'∈o'.after,Region.binds md e'=true∧e'.on=j):=by
 unfold lastOkP at hok
 rw [Bool.and_eq_true,decide_eq_true_eq,List.all_eq_true] at hok
 obtain ⟨hL,hall⟩:=hok
 refine ⟨hL,fun j o ho e he hb=>?_,fun j hj hne o ho=>?_⟩
 ·have hj:=(Array.getElem?_eq_some_iff.1 ho).1
  have h1:=hall j (List.mem_range.2 hj)
  rw [Bool.and_eq_true,ho] at h1
  have h2:=h1.1
  simp only [Option.map_some,Option.getD_some] at h2
  have h3:=Array.all_eq_true_iff_forall_mem.1 h2 e he
  simpa [hb] using h3
 ·have h1:=hall j (List.mem_range.2 hj)
  rw [Bool.and_eq_true,ho] at h1
  have h2:=h1.2
  rw [Bool.or_eq_true] at h2
  rcases h2 with h2|h2
  ·exact absurd (by simpa using h2) hne
  ·simp only [Option.map_some,Option.getD_some] at h2
   obtain ⟨i,hi,h3⟩:=Array.any_eq_true.1 h2
   rw [Bool.and_eq_true,Bool.or_eq_true,beq_iff_eq] at h3
   obtain ⟨h3,h4|h4⟩:=h3
   ·exact .inl ⟨_,Array.getElem_mem hi,h3,h4⟩
   ·refine .inr ⟨_,Array.getElem_mem hi,h3,?_⟩
    cases ho':ops[o.after[i].on]? with
    | none=>rw [ho'] at h4;cases h4
    | some o' =>
     rw [ho'] at h4
     simp only [Option.map_some,Option.getD_some] at h4
     obtain ⟨i',hi',h5⟩:=Array.any_eq_true.1 h4
     rw [Bool.and_eq_true,beq_iff_eq] at h5
     exact ⟨o',rfl,_,Array.getElem_mem hi',h5.1,h5.2⟩

theorem ready_lastP {L:Nat} (hok:lastOkP md ops L=true) {listed:Array Bool} (hsz:listed.size=ops.size) (hcl:ClosedP md ops listed) (hU:∃j,j < ops.size∧(j≠L∧listed.getD j true=false)) :
  (∀i,i∈Region.ready md ops listed→i≠L∧i∈Region.ready md ops (listed.setIfInBounds L true))∧Region.ready md ops listed≠[]:=by
 obtain ⟨hL,hE,hW⟩:=lastOkP_parts hok
 have hLs:L < listed.size:=by omega
 refine ⟨fun i hi=>?_,fun hnil=>?_⟩
 ·rw [mem_ready] at hi
  obtain ⟨h1,h2,o,ho,h3⟩:=hi
  have hne:i≠L:=by
   intro e
   subst e
   obtain ⟨j,hj,hjne,hjl⟩:=hU
   rw [gd_tf (by omega)] at hjl
   rcases hW j hj hjne o ho with ⟨e,he,hb,rfl⟩|⟨e,he,hb,o',ho',e',he',hb',rfl⟩
   ·have:=h3 e he hb
    rw [hjl] at this
    cases this
   ·have:=hcl e.on o' ho' (h3 e he hb) e' he' hb'
    rw [hjl] at this
    cases this
  refine ⟨hne,mem_ready.2 ⟨h1,by rw [gd_set hLs,if_neg hne];exact h2,o,ho,fun e he hb=>?_⟩⟩
  rw [gd_set hLs]
  split
  ·rfl
  ·exact h3 e he hb
 ·obtain ⟨j,hj,⟨hjne,hjl⟩,hmin⟩:=least hU
  have:j∈Region.ready md ops listed:=by
   refine mem_ready.2 ⟨hj,hjl,ops[j],Array.getElem?_eq_getElem hj,fun e he hb=>?_⟩
   obtain ⟨h1,h2⟩:=hE j _ (Array.getElem?_eq_getElem hj) e he hb
   have h3:=hmin e.on h1
   have h4:listed.getD e.on true=true:=by
    cases hq:listed.getD e.on true with
    | true=>rfl
    | false=>exact absurd ⟨h2,hq⟩ h3
   rw [←gd_tf (by omega)]
   exact h4
  rw [hnil] at this
  cases this
theorem wpAny_fullP {L:Nat} (hok:lastOkP md ops L=true) {listed:Array Bool} {a:Act} {w:World} (k:Nat) (hsz:listed.size=ops.size) (hnl:listed.getD L true=false) (hU:¬ ∃j,j < ops.size∧(j≠L∧listed.getD j true=false)) (h:postL P ops Q L .normal a w) :
  wpAny P md ops Q (k+1) listed a w:=by
 obtain ⟨hL,hE,hW⟩:=lastOkP_parts hok
 have hLs:L < listed.size:=by omega
 have hlisted:∀j,j < ops.size→j≠L→listed.getD j true=true:=by
  intro j hj hne
  cases hq:listed.getD j true with
  | true=>rfl
  | false=>exact absurd ⟨j,hj,hne,hq⟩ hU
 have hmem:L∈Region.ready md ops listed:=by
  refine mem_ready.2 ⟨hL,hnl,ops[L],Array.getElem?_eq_getElem hL,fun e he hb=>?_⟩
  obtain ⟨h1,h2⟩:=hE L _ (Array.getElem?_eq_getElem hL) e he hb
  rw [←gd_tf (by omega)]
  exact hlisted _ (by omega) h2
 have hnil:Region.ready md ops (listed.setIfInBounds L true)=[]:=by
  refine List.eq_nil_iff_forall_not_mem.2 fun i hi=>?_
  obtain ⟨h1,h2,_⟩:=mem_ready.1 hi
  rw [gd_set hLs] at h2
  split at h2
  ·cases h2
  ·rename_i hne
   rw [hlisted i h1 hne] at h2
   cases h2
 refine ⟨fun hr=>?_,fun i hi=>?_⟩
 ·rw [hr] at hmem
  cases hmem
 ·obtain ⟨h1,h2,_⟩:=mem_ready.1 hi
  have hiL:i=L:=by
   rcases Nat.decEq i L with hne|he
   ·rw [hlisted i h1 hne] at h2
    cases h2
   ·exact he
  subst hiL
  refine wpOp_mono (fun a' w' hq=>?_) h
  cases k with
  | zero=>exact ⟨hnil,hq⟩
  | succ k=>exact ⟨fun _=>hq,fun i hi=>by rw [hnil] at hi;cases hi⟩

theorem wpAny_lastP {L:Nat} (hok:lastOkP md ops L=true):∀(fuel:Nat) (listed:Array Bool) (a:Act) (w:World),listed.size=ops.size→ClosedP md ops listed→listed.getD L true=false→wpAnyH P md ops (postL P ops Q L) S fuel (listed.setIfInBounds L true) a w→wpAny P md ops Q (fuel+1) listed a w:=by
 have hL:=(lastOkP_parts hok).1
 intro fuel
 induction fuel with
 | zero =>
  intro listed a w hsz hcl hnl H
  by_cases hU:∃j,j < ops.size∧(j≠L∧listed.getD j true=false)
  ·obtain ⟨h1,h2⟩:=ready_lastP hok hsz hcl hU
   refine absurd (List.eq_nil_iff_forall_not_mem.2 fun i hi=>?_) h2
   have:=(h1 i hi).2
   rw [H.1] at this
   cases this
  ·exact wpAny_fullP hok 0 hsz hnl hU H.2
 | succ fuel ih =>
  intro listed a w hsz hcl hnl H
  by_cases hU:∃j,j < ops.size∧(j≠L∧listed.getD j true=false)
  ·obtain ⟨hready,hsome⟩:=ready_lastP hok hsz hcl hU
   refine ⟨fun h=>absurd h hsome,fun i hi=>?_⟩
   obtain ⟨hne,hi2⟩:=hready i hi
   refine wpOp_mono (fun a' w' hk=>?_) (wpOp_post postL_post (H.2 i hi2))
   refine ih _ a' w' (by simp [hsz]) (hcl.set hi) (by rw [gd_set (by have:=(mem_ready.1 hi).1;omega),if_neg (fun e=>hne e.symm)];exact hnl) ?_
   rw [Array.setIfInBounds_comm _ _ hne]
   exact hk.2
  ·refine wpAny_fullP hok _ hsz hnl hU (H.1 ?_)
   refine List.eq_nil_iff_forall_not_mem.2 fun i hi=>?_
   obtain ⟨h1,h2,_⟩:=mem_ready.1 hi
   rw [gd_set (by omega)] at h2
   split at h2
   ·cases h2
   ·rename_i hne
    exact hU ⟨i,h1,hne,h2⟩

theorem wp_region_planP {id : Nat} {a : Act} {w : World} (S : World → Prop) (ps : List (Nat × Bool)) (L : Nat) {l : List (Oper × Bool)} (hm : P.follows .mixedOrders = true) (hlast : lastOkP .any ops L = true) (hok : planOkN .any ops (needsN .any ops) (withN 0 L) ps = true) (hn : Region.noSelect ops = true) (hlen : decide (ps.length + 1 ≤ ops.size) = true)
  (hl:planOps ops ps=l) (hQ:∀c a k v w,Q (.panic c) (Act.put a (some k) v) w→Q (.panic c) a w) (hS:S w.drew) (h:S w.drew→wpPlan P ops (postL P ops Q L) S l a w.drew):(Code.region id ops true).wp P Q a w:=by
 subst hl
 have hlen':=of_decide_eq_true hlen
 have hok:=planOk_fastL (lastOkP_parts hlast).1 hok
 refine wp_region_any hm ?_
 obtain ⟨k,hk⟩:∃k,ops.size=k+1:=⟨ops.size - 1,by omega⟩
 have hLs:=(lastOkP_parts hlast).1
 have H:wpAny P .any ops Q (k+1) (Array.replicate ops.size false) a w.drew:=wpAny_lastP (S:=S) hlast k _ a w.drew (by simp) (ClosedP.zero _ _) (by rw [Array.getD_eq_getD_getElem?,Array.getElem?_replicate,if_pos hLs];rfl) (wpAnyH_plan (S:=S) (Q:=postL P ops Q L) hn (panic_put (Q:=postL P ops Q L) fun c a k v w h=>hQ c a k v w h) ps k _ a w.drew hok (by omega) hS (h hS))
 rw [←hk] at H
 exact H
theorem wpIn_region_planP {id l n : Nat} {a : Act} {w : World} (S : World → Prop) (ps : List (Nat × Bool)) (L : Nat) {r : List (Oper × Bool)} (hm : P.follows .mixedOrders = true) (hlast : lastOkP .any ops L = true) (hok : planOkN .any ops (needsN .any ops) (withN 0 L) ps = true) (hn : Region.noSelect ops = true) (hd : noDefer ops = true) (hlen : decide (ps.length + 1 ≤ ops.size) = true)
  (hl:planOps ops ps=r) (hlo:¬LetsOut Q) (hQ:∀c a k v w,Q (.panic c) (Act.put a (some k) v) w→Q (.panic c) a w) (hS:S w.drew) (h:S w.drew→wpPlan P ops (postL P ops Q L) S r a w.drew):(Code.region id ops true).wpIn (Fence.wide.inRound l) n P Q a w:=by
 subst hl
 have hlen':=of_decide_eq_true hlen
 have hok:=planOk_fastL (lastOkP_parts hlast).1 hok
 refine wpIn_region_any hm (wpAny_round hd hlo _ _ _ _ ?_)
 obtain ⟨k,hk⟩:∃k,ops.size=k+1:=⟨ops.size - 1,by omega⟩
 have hLs:=(lastOkP_parts hlast).1
 have H:wpAny P .any ops Q (k+1) (Array.replicate ops.size false) a w.drew:=wpAny_lastP (S:=S) hlast k _ a w.drew (by simp) (ClosedP.zero _ _) (by rw [Array.getD_eq_getD_getElem?,Array.getElem?_replicate,if_pos hLs];rfl) (wpAnyH_plan (S:=S) (Q:=postL P ops Q L) hn (panic_put (Q:=postL P ops Q L) fun c a k v w h=>hQ c a k v w h) ps k _ a w.drew hok (by omega) hS (h hS))
 rw [←hk] at H
 exact H
end
end Go.Proofs.YtpndfahgflgocaaGreatDoor

namespace Go.Proofs.YtpndfahgflgocaaGreatDoor
open Go.RowKit Go.Shelf Plain

def WkRet (B g b:Nat) (ns:List NodV) (s:StW) (w:World) (e:Ending) (w':World):Prop:=e=.returned (.tuple #[])∧WkS B g b ns s w'∧TurnW B g b w w'
set_option maxRecDepth 100000 in
set_option maxHeartbeats 1600000 in
theorem add_any {B g b:Nat} {ns:List NodV} {s:StW} {y:WayV} (w:World) (h:WkS B g b ns s w) (hy:i64 y.ino) (hm:s.1.length≤1000):Calls Tryz.prog 110 #[.pointer (some ⟨g,0,none⟩),.agg (wayC y).toArray] w (WkRet B g b ns (s.1++[y],s.2) w):=by
 have hb1:=below_new (below_self w) (.cells (wayC y).toArray 92)
 have hz1:=RowL.new w 92 (wayC y)
 obtain ⟨hBg,hgl,hBb,hbl⟩:=h.lt
 obtain ⟨A,n,c,A1,n1,c1,A2,n2,c2,-,-,h3,h4,h5,h6,h7⟩:=h
 have hn1:n1≤1000:=by have h8:=h5.1;rw [flatW_len] at h8;omega
 have HOB:=hide (own_block h5)
 have HB0:=hide (show B≤w.heap.size by omega)
 obtain ⟨w1,hw1⟩:∃w1,w.alloc (.cells (wayC y).toArray 92)=w1:=⟨_,rfl⟩
 rw [hw1] at hb1 hz1
 have HB1:=hide (show B≤w1.heap.size by have:=hb1.size;omega)
 have HO1:=hide (ownsRow_below h5 hb1)
 have HZ1:=hide hz1
 have HB:=hide hb1
 have HR:=hide (h3.on hb1)
 have HN0:=hide h4
 have HS:=hide (h6.on hb1)
 have HT:=hide (ownsRow_below h7 hb1)
 clear hb1 hz1 h3 h4 h5 h6 h7
 have hne:w.heap.size≠g:=by omega
 go_enter Tryz.func110,Tryz.ntmps110
 go_wp2
 clear hw1
 refine wp_region_planP (fun w'=>RowL w' g 144 [.slice A n c,.slice A1 n1 c1,.map (some b),.slice A2 n2 c2]∧RowL w' w.heap.size 92 (wayC y)) [(0,true),(1,true),(2,true),(3,true),(4,true),(5,true),(6,false),(7,false),(8,true),(9,true)] 10 (by kernel_rfl) (by kernel_rfl) (by kernel_rfl) (by kernel_rfl) (by kernel_rfl) rfl (fun _ _ _ _ _ h=>h) ⟨HR.out.drew,HZ1.out.drew⟩ (fun hHeld=>?_)
 simp only [planOps,List.filterMap_cons,List.filterMap_nil,List.getElem?_toArray,List.getElem?_cons_succ,List.getElem?_cons_zero,Option.map_some]
 iterate 4
  refine wpPlan_take (v:=?_) (by kernel_rfl) (fun wS hSw=>?_) ?_
  rotate_left
  ·(try dsimp only at hSw);go_simp;(try with_reducible rfl)
  (try simp only [Act.put,pu1,pu2,pu3])
 refine wpPlan_take (v:=?_) (by kernel_rfl) (fun wS hSw=>?_) ?_
 rotate_left
 ·obtain ⟨hrg,-⟩:=hSw;have hcg:wS.cell? ⟨g,1,none⟩=some (.slice A1 n1 c1):=hrg.cell 1;clear hrg;go_simp;(try with_reducible rfl)
 (try simp only [Act.put,pu1,pu2,pu3])
 refine wpPlan_take (v:=?_) (by kernel_rfl) (fun wS hSw=>?_) ?_
 rotate_left
 ·obtain ⟨-,hry⟩:=hSw;refine execOp_load (x:=.tmp 3) (k:=3) (g:=w.heap.size) (off:=0) (cs:=wayC y) ?_ way_agg way_size ?_ hry.at0 rfl <;> rfl
 (try simp only [Act.put,pu1,pu2,pu3])
 refine wpPlan_call (by kernel_rfl) (fun K hK=>?_)
 have hOld:=hide hHeld
 clear hHeld
 unfold Oper.wp execOp
 have hlit:=lit_way y w1.drew
 unfold wayC at hlit
 go_simp
 refine hK.out _ _ (⟨hOld.out.1.on (below_new (below_self _) _),hOld.out.2.on (below_new (below_self _) _)⟩) (fun hHeld=>?_)
 clear hK K
 (try simp only [Act.put,pu1,pu2,pu3])
 refine wpPlan_call (by kernel_rfl) (fun K hK=>?_)
 have hOld:=hide hHeld
 clear hHeld
 refine wp_appF w1.drew B w1.heap.size rfl (.tmp 8) (.tmp 10) 89 92 rfl Tryz.underlying89 _ 3 32 way_info rfl (by omega) (by omega) A1 n1 c1 (flatW s.1) (wayC y) rfl (by simp [wayC,Value.oneCell']) rfl HO1.out.drew rfl (by omega) (by have:=HB1.out;show B≤w1.heap.size;omega) ?_
 intro A5 c5 w5 ho5 hg5
 have HO5:=hide ho5
 have HG5:=hide hg5
 clear ho5 hg5
 refine hK.out _ _ (⟨hOld.out.1.grown HG5.out (row_apart HO1.out HR.out (by decide)),hOld.out.2.grown HG5.out (fun e=>by have:=(HOB.out _ e.symm).2.1;omega)⟩) (fun hHeld=>?_)
 clear hK K
 (try simp only [Act.put,pu1,pu2,pu3])
 iterate 2
  refine wpPlan_take (v:=?_) (by kernel_rfl) (fun wS hSw=>?_) ?_
  rotate_left
  ·(try dsimp only at hSw);go_simp;(try with_reducible rfl)
  (try simp only [Act.put,pu1,pu2,pu3])
 refine wpPlan_end ?_
 refine postL_go rfl (by kernel_rfl) ?_
 have hrg5:=hHeld.1
 have hry5:=hHeld.2
 have hcg:w5.cell? ⟨g,1,none⟩=some (.slice A1 n1 c1):=hrg5.cell 1
 have hfg:w5.frozen? ⟨g,1,none⟩=false:=hrg5.frozen 1
 have HRG5:=hide hrg5
 have HRY5:=hide hry5
 clear hHeld hrg5 hry5
 unfold Oper.wp execOp
 go_simp
 have hrg6:RowL (w5.setCell ⟨g,1,none⟩ (.slice A5 (n1+1) c5)) g 144 [.slice A n c,.slice A5 (n1+1) c5,.map (some b),.slice A2 n2 c2]:=HRG5.out.set_ 1 _
 have hg6:=grown_cell w5 g 1 (.slice A5 (n1+1) c5)
 have hry6:RowL (w5.setCell ⟨g,1,none⟩ (.slice A5 (n1+1) c5)) w.heap.size 92 (wayC y):=HRY5.out.grown hg6 (fun e=>hne (Option.some.inj e))
 have ha:=below_new (below_self w1.drew) (.cells (wayC y).toArray 92)
 have ho1:(w1.drew.alloc (.cells (wayC y).toArray 92)).ownsRow B 92 3 (.slice A1 n1 c1) n1 (flatW s.1):=ownsRow_below HO1.out.drew ha
 have hT5:TurnW B g b w w5:=((TurnW.of_below HB.out).trans (TurnW.of_below (A:=w1) (C:=w1.drew.alloc (.cells (wayC y).toArray 92)) ((below_drew (below_self w1)).trans ha))).trans (TurnW.own ho1 (.inl rfl) HG5.out (Nat.le_refl _))
 have hT6:TurnW B g b w (w5.setCell ⟨g,1,none⟩ (.slice A5 (n1+1) c5)):=hT5.trans (TurnW.grown hg6 (fun k e=>by have:=Option.some.inj e;subst this;exact ⟨hBg,.inl rfl⟩))
 have ho6:(w5.setCell ⟨g,1,none⟩ (.slice A5 (n1+1) c5)).ownsRow B 92 3 (.slice A5 (n1+1) c5) (n1+1) (flatW s.1++wayC y):=HO5.out.kept hg6 (.inr (fun e=>row_apart HO5.out HRG5.out (by decide) e.symm))
 have ht5:w5.ownsRow B 178 2 (.slice A2 n2 c2) n2 (flatT s.2):=(ownsRow_below HT.out.drew ha).kept HG5.out (owns_apart ho1 (ownsRow_below HT.out.drew ha) (by decide))
 have ht6:=ht5.kept hg6 (.inr (fun e=>row_apart ht5 HRG5.out (by decide) e.symm))
 have hs5:SetW w5 b n1 (cameW s.1):=(((HS.out.on (below_drew (below_self w1))).on ha).kept HG5.out (fun e=>by
  obtain ⟨o,ho,-,hoc⟩:=((HS.out.on (below_drew (below_self w1))).on ha).obj
  obtain ⟨-,-,o',ho',hoc'⟩:=own_block ho1 b e.symm
  rw [ho] at ho'
  cases Option.some.inj ho'
  rw [hoc] at hoc'
  cases hoc'))
 have hs6:=hs5.kept hg6 (fun e=>by
  obtain ⟨o,ho,-,hoc⟩:=hs5.obj
  have:=Option.some.inj e
  subst this
  rw [show w5.heap[b]?=_ from HRG5.out] at ho
  cases Option.some.inj ho
  cases hoc)
 have HRG6:=hide hrg6
 have HRY6:=hide hry6
 have HT6:=hide hT6
 have HO6:=hide ho6
 have HN6:=hide ht6
 have HS6:=hide hs6
 clear hrg6 hry6 hT5 hT6 ho6 ht5 ht6 hs5 hs6 ho1 ha hg6 hcg hfg HRG5 HRY5 HO5 HG5 HO1 HR HS HT HB
 generalize w5.setCell ⟨g,1,none⟩ (.slice A5 (n1+1) c5)=w6 at *
 go_wp2
 refine wp_region_planP (fun w'=>RowL w' g 144 [.slice A n c,.slice A5 (n1+1) c5,.map (some b),.slice A2 n2 c2]∧RowL w' w.heap.size 92 (wayC y)) [(0,true),(1,true),(2,true),(3,true),(4,true),(5,true),(6,true)] 7 (by kernel_rfl) (by kernel_rfl) (by kernel_rfl) (by kernel_rfl) (by kernel_rfl) rfl (fun _ _ _ _ _ h=>h) ⟨HRG6.out.drew,HRY6.out.drew⟩ (fun hHeld=>?_)
 simp only [planOps,List.filterMap_cons,List.filterMap_nil,List.getElem?_toArray,List.getElem?_cons_succ,List.getElem?_cons_zero,Option.map_some]
 iterate 3
  refine wpPlan_take (v:=?_) (by kernel_rfl) (fun wS hSw=>?_) ?_
  rotate_left
  ·(try dsimp only at hSw);go_simp;(try with_reducible rfl)
  (try simp only [Act.put,pu1,pu2,pu3])
 refine wpPlan_take (v:=?_) (by kernel_rfl) (fun wS hSw=>?_) ?_
 rotate_left
 ·obtain ⟨hrg,-⟩:=hSw;have hcg:wS.cell? ⟨g,2,none⟩=some (.map (some b)):=hrg.cell 2;clear hrg;go_simp;(try with_reducible rfl)
 (try simp only [Act.put,pu1,pu2,pu3])
 refine wpPlan_take (v:=?_) (by kernel_rfl) (fun wS hSw=>?_) ?_
 rotate_left
 ·(try dsimp only at hSw);go_simp;(try with_reducible rfl)
 (try simp only [Act.put,pu1,pu2,pu3])
 refine wpPlan_take (v:=?_) (by kernel_rfl) (fun wS hSw=>?_) ?_
 rotate_left
 ·obtain ⟨-,hry⟩:=hSw;have hcg:wS.cell? ⟨w.heap.size,0,none⟩=some (.int .i64 y.ino):=hry.cell 0;clear hry;go_simp;(try with_reducible rfl)
 (try simp only [Act.put,pu1,pu2,pu3])
 refine wpPlan_take (v:=?_) (by kernel_rfl) (fun wS hSw=>?_) ?_
 rotate_left
 ·(try dsimp only at hSw);go_simp;(try with_reducible rfl)
 (try simp only [Act.put,pu1,pu2,pu3])
 refine wpPlan_end ?_
 refine postL_go rfl (by kernel_rfl) ?_
 obtain ⟨w7,hrun,hs7,hg7⟩:=(HS6.out.on (below_drew (below_self w6))).put hy (by simp only [maxLen];omega)
 have HS7:=hide hs7
 have HG7:=hide hg7
 have HRD:=hide hHeld.1
 clear hs7 hg7 hHeld
 unfold Oper.wp execOp
 go_simp
 refine bodyPost_end (v:=.tuple #[]) (by simp [results,Tryz.results110,go_sem]) rfl ?_
 have hT7:TurnW B g b w w7:=(HT6.out.trans (TurnW.of_below (below_drew (below_self w6)))).trans (TurnW.grown HG7.out (fun k e=>by have:=Option.some.inj e;subst this;exact ⟨hBb,.inr (.inl rfl)⟩))
 have hs6d:=HS6.out.on (below_drew (below_self w6))
 refine ⟨rfl,⟨A,n,c,A5,n1+1,c5,A2,n2,c2,hBg,hBb,HRD.out.grown HG7.out (hs6d.not_row HRD.out),hT7.rd HB0.out HN0.out,?_,HS7.out.eq (came_snoc _ _).symm,?_⟩,hT7⟩
 ·rw [flatW_snoc]
  exact HO6.out.drew.kept HG7.out (hs6d.not_own HO6.out.drew)
 ·exact HN6.out.drew.kept HG7.out (hs6d.not_own HN6.out.drew)
end Go.Proofs.YtpndfahgflgocaaGreatDoor

